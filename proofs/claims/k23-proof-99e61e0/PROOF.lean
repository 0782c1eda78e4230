import PyProof.Rows.All
import Wide.All
import OpenK.AllK
import Wide.FinOn
import Lean
import PyProof.EqAt
import PyProof.EqKinds
import PyProof.TupleCall
import PyProof.ExcAttrAll.ValueError
import PySem.Challenge.RW_rerunyard_k23_whole_goods_stood
set_option genSizeOf false
set_option Elab.async false
set_option linter.all false
set_option maxRecDepth 100000
/-! THE HAND LAYER, for ints, bools, texts, own classes, LISTS and tuples (index, slices, in, append, pop ..), calls, loops. Paste it whole ahead of your own text; what your proof does not reach may be deleted. -/
namespace L2
open PySem PySem.Spec PyProof.Rows

abbrev Key := Sum Int Str
def keyIs : Key → Value → Bool
  | .inl k, v => Value.isInt k v
  | .inr x, v => Value.isStrOf x v
def keyH (w : World) : Key → Int
  | .inl k => hashInt k
  | .inr x => hashStr w x
theorem keyIs_shape : ∀ {k : Key} {v : Value}, keyIs k v = true → (∃ i t, k = Sum.inl i ∧ v = Value.int i t) ∨ (∃ x t, k = Sum.inr x ∧ v = Value.str x t)
  | .inl i, v, h => by
    obtain ⟨t, e⟩ := Value.isInt_shape (k := i) (v := v) h
    exact .inl ⟨i, t, rfl, e⟩
  | .inr x, v, h => by
    obtain ⟨t, e⟩ := Value.isStrOf_shape (x := x) (v := v) h
    exact .inr ⟨x, t, rfl, e⟩
theorem keyIs_int (i : Int) (t : Tok) : keyIs (.inl i) (.int i t) = true := by simp [keyIs, Value.isInt]
theorem keyIs_str (x : Str) (t : Tok) : keyIs (.inr x) (.str x t) = true := by simp [keyIs, Value.isStrOf]
theorem key_ll (a b : Int) : decide ((Sum.inl a : Key) = Sum.inl b) = (a == b) := by
  by_cases e : a = b
  · subst e; simp
  · have h : ¬ (Sum.inl a : Key) = Sum.inl b := fun q => e (Sum.inl.inj q)
    rw [decide_eq_false h]
    exact (beq_eq_false_iff_ne.mpr e).symm
theorem key_rr (a b : Str) : decide ((Sum.inr a : Key) = Sum.inr b) = decide (a = b) := by
  by_cases e : a = b
  · subst e; simp
  · have h : ¬ (Sum.inr a : Key) = Sum.inr b := fun q => e (Sum.inr.inj q)
    rw [decide_eq_false h, decide_eq_false e]
theorem key_lr (a : Int) (b : Str) : decide ((Sum.inl a : Key) = Sum.inr b) = false := decide_eq_false (fun q => nomatch q)
theorem key_rl (a : Str) (b : Int) : decide ((Sum.inr a : Key) = Sum.inl b) = false := decide_eq_false (fun q => nomatch q)

def mixKind (prog : Program) (w : World) : PySem.KeyKind prog w Key where
  is := keyIs
  hash := keyH w
  inj := fun v a b ha hb => by
    rcases keyIs_shape ha with ⟨i, t, rfl, rfl⟩ | ⟨x, t, rfl, rfl⟩
    · rcases keyIs_shape hb with ⟨j, u, rfl, e⟩ | ⟨y, u, rfl, e⟩
      · injection e with e1 _; rw [e1]
      · exact nomatch e
    · rcases keyIs_shape hb with ⟨j, u, rfl, e⟩ | ⟨y, u, rfl, e⟩
      · exact nomatch e
      · injection e with e1 _; rw [e1]
  byValue := fun k v h => by
    rcases keyIs_shape h with ⟨i, t, rfl, rfl⟩ | ⟨x, t, rfl, rfl⟩ <;> rfl
  pyHash := fun hv h => by
    rcases keyIs_shape hv with ⟨i, t, rfl, rfl⟩ | ⟨x, t, rfl, rfl⟩
    · exact wpAny_pyHash_int h
    · exact wpAny_pyHash_str h
  eqBool := fun hu hv h => by
    rcases keyIs_shape hu with ⟨i, t, rfl, rfl⟩ | ⟨x, t, rfl, rfl⟩
    · rcases keyIs_shape hv with ⟨j, u, rfl, rfl⟩ | ⟨y, u, rfl, rfl⟩
      · rw [key_ll] at h; exact wpAny_eqBool_int h
      · rw [key_lr] at h; exact SeqAt.EqAt.int_str i t y u _ _ _ _ h
    · rcases keyIs_shape hv with ⟨j, u, rfl, rfl⟩ | ⟨y, u, rfl, rfl⟩
      · rw [key_rl] at h; exact SeqAt.EqAt.str_int x t j u _ _ _ _ h
      · rw [key_rr] at h; exact wpAny_eqBool_str h
  «strs» := fun k x t v h => by
    rcases keyIs_shape h with ⟨i, u, rfl, e⟩ | ⟨y, u, rfl, e⟩
    · exact nomatch e
    · injection e with e1 _
      subst e1
      cases v <;> rfl

theorem mixKind_int (prog : Program) (w : World) (i : Int) (t : Tok) : (mixKind prog w).is (.inl i) (.int i t) = true := keyIs_int i t
theorem mixKind_str (prog : Program) (w : World) (x : Str) (t : Tok) : (mixKind prog w).is (.inr x) (.str x t) = true := keyIs_str x t
end L2

namespace L2
open PySem PySem.Spec PyProof.Rows

inductive V where
  | non | bl (b : Bool) | int (i : Int) | str (x : Str) | byt (b : Array UInt8) | flt (b : UInt64) | ref (a : Addr) | ty (n : String)
  deriving DecidableEq

def RelV : V → Value → Prop
  | .non, u => u = Value.none
  | .bl b, u => u = Value.bool b
  | .int i, u => ∃ t, u = Value.int i t
  | .str x, u => ∃ t, u = Value.str x t
  | .byt b, u => ∃ t, u = Value.bytes b t
  | .flt b, u => ∃ t, u = Value.float b t
  | .ref a, u => u = Value.ref a
  | .ty n, u => u = Value.type n

abbrev Vals : List V → List Value → Prop := Paired RelV
theorem Vals.length {xs : List V} {us : List Value} (r : Vals xs us) : xs.length = us.length := Paired.length r
theorem Vals.get : ∀ {xs : List V} {us : List Value} {i : Nat} {x : V}, Vals xs us → xs[i]? = some x → ∃ u, us[i]? = some u ∧ RelV x u
  | _, _, _, _, .nil, e => by simp at e
  | _, _, 0, _, .cons r _, e => by simp at e; subst e; exact ⟨_, rfl, r⟩
  | _, _, i + 1, x, .cons _ t, e => by
    obtain ⟨u, h1, h2⟩ := Vals.get (i := i) (x := x) t (by simpa using e)
    exact ⟨u, by simpa using h1, h2⟩
theorem Vals.set {x : V} {u : Value} (r : RelV x u) : ∀ {xs : List V} {us : List Value} (i : Nat), Vals xs us → Vals (xs.set i x) (us.set i u)
  | _, _, _, .nil => .nil
  | _, _, 0, .cons _ t => .cons r t
  | _, _, i + 1, .cons q t => .cons q (Vals.set r i t)
theorem Vals.append : ∀ {xs ys : List V} {us ws : List Value}, Vals xs us → Vals ys ws → Vals (xs ++ ys) (us ++ ws)
  | _, _, _, _, .nil, s => s
  | _, _, _, _, .cons r t, s => .cons r (Vals.append t s)
theorem Vals.take : ∀ {xs : List V} {us : List Value} (n : Nat), Vals xs us → Vals (xs.take n) (us.take n)
  | _, _, 0, _ => .nil
  | _, _, _ + 1, .nil => .nil
  | _, _, n + 1, .cons r t => .cons r (Vals.take n t)
theorem Vals.drop : ∀ {xs : List V} {us : List Value} (n : Nat), Vals xs us → Vals (xs.drop n) (us.drop n)
  | _, _, 0, r => r
  | _, _, _ + 1, .nil => .nil
  | _, _, n + 1, .cons _ t => Vals.drop n t
def RelO : Option V → Option Value → Prop
  | some v, some u => RelV v u
  | none, none => True
  | _, _ => False
def KV {κ : Type} : List (κ × V) → List (κ × Value) → Prop := Paired fun (p : κ × V) (q : κ × Value) => p.1 = q.1 ∧ RelV p.2 q.2

def kV : Key → V
  | .inl i => .int i
  | .inr x => .str x

inductive HO where
  /-- a list -/
  | lst (xs : List V)
  /-- a tuple (never changes) -/
  | tup (xs : List V)
  /-- a dict whose keys are ints and texts; one whose keys are tuples of ints and texts (the empty one is both) -/
  | dK (kvs : List (Key × V)) | dT (kvs : List (List Key × V))
  /-- a set of ints: its members, its size -/
  | set (S : Int → Bool) (n : Nat)
  /-- an instance of the class at C, its dict at dx, its attributes -/
  | ins (C dx : Addr) (fs : List (Str × V))
  /-- the dict of the instance at x -/
  | own (x : Addr)
  /-- the dict of an exception -/
  | xd (fs : List (Str × V))
  /-- a bound method, f of x -/
  | met (f x : Addr)
  /-- a range object lo, lo + 1, .. below hi -/
  | rng (lo hi : Int)
  /-- a thing that is known to the object (the script; a dict while a loop walks it): read, never written while it is so -/
  | frz (o : Obj) (u : HO)
  /-- a code object's table -/
  | tbl (ps : Array Value)
  /-- any other thing, by what is true of its one object (a def of one's own: SetO a S n := HO.ext fun h => ..) -/
  | ext (φ : Heap → Prop)

abbrev Hp := Addr → Option HO
def upd (H : Hp) (a : Addr) (o : HO) : Hp := fun b => if b = a then some o else H b
theorem upd_same {H : Hp} {a : Addr} {o : HO} : upd H a o a = some o := by unfold upd; rw [if_pos rfl]
theorem upd_ne {H : Hp} {a b : Addr} {o : HO} (h : b ≠ a) : upd H a o b = H b := by unfold upd; rw [if_neg h]
theorem ne_of {H : Hp} {a b : Addr} {o u : HO} (h : H a = some o) (h' : H b = some u) (d : o ≠ u) : a ≠ b := by
  intro e; subst e; rw [h] at h'; exact d (Option.some.inj h')
theorem ne_of_none {H : Hp} {a b : Addr} {o : HO} (h : H a = some o) (h' : H b = none) : a ≠ b := by
  intro e; subst e; rw [h] at h'; cases h'

section
variable (P : Program) (w : World)
def ObjOk (H : Hp) (h : Heap) (a : Addr) : HO → Prop
  | .lst xs => xs.length ≤ sizeLine ∧ ∃ (its : List Value) (n : Nat), Vals xs its ∧ h.get? a = some { cls := .type "list", data := .seq its.toArray n }
  | .tup xs => xs.length ≤ sizeLine ∧ ∃ its : List Value, Vals xs its ∧ IsTup h a its.toArray
  | .dK kvs => kvs.length ≤ sizeLine ∧ (a == sysModules) = false ∧ ∃ vs, KV kvs vs ∧ h.DictOf (mixKind P w) a vs
  | .dT kvs => kvs.length ≤ sizeLine ∧ (a == sysModules) = false ∧ ∃ xs : List (List Key × Addr × Value),
      Paired (fun (p : List Key × V) (q : List Key × Addr × Value) => p.1 = q.1 ∧ H q.2.1 = some (.tup (p.1.map kV)) ∧ RelV p.2 q.2.2) kvs xs ∧
      ∃ o es ep, h.get? a = some o ∧ o.ExactDict ∧ o.data = .dict es ep ∧ es.toList = xs.map (entryOfKey (tupleKind (mixKind P w))) ∧ (xs.map (·.1)).Nodup
  | .set S n => h.SetOf (intKind P w) a S n
  | .ins C dx fs => H dx = some (.own a) ∧ fs.length ≤ 1000 ∧ dx ≠ a ∧ h.get? a = some (PySem.W.instObj C dx) ∧
      ∃ mA, h.Ns1 dx mA ∧ (∀ f, RelO (fs.lookup f) (mA f)) ∧ PySem.Within mA (fs.map (·.1))
  | .own _ => ∃ o, h.get? a = some o
  | .xd fs => ∃ mA, h.Ns1 a mA ∧ ∀ f, RelO (fs.lookup f) (mA f)
  | .rng lo hi => ∃ t u v, h.get? a = some { cls := .type "range", data := .fields #[.int lo t, .int hi u, .int 1 v] }
  | .frz o u => h.get? a = some o ∧ ObjOk H h a u
  | .tbl ps => h.get? a = some { cls := .none, data := .fields ps }
  | .met f x => h.get? a = some (PySem.W.methodObj (.ref f) (.ref x))
  | .ext φ => φ h ∧ (∃ o, h.get? a = some o) ∧ ∀ h1 h2 : Heap, φ h1 → (∀ o, h1.get? a = some o → h2.get? a = some o) → φ h2
def HOk (H : Hp) (h : Heap) : Prop := ∀ a o, H a = some o → ObjOk P w H h a o
end

section
variable {P : Program} {w : World} {H H' : Hp} {h h' : Heap} {a : Addr} {o : HO}
theorem ObjOk.lt (x : ObjOk P w H h a o) : a < h.objs.size := by
  cases o with
  | lst xs => obtain ⟨_, _, _, _, e⟩ := x; exact Heap.lt_size e
  | tup xs => obtain ⟨_, _, _, p⟩ := x; exact p.lt
  | dK kvs => obtain ⟨_, _, _, _, o, _, _, e, _⟩ := x; exact Heap.lt_size e
  | dT kvs => obtain ⟨_, _, _, _, o, _, _, e, _⟩ := x; exact Heap.lt_size e
  | set S n => obtain ⟨o, _, _, _, e, _⟩ := x; exact Heap.lt_size e
  | ins C dx fs => obtain ⟨_, _, _, e, _⟩ := x; exact Heap.lt_size e
  | own y => obtain ⟨_, e⟩ := x; exact Heap.lt_size e
  | xd fs => obtain ⟨_, ⟨_, _, _, e, _⟩, _⟩ := x; exact Heap.lt_size e
  | rng lo hi => obtain ⟨_, _, _, e⟩ := x; exact Heap.lt_size e
  | frz ob u => obtain ⟨e, _⟩ := x; exact Heap.lt_size e
  | tbl ps => exact Heap.lt_size (show h.get? a = some _ from x)
  | met f y => exact Heap.lt_size (show h.get? a = some _ from x)
  | ext φ => obtain ⟨_, ⟨_, e⟩, _⟩ := x; exact Heap.lt_size e
theorem Paired.mapP {α β : Type} {F G : α → β → Prop} : ∀ {l₁ : List α} {l₂ : List β}, Paired F l₁ l₂ → (∀ a b, F a b → G a b) → Paired G l₁ l₂
  | _, _, .nil, _ => .nil
  | _, _, .cons r t, f => .cons (f _ _ r) (Paired.mapP t f)
theorem ObjOk.stay (x : ObjOk P w H h a o) (k : ∀ b u, (b = a ∨ H b = some (.own a)) → h.get? b = some u → h'.get? b = some u)
    (ho : ∀ b, H b = some (.own a) → H' b = some (.own a)) (ht : ∀ b xs, H b = some (.tup xs) → H' b = some (.tup xs)) : ObjOk P w H' h' a o := by
  induction o with
  | lst xs => obtain ⟨z, its, n, r, e⟩ := x; exact ⟨z, its, n, r, k _ _ (.inl rfl) e⟩
  | tup xs => obtain ⟨z, its, r, ob, e, c⟩ := x; exact ⟨z, its, r, ob, k _ _ (.inl rfl) e, c⟩
  | dK kvs => obtain ⟨z, y, vs, r, ob, es, ep, e, c⟩ := x; exact ⟨z, y, vs, r, ob, es, ep, k _ _ (.inl rfl) e, c⟩
  | dT kvs =>
    obtain ⟨z, y, xs, r, ob, es, ep, e, c⟩ := x
    exact ⟨z, y, xs, Paired.mapP r fun p q z => ⟨z.1, ht _ _ z.2.1, z.2.2⟩, ob, es, ep, k _ _ (.inl rfl) e, c⟩
  | set S n => obtain ⟨ob, es, ep, t, e, c⟩ := x; exact ⟨ob, es, ep, t, k _ _ (.inl rfl) e, c⟩
  | ins C dx fs =>
    obtain ⟨d, z, ne, e, mA, ⟨od, es, ep, e2, c⟩, r⟩ := x
    exact ⟨ho _ d, z, ne, k _ _ (.inl rfl) e, mA, ⟨od, es, ep, k _ _ (.inr d) e2, c⟩, r⟩
  | own y => obtain ⟨ob, e⟩ := x; exact ⟨ob, k _ _ (.inl rfl) e⟩
  | xd fs => obtain ⟨mA, ⟨od, es, ep, e, c⟩, r⟩ := x; exact ⟨mA, ⟨od, es, ep, k _ _ (.inl rfl) e, c⟩, r⟩
  | rng lo hi => obtain ⟨t, u, v, e⟩ := x; exact ⟨t, u, v, k _ _ (.inl rfl) e⟩
  | frz ob u ih => obtain ⟨e, q⟩ := x; exact ⟨k _ _ (.inl rfl) e, ih q⟩
  | tbl ps =>
    have e : h.get? a = some { cls := .none, data := .fields ps } := x
    show h'.get? a = some { cls := .none, data := .fields ps }
    exact k a _ (.inl rfl) e
  | met f y =>
    have e : h.get? a = some (PySem.W.methodObj (.ref f) (.ref y)) := x
    show h'.get? a = some (PySem.W.methodObj (.ref f) (.ref y))
    exact k a _ (.inl rfl) e
  | ext φ => obtain ⟨p, ⟨o, e⟩, st⟩ := x; exact ⟨st _ _ p fun o q => k _ _ (.inl rfl) q, ⟨o, k _ _ (.inl rfl) e⟩, st⟩
theorem HOk.lt (x : HOk P w H h) (e : H a = some o) : a < h.objs.size := (x a o e).lt
theorem HOk.fresh (x : HOk P w H h) (e : h.objs.size ≤ a) : H a = none := by
  cases q : H a with
  | none => rfl
  | some u => exact absurd (Nat.lt_of_lt_of_le (x.lt q) e) (Nat.lt_irrefl _)
theorem HOk.kept (x : HOk P w H h) (k : ∀ b u, h.get? b = some u → h'.get? b = some u) : HOk P w H h' := fun a o e =>
  (x a o e).stay (fun b u _ q => k b u q) (fun _ q => q) fun _ _ q => q
theorem HOk.laid (x : HOk P w H h) (k : ∀ b u, h.get? b = some u → h'.get? b = some u) (hp : h.objs.size ≤ a) (new : ObjOk P w (upd H a o) h' a o) : HOk P w (upd H a o) h' := fun b u e => by
  have hn := x.fresh hp
  by_cases hb : b = a
  · subst hb; rw [upd_same] at e; cases e; exact new
  · rw [upd_ne hb] at e
    exact (x b u e).stay (fun c v _ q => k c v q) (fun c q => by rw [upd_ne (ne_of_none q hn)]; exact q) fun c xs q => by rw [upd_ne (ne_of_none q hn)]; exact q
end

def Rd (H : Hp) (a : Addr) (u : HO) : Prop := H a = some u ∨ ∃ o, H a = some (.frz o u)
theorem Rd.of {H : Hp} {a : Addr} {u : HO} (h : H a = some u) : Rd H a u := .inl h
theorem Rd.ok {P : Program} {w : World} {H : Hp} {h : Heap} {a : Addr} {u : HO} (r : Rd H a u) (x : HOk P w H h) : ObjOk P w H h a u := by
  rcases r with r | ⟨o, r⟩
  · exact x a u r
  · obtain ⟨_, q⟩ := x a _ r
    exact q
def Mut : Option HO → Prop
  | some (.lst _) => True
  | some (.dK _) => True
  | some (.dT _) => True
  | some (.set _ _) => True
  | some (.ins _ _ _) => True
  | some (.ext _) => True
  | _ => False
section
variable {P : Program} {w : World} {H : Hp} {h h' : Heap} {x e : Addr} {o' : HO}
theorem HOk.write (ok : HOk P w H h) (mu : Mut (H x)) (he : e = x ∨ H e = some (.own x)) (k : ∀ b u, b ≠ e → h.get? b = some u → h'.get? b = some u) (heo : ∃ u, h'.get? e = some u)
    (new : ObjOk P w (upd H x o') h' x o') : HOk P w (upd H x o') h' := fun b u q => by
  have nown : ∀ c y, H c = some (.own y) → c ≠ x := fun c y r z => by subst z; rw [r] at mu; exact mu
  have ntup : ∀ c xs, H c = some (.tup xs) → c ≠ x := fun c xs r z => by subst z; rw [r] at mu; exact mu
  by_cases hb : b = x
  · subst hb; rw [upd_same] at q; cases q; exact new
  · rw [upd_ne hb] at q
    by_cases hbe : b = e
    · have q' : H b = some (.own x) := by
        rcases he with z | z
        · exact absurd (hbe.trans z) hb
        · rw [hbe]; exact z
      rw [q] at q'; cases q'
      obtain ⟨v, hv⟩ := heo
      exact ⟨v, by rw [hbe]; exact hv⟩
    · refine (ok b u q).stay (fun c v hc r => k c v ?_ r) (fun c r => by rw [upd_ne (nown c b r)]; exact r) fun c xs r => by rw [upd_ne (ntup c xs r)]; exact r
      rcases hc with rfl | hc
      · exact hbe
      · rintro rfl
        rcases he with z | z
        · exact nown c b hc z
        · rw [hc] at z; cases z; exact hb rfl
end

/-! ### kept unless tracked; of the frames at fs (the callers') the slots may change (an exception that passes writes there); of the records at ex (iterators) nothing is said -/
structure Un (fs ex : List Addr) (H H' : Hp) (h h' : Heap) : Prop where
  keep : ∀ b o, h.get? b = some o → H b = none → b ∉ fs → b ∉ ex → h'.get? b = some o
  slot : ∀ b o, h.get? b = some o → H b = none → b ∈ fs → b ∉ ex → ∃ sl, h'.get? b = some { o with slots := sl }
  free : ∀ b o, h.get? b = some o → H b = none → b ∉ ex → H' b = none
  there : ∀ b o, h.get? b = some o → b ∉ ex → ∃ o', h'.get? b = some o'
  tups : ∀ b xs, H b = some (.tup xs) → H' b = some (.tup xs)
  frzs : ∀ b o u, H b = some (.frz o u) → H' b = some (.frz o u)
  tbls : ∀ b ps, H b = some (.tbl ps) → ∃ more, H' b = some (.tbl (ps ++ more))
section
variable {fs fs' ex ex' : List Addr} {H H1 H2 : Hp} {h h1 h2 h' : Heap} {a x e : Addr} {o : HO}
theorem Un.any (u : Un fs ex H H1 h h1) {b : Addr} {ob : Obj} (q : h.get? b = some ob) (n : H b = none) (hx : b ∉ ex) : ∃ sl, h1.get? b = some { ob with slots := sl } := by
  by_cases hb : b ∈ fs
  · exact u.slot b ob q n hb hx
  · exact ⟨ob.slots, u.keep b ob q n hb hx⟩
theorem Un.kept (k : ∀ b u, h.get? b = some u → h'.get? b = some u) : Un fs ex H H h h' :=
  ⟨fun b ob q _ _ _ => k b ob q, fun b ob q _ _ _ => ⟨ob.slots, k b ob q⟩, fun _ _ _ n _ => n, fun b ob q _ => ⟨ob, k b ob q⟩, fun _ _ q => q, fun _ _ _ q => q, fun _ ps q => ⟨#[], by rw [q]; simp⟩⟩
theorem Un.refl : Un fs ex H H h h := Un.kept fun _ _ q => q
theorem Un.laid (k : ∀ b u, h.get? b = some u → h'.get? b = some u) (hp : h.objs.size ≤ a) (hn : H a = none) : Un fs ex H (upd H a o) h h' where
  keep := fun b u q _ _ _ => k b u q
  slot := fun b u q _ _ _ => ⟨u.slots, k b u q⟩
  free := fun b u q n _ => by rw [upd_ne (Nat.ne_of_lt (Nat.lt_of_lt_of_le (Heap.lt_size q) hp))]; exact n
  there := fun b u q _ => ⟨u, k b u q⟩
  tups := fun b xs q => by rw [upd_ne (ne_of_none q hn)]; exact q
  frzs := fun b u xs q => by rw [upd_ne (ne_of_none q hn)]; exact q
  tbls := fun b ps q => ⟨#[], by rw [upd_ne (ne_of_none q hn), q]; simp⟩
theorem Un.write (mu : Mut (H x)) (he : e = x ∨ H e = some (.own x)) (k : ∀ b u, b ≠ e → h.get? b = some u → h'.get? b = some u) (heo : ∃ u, h'.get? e = some u) : Un fs ex H (upd H x o) h h' := by
  have hx : ∀ b, H b = none → b ≠ x := fun b n z => by subst z; rw [n] at mu; exact mu
  have hb : ∀ b, H b = none → b ≠ e := fun b n z => by
    subst z
    rcases he with r | r
    · exact hx b n r
    · rw [n] at r; cases r
  have hm : ∀ b u, H b = some u → ¬ Mut (some u) → b ≠ x := fun b u q nm z => by subst z; rw [q] at mu; exact nm mu
  refine ⟨fun b u q n _ _ => k b u (hb b n) q, fun b u q n _ _ => ⟨u.slots, k b u (hb b n) q⟩, fun b u q n _ => by rw [upd_ne (hx b n)]; exact n, fun b u q _ => ?_,
    fun b xs q => by rw [upd_ne (hm b _ q fun z => z)]; exact q, fun b u xs q => by rw [upd_ne (hm b _ q fun z => z)]; exact q, fun b ps q => ⟨#[], by rw [upd_ne (hm b _ q fun z => z), q]; simp⟩⟩
  by_cases hbe : b = e
  · subst hbe; exact heo
  · exact ⟨u, k b u hbe q⟩
end

/-! ### the heap without what is tracked -/
def trk (h : Heap) (H : Hp) : List Addr := (List.range h.objs.size).filter fun a => (H a).isSome
def hidT (h : Heap) (H : Hp) : Heap := PySem.W.hideAll h (trk h H)
theorem hidT_size (h : Heap) (H : Hp) : (hidT h H).objs.size = h.objs.size := PySem.W.hideAll_size _ _
theorem hidT_get {h : Heap} {H : Hp} {b : Addr} {o : Obj} (e : h.get? b = some o) (n : H b = none) : (hidT h H).get? b = some o :=
  PySem.W.hideAll_get _ e fun hm => by
    have q : (H b).isSome = true := (List.mem_filter.mp hm).2
    rw [n] at q; simp at q
theorem of_hidT {h : Heap} {H : Hp} {b : Addr} {o : Obj} (e : (hidT h H).get? b = some o) : h.get? b = some o ∧ H b = none := by
  have e' : h.get? b = some o := PySem.W.of_hideAll (trk h H) e
  refine ⟨e', ?_⟩
  cases q : H b with
  | none => rfl
  | some x =>
    have hm : b ∈ trk h H := List.mem_filter.mpr ⟨List.mem_range.mpr (Heap.lt_size e'), by simp [q]⟩
    have z : (hidT h H).get? b = none := PySem.W.hideAll_none (trk h H) hm
    rw [z] at e; cases e

/-! ### OpenK's ledger, filled with every new object but one -/
def allNews (g h : Heap) (L : Addr) : List (Addr × Obj) := (List.range h.objs.size).filterMap fun a => if a = L ∨ (g.get? a).isSome = true then none else (h.get? a).map fun o => (a, o)
def rest (g h : Heap) (L d : Addr) : List (Addr × Obj) := (allNews g h L).filter fun p => decide (p.1 ≠ d)
end L2

namespace L2
open PySem PySem.Spec PyProof.Rows

structure Mod (K : PySem.W.Frag) (mg : Str → Option Value) (base : Heap) : Prop where
  kin : K.In base
  glob : base.Ns mainGlobals mg
  blt : ∃ mb, base.Ns builtinsNs mb ∧ ∀ x : Str, x ≠ "__name__" → mb x = bootBuiltins x
  nolimit : base.NoLimit

structure Cx where
  prog : Program
  w : World
  K : PySem.W.Frag
  mg : Str → Option Value
  base : Heap
  A : Around
  N : List Str
  s₀ : Shared
  H₀ : Hp
  env : Env
  outer : List Env
  stack : List Env
  ex : List Addr
  fn : Str → Bool
  calm : Bool
  pn : List (Addr × Obj)
  xe : Value → Shared → Prop
def frs (l : List Env) : List Addr := l.filterMap (·.frame)
abbrev Cx.fs (X : Cx) : List Addr := frs X.outer

def Vis (sc : Scope) (x : Str) : Prop := sc.names.lookup x = some .local ∨ sc.names.lookup x = some .cell ∨ sc.names.lookup x = some .free
def Loc (sc : Scope) (x : Str) : Prop := sc.names.lookup x = some .local ∨ sc.names.lookup x = some .cell
def Look (env : Env) (h : Heap) (m : Str → Option Value) (x : Str) (u : Value) : Prop :=
  (env.kindOf x = some .local ∧ m x = some u) ∨ ((env.kindOf x = some .cell ∨ env.kindOf x = some .free) ∧ ∃ c, env.cells.lookup x = some c ∧ h.IsCell c (some u))

structure Cx.Ok (X : Cx) : Prop where
  mod : Mod X.K X.mg X.base
  kind : X.env.scope.kind = .function
  glob : X.env.globals = mainGlobals
  blt : X.env.builtins = builtinsNs
  above : X.s₀.heap.objs.size ≤ X.env.locals
  inj : ∀ x y c, X.env.cells.lookup x = some c → X.env.cells.lookup y = some c → x = y
  has : ∀ x, (X.env.kindOf x = some .cell ∨ X.env.kindOf x = some .free) → ∃ c, X.env.cells.lookup x = some c
  cab : ∀ x c, X.fn x = true → X.env.cells.lookup x = some c → X.s₀.heap.objs.size ≤ c
  hd : X.calm = true → X.A.handled = none
  frames : X.A.frames = some X.stack
  stk : X.stack = X.outer ∨ (X.stack = X.env :: X.outer ∧ X.env.frame = some X.env.locals)
  exf : ∀ b ∈ X.ex, b ≠ X.env.locals ∧ ∀ x c, X.env.cells.lookup x = some c → c ≠ b
  bs : ∀ b o, X.base.get? b = some o → X.s₀.heap.get? b = some o ∧ X.H₀ b = none
  bsz : X.base.objs.size ≤ X.s₀.heap.objs.size
  noex : ∀ b o, X.base.get? b = some o → b ∉ X.ex
  exfs : ∀ b ∈ X.ex, b ∉ X.fs
  funs : X.s₀.heap.FunFrames X.base X.outer
  frf : ∀ b ∈ X.fs, X.H₀ b = none

structure Inv (X : Cx) (pins : List (Addr × Obj)) (σ : List (Option V)) (H : Hp) (s : Shared) : Prop where
  ok : X.Ok
  os : s.os = X.s₀.os
  bare : AllBare s.gens
  base : Un X.fs X.ex X.H₀ H X.s₀.heap s.heap
  loc : ∃ m, s.heap.Ns X.env.locals m ∧ ∀ (i : Nat) (x : Str) (v : V), X.N[i]? = some x → σ[i]? = some (some v) → Vis X.env.scope x → ∃ u, RelV v u ∧ Look X.env s.heap m x u
  cell : ∀ x c, X.env.cells.lookup x = some c → ∃ v, s.heap.IsCell c v
  free : H X.env.locals = none
  freeC : ∀ x c, X.env.cells.lookup x = some c → H c = none
  pin : ∀ p ∈ X.pn ++ pins, s.heap.get? p.1 = some p.2 ∧ H p.1 = none ∧ p.1 ≠ X.env.locals ∧ p.1 ∉ X.fs ∧ ∀ v, p.2.data ≠ .cell v
  hok : HOk X.prog X.w H s.heap
  len : σ.length = X.N.length

section
variable {X : Cx} {pins : List (Addr × Obj)} {σ : List (Option V)} {H H' : Hp} {s : Shared} {h' : Heap}

theorem Cx.Ok.nofr (ok : X.Ok) {b : Addr} {o : Obj} (e : X.base.get? b = some o) : b ∉ X.fs := fun hb => by
  have := (ok.funs.mem hb).1
  rw [e] at this; cases this
theorem Inv.bs (I : Inv X pins σ H s) : ∀ b o, X.base.get? b = some o → s.heap.get? b = some o ∧ H b = none := fun b o e =>
  ⟨I.base.keep b o (I.ok.bs b o e).1 (I.ok.bs b o e).2 (I.ok.nofr e) (I.ok.noex b o e), I.base.free b o (I.ok.bs b o e).1 (I.ok.bs b o e).2 (I.ok.noex b o e)⟩
theorem Inv.bk (I : Inv X pins σ H s) : ∀ b o, X.base.get? b = some o → s.heap.get? b = some o := fun b o e => (I.bs b o e).1
theorem Inv.mod (I : Inv X pins σ H s) : Mod X.K X.mg X.base := I.ok.mod
theorem Inv.kIn (I : Inv X pins σ H s) : X.K.In s.heap := I.ok.mod.kin.keeps I.bk
theorem Inv.lt (I : Inv X pins σ H s) : X.env.locals < s.heap.objs.size := let ⟨_, hn, _⟩ := I.loc; hn.lt
theorem Inv.sz (I : Inv X pins σ H s) : X.s₀.heap.objs.size ≤ s.heap.objs.size := Nat.le_trans I.ok.above (Nat.le_of_lt I.lt)
theorem Inv.nofs (I : Inv X pins σ H s) {a : Addr} (h : s.heap.objs.size ≤ a) : a ∉ X.fs := fun hb => by
  obtain ⟨_, o, ho, _⟩ := I.ok.funs.mem hb
  exact absurd (Nat.lt_of_lt_of_le (Heap.lt_size ho) (Nat.le_trans I.sz h)) (Nat.lt_irrefl _)
theorem Inv.cne (I : Inv X pins σ H s) : ∀ x c, X.env.cells.lookup x = some c → c ≠ X.env.locals := fun x c e z => by
  obtain ⟨v, o, ho, hd⟩ := I.cell x c e
  obtain ⟨m, ⟨o', es, ep, ho', hd', _⟩, _⟩ := I.loc
  rw [z, ho'] at ho; cases ho; rw [hd'] at hd; cases hd
theorem Inv.funs (I : Inv X pins σ H s) : s.heap.FunFrames X.base X.outer := by
  have all : ∀ (l : List Env), (∀ b ∈ frs l, b ∈ X.fs) → X.s₀.heap.FunFrames X.base l → s.heap.FunFrames X.base l := by
    intro l
    induction l with
    | nil => intro _ _; trivial
    | cons env r ih =>
      intro hs hl
      obtain ⟨hk, ⟨L, o, hf, hn, ho, hd⟩, hr⟩ := hl
      have hL : L ∈ X.fs := hs L (by unfold frs; rw [List.filterMap_cons, hf]; exact List.mem_cons_self)
      obtain ⟨sl, e⟩ := I.base.slot L o ho (I.ok.frf L hL) hL fun z => I.ok.exfs L z hL
      exact ⟨hk, ⟨L, _, hf, hn, e, hd⟩, ih (fun b hb => hs b (by unfold frs; rw [List.filterMap_cons, hf]; exact List.mem_cons_of_mem _ hb)) hr⟩
  exact all X.outer (fun _ hb => hb) I.ok.funs

theorem Inv.stack (I : Inv X pins σ H s) : s.heap.FunFrames X.base X.stack := by
  rcases I.ok.stk with e | ⟨e, hf⟩
  · rw [e]; exact I.funs
  · rw [e]
    obtain ⟨m, hn, _⟩ := I.loc
    refine .cons (by rw [I.ok.kind]; decide) hf hn ?_ I.funs
    exact Heap.get?_none_of_le (Nat.le_trans I.ok.bsz I.ok.above)
theorem Inv.stkSub (I : Inv X pins σ H s) : ∀ b ∈ frs X.stack, b ∈ X.env.locals :: X.fs := fun b hb => by
  rcases I.ok.stk with e | ⟨e, hf⟩
  · rw [e] at hb; exact List.mem_cons_of_mem _ hb
  · rw [e] at hb
    unfold frs at hb
    rw [List.filterMap_cons, hf] at hb
    exact hb
theorem Inv.stkFree (I : Inv X pins σ H s) : ∀ b ∈ frs X.stack, H b = none := fun b hb => by
  rcases List.mem_cons.mp (I.stkSub b hb) with e | hb
  · rw [e]; exact I.free
  · obtain ⟨_, o, ho, _⟩ := I.ok.funs.mem hb
    exact I.base.free b o ho (I.ok.frf b hb) fun z => I.ok.exfs b z hb

theorem Inv.step {g' : Array GenState} {t' : Nat} {d' : Drawn} {ch : List Addr} (I : Inv X pins σ H s)
    (hch : ∀ b ∈ ch, (b ∈ X.ex ∨ X.s₀.heap.objs.size ≤ b) ∧ b ≠ X.env.locals ∧ (∀ x c, X.env.cells.lookup x = some c → c ≠ b) ∧ ∀ p ∈ X.pn ++ pins, p.1 ≠ b)
    (keep : ∀ b o, b ≠ X.env.locals → b ∉ X.fs → b ∉ ch → s.heap.get? b = some o → H b = none → h'.get? b = some o)
    (slot : ∀ b o, b ≠ X.env.locals → b ∈ X.fs → b ∉ ch → s.heap.get? b = some o → H b = none → ∃ sl, h'.get? b = some { o with slots := sl }) (free : ∀ b o, b ∉ ch → s.heap.get? b = some o → H b = none → H' b = none)
    (there : ∀ b o, b ∉ ch → s.heap.get? b = some o → ∃ o', h'.get? b = some o')
    (tups : ∀ b xs, H b = some (.tup xs) → H' b = some (.tup xs)) (frzs : ∀ b o u, H b = some (.frz o u) → H' b = some (.frz o u)) (tbls : ∀ b ps, H b = some (.tbl ps) → ∃ more, H' b = some (.tbl (ps ++ more)))
    (ns : ∀ m, s.heap.Ns X.env.locals m → h'.Ns X.env.locals m) (hok : HOk X.prog X.w H' h') (hg : AllBare g') :
    Inv X pins σ H' { s with heap := h', gens := g', drawn := d', toks := t' } := by
  have neL : ∀ b o, X.s₀.heap.get? b = some o → b ≠ X.env.locals := fun b o e => Nat.ne_of_lt (Nat.lt_of_lt_of_le (Heap.lt_size e) I.ok.above)
  have neC : ∀ b o, X.s₀.heap.get? b = some o → b ∉ X.ex → b ∉ ch := fun b o e hx hb => by
    rcases (hch b hb).1 with z | z
    · exact hx z
    · exact absurd (Nat.lt_of_lt_of_le (Heap.lt_size e) z) (Nat.lt_irrefl _)
  have cellK : ∀ x c, X.env.cells.lookup x = some c → ∀ v, s.heap.IsCell c v → h'.IsCell c v := fun x c e v ⟨o, ho, hd⟩ => by
    have nch : c ∉ ch := fun z => (hch c z).2.2.1 x c e rfl
    by_cases hc : c ∈ X.fs
    · obtain ⟨sl, q⟩ := slot c o (I.cne x c e) hc nch ho (I.freeC x c e)
      exact ⟨_, q, hd⟩
    · exact ⟨o, keep c o (I.cne x c e) hc nch ho (I.freeC x c e), hd⟩
  refine ⟨I.ok, I.os, hg, ⟨fun b o e n hb hx => ?_, fun b o e n hb hx => ?_, fun b o e n hx => ?_, fun b o e hx => ?_, fun b xs e => tups b xs (I.base.tups b xs e), fun b o xs e => frzs b o xs (I.base.frzs b o xs e), fun b ps e => ?_⟩, ?_, fun x c e => ?_, ?_, fun x c e => ?_, fun p hp => ?_, hok, I.len⟩
  · exact keep b o (neL b o e) hb (neC b o e hx) (I.base.keep b o e n hb hx) (I.base.free b o e n hx)
  · obtain ⟨sl, e1⟩ := I.base.slot b o e n hb hx
    obtain ⟨sl', e2⟩ := slot b _ (neL b o e) hb (neC b o e hx) e1 (I.base.free b o e n hx)
    exact ⟨sl', e2⟩
  · obtain ⟨o', e1⟩ := I.base.there b o e hx
    exact free b o' (neC b o e hx) e1 (I.base.free b o e n hx)
  · obtain ⟨o', e1⟩ := I.base.there b o e hx
    exact there b o' (neC b o e hx) e1
  · obtain ⟨m1, e1⟩ := I.base.tbls b ps e
    obtain ⟨m2, e2⟩ := tbls b _ e1
    exact ⟨m1 ++ m2, by rw [e2, Array.append_assoc]⟩
  · obtain ⟨m, hn, hl⟩ := I.loc
    refine ⟨m, ns m hn, fun i x v e1 e2 e3 => ?_⟩
    obtain ⟨u, r, l⟩ := hl i x v e1 e2 e3
    refine ⟨u, r, ?_⟩
    rcases l with l | ⟨k, c, e, z⟩
    · exact .inl l
    · exact .inr ⟨k, c, e, cellK x c e _ z⟩
  · obtain ⟨v, z⟩ := I.cell x c e
    exact ⟨v, cellK x c e v z⟩
  · obtain ⟨m, ⟨o, _, _, ho, _⟩, _⟩ := I.loc
    exact free _ o (fun z => (hch _ z).2.1 rfl) ho I.free
  · obtain ⟨v, o, ho, hd⟩ := I.cell x c e
    exact free c o (fun z => (hch c z).2.2.1 x c e rfl) ho (I.freeC x c e)
  · obtain ⟨e, n, ne, nf, d⟩ := I.pin p hp
    have nch : p.1 ∉ ch := fun z => (hch p.1 z).2.2.2 p hp rfl
    exact ⟨keep p.1 p.2 ne nf nch e n, free p.1 p.2 nch e n, ne, nf, d⟩
theorem Inv.un {t' : Nat} (I : Inv X pins σ H s) (u : Un X.fs [] H H' s.heap h') (hok : HOk X.prog X.w H' h') : Inv X pins σ H' { s with heap := h', toks := t' } := by
  obtain ⟨m, ⟨o, es, ep, ho, r⟩, _⟩ := id I.loc
  obtain ⟨sl, hL⟩ := u.any ho I.free (by simp)
  exact I.step (g' := s.gens) (d' := s.drawn) (ch := []) (fun _ z => nomatch z) (fun b o _ hb _ e n => u.keep b o e n hb (by simp)) (fun b o _ hb _ e n => u.slot b o e n hb (by simp)) (fun b o _ e n => u.free b o e n (by simp)) (fun b o _ e => u.there b o e (by simp)) u.tups u.frzs u.tbls (fun m' hm => by
    obtain ⟨o', es', ep', ho', r'⟩ := hm
    rw [ho] at ho'; cases ho'
    exact ⟨_, es', ep', hL, r'⟩) hok I.bare
theorem Inv.call {g' : Array GenState} {t' : Nat} {d' : Drawn} {ch : List Addr} (I : Inv X pins σ H s) (u : Un (frs X.stack) ch H H' s.heap h') (hok : HOk X.prog X.w H' h') (hg : AllBare g')
    (hch : ∀ b ∈ ch, (b ∈ X.ex ∨ X.s₀.heap.objs.size ≤ b) ∧ b ≠ X.env.locals ∧ (∀ x c, X.env.cells.lookup x = some c → c ≠ b) ∧ ∀ p ∈ X.pn ++ pins, p.1 ≠ b) :
    Inv X pins σ H' { s with heap := h', gens := g', drawn := d', toks := t' } := by
  obtain ⟨m, ⟨o, es, ep, ho, r⟩, _⟩ := id I.loc
  obtain ⟨sl, hL⟩ := u.any ho I.free fun z => (hch _ z).2.1 rfl
  exact I.step (ch := ch) hch (fun b o hL hb hc e n => u.keep b o e n (fun z => (List.mem_cons.mp (I.stkSub b z)).elim hL hb) hc) (fun b o _ _ hc e n => u.any e n hc) (fun b o hc e n => u.free b o e n hc) (fun b o hc e => u.there b o e hc) u.tups u.frzs u.tbls (fun m' hm => by
    obtain ⟨o', es', ep', ho', r'⟩ := hm
    rw [ho] at ho'; cases ho'
    exact ⟨_, es', ep', hL, r'⟩) hok hg
theorem Inv.turned {t' : Nat} {it : Addr} (I : Inv X pins σ H s) (k : ∀ b o, b ≠ it → s.heap.get? b = some o → h'.get? b = some o) (hn : H it = none) (hL : it ≠ X.env.locals)
    (h1 : it ∈ X.ex ∨ X.s₀.heap.objs.size ≤ it) (h2 : ∀ x c, X.env.cells.lookup x = some c → c ≠ it) (h3 : ∀ p ∈ X.pn ++ pins, p.1 ≠ it) : Inv X pins σ H { s with heap := h', toks := t' } := by
  have nit : ∀ b u, H b = some u → b ≠ it := fun b u e z => by rw [z, hn] at e; cases e
  refine I.step (g' := s.gens) (d' := s.drawn) (ch := [it]) (fun b hb => ?_) (fun b o _ _ hc e _ => k b o (fun z => hc (by simp [z])) e) (fun b o _ _ hc e _ => ⟨o.slots, k b o (fun z => hc (by simp [z])) e⟩) (fun _ _ _ _ n => n)
    (fun b o hc e => ⟨o, k b o (fun z => hc (by simp [z])) e⟩) (fun _ _ e => e) (fun _ _ _ e => e) (fun b ps e => ⟨#[], by rw [e]; simp⟩) (fun m hm => ?_) (fun b u e => ?_) I.bare
  · have e : b = it := by simpa using hb
    subst e
    exact ⟨h1, hL, h2, h3⟩
  · obtain ⟨o, es, ep, ho, r⟩ := hm
    exact ⟨o, es, ep, k _ o (Ne.symm hL) ho, r⟩
  · refine (I.hok b u e).stay (fun c v hc q => k c v ?_ q) (fun _ q => q) fun _ _ q => q
    rcases hc with z | z
    · rw [z]; exact nit b u e
    · exact nit c _ z
theorem Inv.tok (I : Inv X pins σ H s) (t : Nat) : Inv X pins σ H { s with toks := t } := I.un (h' := s.heap) (t' := t) Un.refl I.hok
theorem Inv.kept {t' : Nat} (I : Inv X pins σ H s) (k : ∀ b u, s.heap.get? b = some u → h'.get? b = some u) : Inv X pins σ H { s with heap := h', toks := t' } := I.un (Un.kept k) (I.hok.kept k)
theorem Inv.laid {a : Addr} {o : HO} {t' : Nat} (I : Inv X pins σ H s) (k : ∀ b u, s.heap.get? b = some u → h'.get? b = some u) (hp : s.heap.objs.size ≤ a) (new : ObjOk X.prog X.w (upd H a o) h' a o) :
    Inv X pins σ (upd H a o) { s with heap := h', toks := t' } := I.un (Un.laid k hp (I.hok.fresh hp)) (I.hok.laid k hp new)
theorem Inv.write {x e : Addr} {o : HO} {t' : Nat} (I : Inv X pins σ H s) (mu : Mut (H x)) (he : e = x ∨ H e = some (.own x)) (k : ∀ b u, b ≠ e → s.heap.get? b = some u → h'.get? b = some u) (heo : ∃ u, h'.get? e = some u)
    (new : ObjOk X.prog X.w (upd H x o) h' x o) : Inv X pins σ (upd H x o) { s with heap := h', toks := t' } := I.un (Un.write mu he k heo) (I.hok.write mu he k heo new)
theorem Inv.pins_of {pins' : List (Addr × Obj)} (I : Inv X pins σ H s) (h : ∀ p ∈ pins', s.heap.get? p.1 = some p.2 ∧ H p.1 = none ∧ p.1 ≠ X.env.locals ∧ p.1 ∉ X.fs ∧ ∀ v, p.2.data ≠ .cell v) : Inv X pins' σ H s :=
  ⟨I.ok, I.os, I.bare, I.base, I.loc, I.cell, I.free, I.freeC, fun p hp => (List.mem_append.mp hp).elim (fun z => I.pin p (List.mem_append_left _ z)) (h p), I.hok, I.len⟩

theorem nodup_ix {N : List Str} (hN : N.Nodup) {i j : Nat} {x : Str} (a : N[i]? = some x) (b : N[j]? = some x) : i = j := by
  obtain ⟨h1, e1⟩ := List.getElem?_eq_some_iff.mp a
  obtain ⟨h2, e2⟩ := List.getElem?_eq_some_iff.mp b
  exact (List.getElem_inj hN).mp (e1.trans e2.symm)

theorem store_ok2 {M : Model} {A : Around} {E : Value → Shared → Prop} {i : Nat} {x : Str} {v : V} {u : Value} {Q : Unit → Shared → Prop} (I : Inv X pins σ H s) (hN : X.N.Nodup) (hi : X.N[i]? = some x) (hx : Loc X.env.scope x) (r : RelV v u)
    (h : ∀ s', Inv X pins (σ.set i (some v)) H s' → (∃ a, Heap.SameBut a s.heap s'.heap ∧ (a = X.env.locals ∨ X.env.cells.lookup x = some a)) → Q () s') (hf : X.fn x = true ∨ X.env.scope.names.lookup x = some .local := by first | exact .inl rfl | exact .inr rfl | assumption) : wpAny M A (storeName X.env x u) Q E s := by
  obtain ⟨m, hn, hl⟩ := id I.loc
  have hcls : (X.env.scope.kind == .class || (X.env.scope.kind == .module && X.env.locals != X.env.globals)) = false := by rw [I.ok.kind]; rfl
  have hiσ : i < σ.length := by rw [I.len]; exact (List.getElem?_eq_some_iff.mp hi).1
  have cne := I.cne
  have tracked : ∀ {a : Addr} {h' : Heap}, (∃ o, s.heap.get? a = some o ∧ H a = none) → Heap.SameBut a s.heap h' → HOk X.prog X.w H h' := fun {a h'} ha hs b ob e => by
    obtain ⟨_, _, hfree⟩ := ha
    refine (I.hok b ob e).stay (fun c w' hc q => (hs.2 c ?_).trans q) (fun _ q => q) fun _ _ q => q
    rintro rfl
    rcases hc with rfl | hc
    · rw [hfree] at e; cases e
    · rw [hfree] at hc; cases hc
  rcases hx with hk | hk
  · refine wpAny_storeName_local hk hn (fun h' hn' hs => ?_) hcls
    obtain ⟨oL, _, _, hoL, _⟩ := id hn
    refine h _ ⟨I.ok, I.os, I.bare, ⟨fun b o e n hb hx => ?_, fun b o e n hb hx => ?_, I.base.free, fun b o e hx => ?_, I.base.tups, I.base.frzs, I.base.tbls⟩, ⟨_, hn', fun j y v' e1 e2 e3 => ?_⟩, fun y c e => ?_, I.free, I.freeC, fun p hp => ?_, tracked ⟨oL, hoL, I.free⟩ hs, by simpa using I.len⟩ ⟨_, hs, .inl rfl⟩
    · exact (hs.2 b (Nat.ne_of_lt (Nat.lt_of_lt_of_le (Heap.lt_size e) I.ok.above))).trans (I.base.keep b o e n hb hx)
    · obtain ⟨sl, e1⟩ := I.base.slot b o e n hb hx
      exact ⟨sl, (hs.2 b (Nat.ne_of_lt (Nat.lt_of_lt_of_le (Heap.lt_size e) I.ok.above))).trans e1⟩
    · obtain ⟨o', e1⟩ := I.base.there b o e hx
      exact ⟨o', (hs.2 b (Nat.ne_of_lt (Nat.lt_of_lt_of_le (Heap.lt_size e) I.ok.above))).trans e1⟩
    · by_cases hj : j = i
      · subst hj
        rw [hi] at e1; cases e1
        rw [List.getElem?_set_self hiσ] at e2
        cases e2
        exact ⟨u, r, .inl ⟨hk, by simp⟩⟩
      · rw [List.getElem?_set_ne (Ne.symm hj)] at e2
        obtain ⟨u', r', q⟩ := hl j y v' e1 e2 e3
        refine ⟨u', r', ?_⟩
        rcases q with ⟨k, e⟩ | ⟨k, c, e, z⟩
        · refine .inl ⟨k, ?_⟩
          have : y ≠ x := fun e => hj (nodup_ix hN e1 (e ▸ hi))
          simp [this, e]
        · exact .inr ⟨k, c, e, z.sameBut hs (cne y c e)⟩
    · obtain ⟨w', z⟩ := I.cell y c e
      exact ⟨w', z.sameBut hs (cne y c e)⟩
    · obtain ⟨e, n, ne, nf, d⟩ := I.pin p hp
      exact ⟨(hs.2 p.1 ne).trans e, n, ne, nf, d⟩
  · have hfn : X.fn x = true := by
      rcases hf with z | z
      · exact z
      · rw [z] at hk; cases hk
    obtain ⟨c, hc⟩ := I.ok.has x (.inl hk)
    obtain ⟨w', z⟩ := I.cell x c hc
    refine wpAny_storeName_cell I.ok.kind hk hc z (fun h' hc' hs => ?_)
    obtain ⟨oc, hoc, hocd⟩ := id z
    refine h { s with heap := h' } ⟨I.ok, I.os, I.bare, ⟨fun b o e n hb hx => ?_, fun b o e n hb hx => ?_, I.base.free, fun b o e hx => ?_, I.base.tups, I.base.frzs, I.base.tbls⟩, ⟨m, hn.sameBut hs (Ne.symm (cne x c hc)), fun j y v' e1 e2 e3 => ?_⟩, fun y c' e => ?_, I.free, I.freeC, fun p hp => ?_, tracked ⟨oc, hoc, I.freeC x c hc⟩ hs, by simpa using I.len⟩ ⟨c, hs, .inr hc⟩
    · exact (hs.2 b (Nat.ne_of_lt (Nat.lt_of_lt_of_le (Heap.lt_size e) (I.ok.cab x c hfn hc)))).trans (I.base.keep b o e n hb hx)
    · obtain ⟨sl, e1⟩ := I.base.slot b o e n hb hx
      exact ⟨sl, (hs.2 b (Nat.ne_of_lt (Nat.lt_of_lt_of_le (Heap.lt_size e) (I.ok.cab x c hfn hc)))).trans e1⟩
    · obtain ⟨o', e1⟩ := I.base.there b o e hx
      exact ⟨o', (hs.2 b (Nat.ne_of_lt (Nat.lt_of_lt_of_le (Heap.lt_size e) (I.ok.cab x c hfn hc)))).trans e1⟩
    · by_cases hj : j = i
      · subst hj
        rw [hi] at e1; cases e1
        rw [List.getElem?_set_self hiσ] at e2
        cases e2
        exact ⟨u, r, .inr ⟨.inl hk, c, hc, hc'⟩⟩
      · rw [List.getElem?_set_ne (Ne.symm hj)] at e2
        obtain ⟨u', r', q⟩ := hl j y v' e1 e2 e3
        refine ⟨u', r', ?_⟩
        rcases q with q | ⟨k, c', e, z'⟩
        · exact .inl q
        · refine .inr ⟨k, c', e, z'.sameBut hs ?_⟩
          rintro rfl
          exact hj (nodup_ix hN e1 (I.ok.inj _ _ _ e hc ▸ hi))
    · by_cases hcc : c' = c
      · subst hcc; exact ⟨_, hc'⟩
      · obtain ⟨w2, z2⟩ := I.cell y c' e
        exact ⟨w2, z2.sameBut hs hcc⟩
    · obtain ⟨e, n, ne, nf, d⟩ := I.pin p hp
      refine ⟨(hs.2 p.1 ?_).trans e, n, ne, nf, d⟩
      intro q
      rw [q, hoc] at e
      have q' : oc = p.2 := Option.some.inj e
      exact d w' (by rw [← q']; exact hocd)
theorem store_ok {M : Model} {A : Around} {E : Value → Shared → Prop} {i : Nat} {x : Str} {v : V} {u : Value} {Q : Unit → Shared → Prop} (I : Inv X pins σ H s) (hN : X.N.Nodup) (hi : X.N[i]? = some x) (hx : Loc X.env.scope x) (r : RelV v u)
    (h : ∀ s', Inv X pins (σ.set i (some v)) H s' → Q () s') (hf : X.fn x = true ∨ X.env.scope.names.lookup x = some .local := by first | exact .inl rfl | exact .inr rfl | assumption) : wpAny M A (storeName X.env x u) Q E s :=
  store_ok2 I hN hi hx r (fun s' I' _ => h s' I') hf
theorem Inv.call' {s' : Shared} {ch : List Addr} (I : Inv X pins σ H s) (ho : s'.os = s.os) (u : Un (frs X.stack) ch H H' s.heap s'.heap) (hok : HOk X.prog X.w H' s'.heap) (hg : AllBare s'.gens)
    (hch : ∀ b ∈ ch, (b ∈ X.ex ∨ X.s₀.heap.objs.size ≤ b) ∧ b ≠ X.env.locals ∧ (∀ x c, X.env.cells.lookup x = some c → c ≠ b) ∧ ∀ p ∈ X.pn ++ pins, p.1 ≠ b) : Inv X pins σ H' s' := by
  obtain ⟨h', g', d', t', o'⟩ := s'
  have e : o' = s.os := ho
  subst e
  exact I.call (g' := g') (t' := t') (d' := d') u hok hg hch
end

/-! ### the judgements -/
abbrev XK := Value → Option Addr → Hp → Prop
abbrev St := List (Option V)
abbrev VK := V → Hp → Prop
abbrev TE := St → Hp → VK → Prop
abbrev TT := St → Hp → (Bool → Hp → Prop) → Prop
abbrev TA := St → Hp → (List V → Hp → Prop) → Prop
structure Ends where
  nx : St → Hp → Prop
  rt : VK
  bk : St → Hp → Prop := fun _ _ => False
  ct : St → Hp → Prop := fun _ _ => False
abbrev TS := Ends → St → Hp → Prop

def EP (X : Cx) (pins : List (Addr × Obj)) (σ : St) (Q : VK) (u : Value) (s' : Shared) : Prop := ∃ v H', Inv X pins σ H' s' ∧ RelV v u ∧ Q v H'
def TP (X : Cx) (pins : List (Addr × Obj)) (σ : St) (Q : Bool → Hp → Prop) (b : Bool) (s' : Shared) : Prop := ∃ H', Inv X pins σ H' s' ∧ Q b H'
def AP (X : Cx) (pins : List (Addr × Obj)) (σ : St) (Q : List V → Hp → Prop) (us : List Value) (s' : Shared) : Prop := ∃ vs H', Inv X pins σ H' s' ∧ Vals vs us ∧ Q vs H'
def SP (X : Cx) (pins : List (Addr × Obj)) (D : Ends) (f : Flow) (s' : Shared) : Prop :=
  match f with
  | .next => ∃ σ' H', Inv X pins σ' H' s' ∧ D.nx σ' H'
  | .brk => ∃ σ' H', Inv X pins σ' H' s' ∧ D.bk σ' H'
  | .cont => ∃ σ' H', Inv X pins σ' H' s' ∧ D.ct σ' H'
  | .ret u => ∃ v σ' H', Inv X pins σ' H' s' ∧ RelV v u ∧ D.rt v H'

def PE (X : Cx) (e : Expr) (t : TE) : Prop :=
  ∀ (pins : List (Addr × Obj)) (s : Shared) (σ : St) (H : Hp) (Q : VK), Inv X pins σ H s → t σ H Q → wpAny (model X.prog X.w) X.A (eval e X.env) (EP X pins σ Q) X.xe s
def PT (X : Cx) (e : Expr) (t : TT) : Prop :=
  ∀ (pins : List (Addr × Obj)) (s : Shared) (σ : St) (H : Hp) (Q : Bool → Hp → Prop), Inv X pins σ H s → t σ H Q → wpAny (model X.prog X.w) X.A (isTrue e X.env (eval e X.env)) (TP X pins σ Q) X.xe s
def PW (X : Cx) (e : Expr) (t : TT) : Prop :=
  ∀ (whole : Sem Value) (pins : List (Addr × Obj)) (s : Shared) (σ : St) (H : Hp) (Q : Bool → Hp → Prop), Inv X pins σ H s → t σ H Q → wpAny (model X.prog X.w) X.A (isTrue e X.env whole) (TP X pins σ Q) X.xe s
theorem PW.pt {X : Cx} {e : Expr} {t : TT} (h : PW X e t) : PT X e t := h _
def PA (X : Cx) (es : List Expr) (t : TA) : Prop :=
  ∀ (pos : Pos) (pins : List (Addr × Obj)) (s : Shared) (σ : St) (H : Hp) (Q : List V → Hp → Prop), Inv X pins σ H s → t σ H Q → wpAny (model X.prog X.w) X.A (spliced (backTo pos (starEach es X.env))) (AP X pins σ Q) X.xe s
def PS (X : Cx) (st : Stmt) (t : TS) : Prop :=
  ∀ (pins : List (Addr × Obj)) (s : Shared) (σ : St) (H : Hp) (D : Ends), Inv X pins σ H s → t D σ H → wpAny (model X.prog X.w) X.A (exec st X.env) (SP X pins D) X.xe s
def PSs (X : Cx) (st : List Stmt) (t : TS) : Prop :=
  ∀ (pins : List (Addr × Obj)) (s : Shared) (σ : St) (H : Hp) (D : Ends), Inv X pins σ H s → t D σ H → wpAny (model X.prog X.w) X.A (execs st X.env) (SP X pins D) X.xe s
theorem thn {α : Type} {t : Sem α} {Q Q' : α → Shared → Prop} {M : Model} {A : Around} {E : Value → Shared → Prop} {s : Shared} (h : wpAny M A t Q E s) (hQ : ∀ a s, Q a s → Q' a s) : wpAny M A t Q' E s := wpAny_mono h hQ fun _ _ x => x
end L2

namespace L2
open PySem PySem.Spec PyProof.Rows
section
variable {X : Cx}

/-! ### names and constants -/
def tVar (i : Nat) : TE := fun σ H Q => ∃ v, σ[i]? = some (some v) ∧ Q v H
def tC (v : V) : TE := fun _ H Q => Q v H
theorem pe_var {i : Nat} {x : Str} {pos : Pos} (hN : X.N[i]? = some x) (hv : Vis X.env.scope x) (hd : (x == ("__debug__" : Str)) = false := by decide) (hcd : (x == ("__classdict__" : Str)) = false := by decide) : PE X (.Name x pos) (tVar i) := by
  intro pins s σ H Q I h
  obtain ⟨v, e, h⟩ := h
  obtain ⟨m, hn, hl⟩ := I.loc
  obtain ⟨u, r, l⟩ := hl i x v hN e hv
  have fin : EP X pins σ Q u s := ⟨v, H, I, r, h⟩
  rcases l with ⟨hk, hm⟩ | ⟨hk, c, hc, hcell⟩
  · exact wpAny_Name (wpAny_loadName_local I.ok.kind hk hn hm fin) hd
  · rcases hk with hk | hk
    · exact wpAny_Name (wpAny_loadName_cell I.ok.kind hk hc hcell fin) hd
    · exact wpAny_Name (wpAny_loadName_free I.ok.kind hk hc hcell fin hcd) hd
theorem pe_int {i j pos} : PE X (.Constant (.int i) j pos) (tC (.int i)) := fun _ _ _ H _ I h => wpAny_Constant_int ⟨.int i, H, I.tok _, ⟨_, rfl⟩, h⟩
theorem pe_bl {b j pos} : PE X (.Constant (.bool b) j pos) (tC (.bl b)) := fun _ _ _ H _ I h => Constant_bool ⟨.bl b, H, I, rfl, h⟩
theorem pe_str {x j pos} : PE X (.Constant (.str x) j pos) (tC (.str x)) := fun _ _ _ H _ I h => Calls.Constant_str ⟨.str x, H, I.tok _, ⟨_, rfl⟩, h⟩

def Gl (X : Cx) (x : Str) : Prop := X.env.kindOf x = some .globalImplicit
theorem ld_glob {E : Value → Shared → Prop} {pins : List (Addr × Obj)} {s : Shared} {σ : St} {H : Hp} {x : Str} {u : Value} {pos : Pos} {Q : Value → Shared → Prop} (I : Inv X pins σ H s) (hg : Gl X x) (hm : X.mg x = some u) (h : Q u s)
    (hd : (x == ("__debug__" : Str)) = false := by decide) : wpAny (model X.prog X.w) X.A (eval (.Name x pos) X.env) Q E s :=
  Calls.Name_function_global I.ok.kind hg (Calls.loadGlobal_global (by rw [I.ok.glob]; exact I.mod.glob.keeps I.bk) hm h) hd
theorem ld_blt {E : Value → Shared → Prop} {pins : List (Addr × Obj)} {s : Shared} {σ : St} {H : Hp} {x : Str} {u : Value} {pos : Pos} {Q : Value → Shared → Prop} (I : Inv X pins σ H s) (hg : Gl X x) (hm : X.mg x = none) (hv : bootBuiltins x = some u) (h : Q u s)
    (hn : x ≠ "__name__" := by decide) (hd : (x == ("__debug__" : Str)) = false := by decide) : wpAny (model X.prog X.w) X.A (eval (.Name x pos) X.env) Q E s := by
  obtain ⟨mb, h1, h2⟩ := I.mod.blt
  exact Calls.Name_function_global I.ok.kind hg (Calls.loadGlobal_builtin (by rw [I.ok.glob]; exact I.mod.glob.keeps I.bk) hm (by rw [I.ok.blt]; exact h1.keeps I.bk) ((h2 x hn).trans hv) h) hd
/-! ### arithmetic -/
variable {a b : Expr} {ta tb : TE} {pos : Pos}
/-! ### comparisons -/
def PC (X : Cx) (op : CmpOp) (a b : Expr) (t : TE) : Prop :=
  ∀ (pins : List (Addr × Obj)) (s : Shared) (σ : St) (H : Hp) (Q : VK), Inv X pins σ H s → t σ H Q →
    wpAny (model X.prog X.w) X.A (eval a X.env) (fun v s₁ => wpAny (model X.prog X.w) X.A (eval b X.env) (fun u s₂ => wpAny (model X.prog X.w) X.A (compareOp op v u) (EP X pins σ Q) X.xe s₂) X.xe s₁) X.xe s
def tB (t : TE) : TT := fun σ H Q => t σ H fun x H1 => ∃ c, x = .bl c ∧ Q c H1
theorem pt_val {e : Expr} {t : TE} (h : PE X e t) (he : ∀ whole, isTrue e X.env whole = (do let v ← whole; standAt e.pos; holding [v] (truthy v)) := by intro _; rfl) : PT X e (tB t) := by
  intro pins s σ H Q I hw
  refine isTrue_plain (thn (h pins s σ H _ I hw) fun v s1 ⟨x, H1, I1, r1, q1⟩ => ?_) (he _)
  obtain ⟨d, rfl, q⟩ := q1
  cases r1
  exact wpAny_truthy_bool ⟨H1, I1, q⟩

/-! ### and, or, not -/
variable {tA tB' : TT} {rest : List Expr}
def tAnd (t u : TT) : TT := fun σ H Q => t σ H fun c H1 => if c = true then u σ H1 Q else Q false H1
def tOr (t u : TT) : TT := fun σ H Q => t σ H fun c H1 => if c = true then Q true H1 else u σ H1 Q
def tNot (t : TT) : TT := fun σ H Q => t σ H fun c H1 => Q (!c) H1
theorem pw_and1 (ha : PT X a tA) : PW X (.BoolOp .And [a] pos) tA := by
  intro wh pins s σ H Q I h
  refine isTrue_and (thn (ha pins s σ H Q I h) fun c s1 e => ?_)
  cases c with
  | true => exact isTrue_and_nil e
  | false => exact e
theorem pw_or1 (ha : PT X a tA) : PW X (.BoolOp .Or [a] pos) tA := by
  intro wh pins s σ H Q I h
  refine isTrue_or (thn (ha pins s σ H Q I h) fun c s1 e => ?_)
  cases c with
  | false => exact isTrue_or_nil e
  | true => exact e
theorem pw_and (ha : PT X a tA) (hb : PW X (.BoolOp .And (b :: rest) pos) tB') : PW X (.BoolOp .And (a :: b :: rest) pos) (tAnd tA tB') := by
  intro wh pins s σ H Q I h
  refine isTrue_and (thn (ha pins s σ H _ I h) fun c s1 ⟨H1, I1, q1⟩ => ?_)
  cases c with
  | true => exact hb wh pins s1 σ H1 Q I1 q1
  | false => exact ⟨H1, I1, q1⟩
theorem pw_or (ha : PT X a tA) (hb : PW X (.BoolOp .Or (b :: rest) pos) tB') : PW X (.BoolOp .Or (a :: b :: rest) pos) (tOr tA tB') := by
  intro wh pins s σ H Q I h
  refine isTrue_or (thn (ha pins s σ H _ I h) fun c s1 ⟨H1, I1, q1⟩ => ?_)
  cases c with
  | true => exact ⟨H1, I1, q1⟩
  | false => exact hb wh pins s1 σ H1 Q I1 q1
def tAndV (ta tb : TE) : TE := fun σ H Q => ta σ H fun x H1 => ∃ c, x = .bl c ∧ if c = true then tb σ H1 Q else Q (.bl false) H1
def tOrV (ta tb : TE) : TE := fun σ H Q => ta σ H fun x H1 => ∃ c, x = .bl c ∧ if c = true then Q (.bl true) H1 else tb σ H1 Q
def tNotV (ta : TE) : TE := fun σ H Q => ta σ H fun x H1 => ∃ c, x = .bl c ∧ Q (.bl (!c)) H1
def tIf (t : TT) (ta tb : TE) : TE := fun σ H Q => t σ H fun c H1 => if c = true then ta σ H1 Q else tb σ H1 Q
end
end L2

namespace L2
open PySem PySem.Spec PyProof.Rows

/-! ### a list, a tuple that is read: tracked, frozen, or an object of the module -/
def SqL (K : PySem.W.Frag) (H : Hp) (a : Addr) (xs : List V) : Prop :=
  Rd H a (.lst xs) ∨
    ∃ (o : Obj) (its : Array Value) (n : Nat), K.lookup a = some o ∧ o.cls = .type "list" ∧ o.dict = none ∧ o.data = .seq its n ∧ its.size ≤ sizeLine ∧ Vals xs its.toList
def SqT (K : PySem.W.Frag) (H : Hp) (a : Addr) (xs : List V) : Prop :=
  Rd H a (.tup xs) ∨
    ∃ (o : Obj) (its : Array Value) (n : Nat), K.lookup a = some o ∧ o.cls = .type "tuple" ∧ o.data = .seq its n ∧ its.size ≤ sizeLine ∧ Vals xs its.toList
def absV : Value → Option V
  | .none => some .non
  | .bool b => some (.bl b)
  | .int i _ => some (.int i)
  | .str x _ => some (.str x)
  | .bytes b _ => some (.byt b)
  | .float b _ => some (.flt b)
  | .ref a => some (.ref a)
  | .type n => some (.ty n)
  | _ => none
theorem RelV.abs {x : V} {u : Value} (r : RelV x u) : absV u = some x := by
  cases x with
  | non => cases r; rfl
  | bl _ => cases r; rfl
  | int _ => obtain ⟨t, rfl⟩ := r; rfl
  | str _ => obtain ⟨t, rfl⟩ := r; rfl
  | byt _ => obtain ⟨t, rfl⟩ := r; rfl
  | flt _ => obtain ⟨t, rfl⟩ := r; rfl
  | ref _ => cases r; rfl
  | ty _ => cases r; rfl
theorem RelV.inj {x y : V} {u : Value} (r : RelV x u) (q : RelV y u) : x = y := Option.some.inj (r.abs.symm.trans q.abs)
theorem Vals.inj : ∀ {xs ys : List V} {us : List Value}, Vals xs us → Vals ys us → xs = ys
  | _, _, _, .nil, .nil => rfl
  | _, _, _, .cons r t, .cons r' t' => by rw [r.inj r', Vals.inj t t']
section
variable {X : Cx} {pins : List (Addr × Obj)} {σ : St} {H : Hp} {s : Shared} {a : Addr} {xs ys : List V}
theorem SqL.of {K : PySem.W.Frag} (h : H a = some (.lst xs)) : SqL K H a xs := .inl (.inl h)
theorem SqT.of {K : PySem.W.Frag} (h : H a = some (.tup xs)) : SqT K H a xs := .inl (.inl h)
theorem Inv.list (I : Inv X pins σ H s) (h : SqL X.K H a xs) : ∃ its : List Value, Vals xs its ∧ PlainL s.heap a its.toArray ∧ xs.length ≤ sizeLine := by
  rcases h with h | ⟨o, its, n, hk, hc, hd, hs, hz, r⟩
  · obtain ⟨z, its, n, r, e⟩ := h.ok I.hok
    exact ⟨its, r, ⟨_, n, e, rfl, rfl, rfl⟩, z⟩
  · refine ⟨its.toList, r, ⟨o, n, I.kIn a o hk, hc, hd, by simpa using hs⟩, ?_⟩
    have e := r.length
    simp only [Array.length_toList] at e
    omega
theorem Inv.tuple (I : Inv X pins σ H s) (h : SqT X.K H a xs) : ∃ its : List Value, Vals xs its ∧ IsTup s.heap a its.toArray ∧ xs.length ≤ sizeLine := by
  rcases h with h | ⟨o, its, n, hk, hc, hs, hz, r⟩
  · obtain ⟨z, its, r, p⟩ := h.ok I.hok
    exact ⟨its, r, p, z⟩
  · refine ⟨its.toList, r, ⟨o, I.kIn a o hk, hc, n, by simpa using hs⟩, ?_⟩
    have e := r.length
    simp only [Array.length_toList] at e
    omega
theorem Inv.list_inj (I : Inv X pins σ H s) (h : SqL X.K H a xs) (h' : SqL X.K H a ys) : xs = ys := by
  obtain ⟨its, r, ⟨o, n, e, _, _, d⟩, _⟩ := I.list h
  obtain ⟨its', r', ⟨o', n', e', _, _, d'⟩, _⟩ := I.list h'
  rw [e] at e'; cases e'
  rw [d] at d'
  injection d' with d1 _
  have : its = its' := by simpa using congrArg Array.toList d1
  subst this
  exact r.inj r'
end

/-! ### another wish about exceptions -/
abbrev Cx.wish (X : Cx) (E : Value → Shared → Prop) : Cx := { X with xe := E }
abbrev Cx.nox (X : Cx) : Cx := X.wish fun _ _ => False
theorem Cx.Ok.wish {X : Cx} (ok : X.Ok) (E : Value → Shared → Prop) : (X.wish E).Ok :=
  ⟨ok.mod, ok.kind, ok.glob, ok.blt, ok.above, ok.inj, ok.has, ok.cab, ok.hd, ok.frames, ok.stk, ok.exf, ok.bs, ok.bsz, ok.noex, ok.exfs, ok.funs, ok.frf⟩
theorem Cx.Ok.unwish {X : Cx} {E : Value → Shared → Prop} (ok : (X.wish E).Ok) : X.Ok :=
  ⟨ok.mod, ok.kind, ok.glob, ok.blt, ok.above, ok.inj, ok.has, ok.cab, ok.hd, ok.frames, ok.stk, ok.exf, ok.bs, ok.bsz, ok.noex, ok.exfs, ok.funs, ok.frf⟩
section
variable {X : Cx} {pins : List (Addr × Obj)} {σ : St} {H : Hp} {s : Shared} {E : Value → Shared → Prop}
theorem Inv.wish (I : Inv X pins σ H s) (E : Value → Shared → Prop) : Inv (X.wish E) pins σ H s := ⟨I.ok.wish E, I.os, I.bare, I.base, I.loc, I.cell, I.free, I.freeC, I.pin, I.hok, I.len⟩
theorem Inv.unwish (I : Inv (X.wish E) pins σ H s) : Inv X pins σ H s := ⟨I.ok.unwish, I.os, I.bare, I.base, I.loc, I.cell, I.free, I.freeC, I.pin, I.hok, I.len⟩
theorem SP.unwish {D : Ends} {f : Flow} {s' : Shared} (h : SP (X.wish E) pins D f s') : SP X pins D f s' := by
  cases f with
  | next => obtain ⟨σ', H', I, q⟩ := h; exact ⟨σ', H', I.unwish, q⟩
  | brk => obtain ⟨σ', H', I, q⟩ := h; exact ⟨σ', H', I.unwish, q⟩
  | cont => obtain ⟨σ', H', I, q⟩ := h; exact ⟨σ', H', I.unwish, q⟩
  | ret u => obtain ⟨v, σ', H', I, r, q⟩ := h; exact ⟨v, σ', H', I.unwish, r, q⟩
theorem PSs.nox {st : List Stmt} {t : TS} (h : PSs X.nox st t) : PSs X st t := fun pins s σ H D I hw =>
  wpAny_mono (h pins s σ H D (I.wish _) hw) (fun _ _ q => q.unwish) fun _ _ z => False.elim z
end

/-! ### blocks and small statements -/
section
variable {X : Cx} {st : Stmt} {rest : List Stmt} {t u : TS} {e : Expr} {te : TE} {pos : Pos}
def tNext : TS := fun D σ H => D.nx σ H
def tSeq (t u : TS) : TS := fun D σ H => t { D with nx := u D } σ H
theorem pss_nil : PSs X [] tNext := fun _ _ σ H _ I h => wpAny_execs_nil ⟨σ, H, I, h⟩
theorem pss_cons (h1 : PS X st t) (h2 : PSs X rest u) : PSs X (st :: rest) (tSeq t u) := by
  intro pins s σ H D I h
  refine wpAny_execs_cons (thn (h1 pins s σ H { D with nx := u D } I h) fun f s1 q => ?_)
  cases f with
  | next =>
    obtain ⟨σ', H', I', q⟩ := q
    exact h2 pins s1 σ' H' D I' q
  | ret v => exact q
  | brk => exact q
  | cont => exact q
theorem pss_one (h1 : PS X st t) : PSs X [st] t := by
  intro pins s σ H D I h
  refine wpAny_execs_cons (thn (h1 pins s σ H D I h) fun f s1 q => ?_)
  cases f with
  | next => exact wpAny_execs_nil q
  | ret v => exact q
  | brk => exact q
  | cont => exact q
def tBreak : TS := fun D σ H => D.bk σ H
def tCont : TS := fun D σ H => D.ct σ H
theorem Inv.quiet {pins : List (Addr × Obj)} {σ : St} {H : Hp} {s : Shared} (I : Inv X pins σ H s) : interactive X.env = false := by simp [interactive, I.ok.kind]
def tDrop (te : TE) : TS := fun D σ H => te σ H fun _ H1 => D.nx σ H1
theorem ps_expr (he : PE X e te) (hs : swapsWith e none pos.line X.env = pure false := by rfl) : PS X (.Expr e pos) (tDrop te) := by
  intro pins s σ H D I h
  exact wpAny_Expr_any (thn (he pins s σ H _ I h) fun v s1 ⟨x, H1, I1, r1, q1⟩ => ⟨σ, H1, I1, q1⟩) I.quiet hs
def tRet (te : TE) : TS := fun D σ H => te σ H D.rt
theorem ps_ret (he : PE X e te) : PS X (.Return (some e) pos) (tRet te) := by
  intro pins s σ H D I h
  exact wpAny_Return_some (thn (he pins s σ H _ I h) fun v s1 ⟨x, H1, I1, r1, q1⟩ => ⟨x, σ, H1, I1, r1, q1⟩)
def tRetN : TS := fun D _ H => D.rt .non H
def tIfS (c : TT) (t u : TS) : TS := fun D σ H => c σ H fun b H1 => if b = true then t D σ H1 else u D σ H1
theorem ps_if {c : Expr} {a b : List Stmt} {tc : TT} (hc : PT X c tc) (ha : PSs X a t) (hb : PSs X b u) : PS X (.If c a b pos) (tIfS tc t u) := by
  intro pins s σ H D I h
  refine wpAny_If (thn (hc pins s σ H _ I h) fun d s1 ⟨H1, I1, q1⟩ => ?_)
  cases d with
  | true => exact ha pins s1 σ H1 D I1 q1
  | false => exact hb pins s1 σ H1 D I1 q1
end

/-! ### targets -/
abbrev TG := V → St → Hp → (St → Hp → Prop) → Prop
abbrev TGs := List V → St → Hp → (St → Hp → Prop) → Prop
def PG (X : Cx) (target : Expr) (t : TG) : Prop :=
  ∀ (pins : List (Addr × Obj)) (s : Shared) (σ : St) (H : Hp) (v : V) (u : Value) (Q : St → Hp → Prop), Inv X pins σ H s → RelV v u → t v σ H Q →
    wpAny (model X.prog X.w) X.A (assign target X.env u) (fun _ s' => ∃ σ' H', Inv X pins σ' H' s' ∧ Q σ' H') X.xe s
def PGs (X : Cx) (ts : List Expr) (t : TGs) : Prop :=
  ∀ (pins : List (Addr × Obj)) (s : Shared) (σ : St) (H : Hp) (vs : List V) (us : List Value) (Q : St → Hp → Prop), Inv X pins σ H s → Vals vs us → t vs σ H Q →
    wpAny (model X.prog X.w) X.A (assignInOrder ((assignEach ts X.env).map (·.2)) us) (fun _ s' => ∃ σ' H', Inv X pins σ' H' s' ∧ Q σ' H') X.xe s
abbrev TSet := V → V → V → Hp → (Hp → Prop) → Prop
def PSet (X : Cx) (t : TSet) : Prop :=
  ∀ (pins : List (Addr × Obj)) (s : Shared) (σ : St) (H : Hp) (o i v : V) (ov iv u : Value) (Q : Hp → Prop), Inv X pins σ H s → RelV o ov → RelV i iv → RelV v u → t o i v H Q →
    wpAny (model X.prog X.w) X.A (setItem ov iv u) (fun _ s' => ∃ H', Inv X pins σ H' s' ∧ Q H') X.xe s
section
variable {X : Cx} {pos : Pos}
def gName (i : Nat) : TG := fun v σ H Q => Q (σ.set i (some v)) H
theorem pg_name {i : Nat} {x : Str} (hN : X.N.Nodup) (hi : X.N[i]? = some x) (hx : Loc X.env.scope x) (hf : X.fn x = true ∨ X.env.scope.names.lookup x = some .local := by first | exact .inl rfl | exact .inr rfl | assumption) : PG X (.Name x pos) (gName i) := by
  intro pins s σ H v u Q I r h
  exact wpAny_assign_Name (store_ok I hN hi hx r (fun s' I' => ⟨_, H, I', h⟩) hf)
def gNil : TGs := fun vs σ H Q => vs = [] ∧ Q σ H
def gCons (t : TG) (u : TGs) : TGs := fun vs σ H Q => ∃ v r, vs = v :: r ∧ t v σ H fun σ' H' => u r σ' H' Q
theorem pgs_nil : PGs X [] gNil := by
  intro pins s σ H vs us Q I r h
  obtain ⟨e, h⟩ := h
  subst e
  cases r
  exact assignInOrder_nil ⟨σ, H, I, h⟩
theorem pgs_cons {e : Expr} {es : List Expr} {t : TG} {u : TGs} (h1 : PG X e t) (h2 : PGs X es u)
    (hs : (assignEach (e :: es) X.env).map (·.2) = assign e X.env :: (assignEach es X.env).map (·.2) := by rfl) : PGs X (e :: es) (gCons t u) := by
  intro pins s σ H vs us Q I r h
  obtain ⟨v, vr, e1, h⟩ := h
  subst e1
  cases r with
  | cons r rr =>
    rw [hs]
    refine assignInOrder_cons (thn (h1 pins s σ H _ _ _ I r h) fun _ s1 ⟨σ1, H1, I1, q1⟩ => ?_)
    exact h2 pins s1 σ1 H1 _ _ Q I1 rr q1
def gTup (K : PySem.W.Frag) (n : Nat) (t : TGs) : TG := fun v σ H Q => ∃ a xs, v = .ref a ∧ SqT K H a xs ∧ xs.length = n ∧ t xs σ H Q
theorem pg_tup {es : List Expr} {k : Nat} {t : TGs} {n : Nat} (hc : X.calm = true) (h : PGs X es t)
    (hn : (assignEach es X.env).length = n := by rfl) (hst : (assignEach es X.env).findIdx? (·.1) = none := by rfl) : PG X (.Tuple es k pos) (gTup X.K n t) := by
  intro pins s σ H v u Q I r hw
  obtain ⟨a, xs, e1, hq, hl, hw⟩ := hw
  subst e1
  cases r
  obtain ⟨its, rv, ht, hz⟩ := I.tuple hq
  refine assign_Tuple_tuple (I.ok.hd hc) ht (by simp [hn, ← hl, rv.length]) hst fun h' hx => ?_
  have I1 : Inv X pins σ H { s with heap := h' } := I.kept (t' := s.toks) fun b o e => hx b o (Nat.ne_of_lt (Heap.lt_size e)) e
  exact h pins _ σ H xs _ Q I1 (by simpa using rv) hw
def gSub (to ti : TE) (t : TSet) : TG := fun v σ H Q => to σ H fun o H1 => ti σ H1 fun i H2 => t o i v H2 fun H3 => Q σ H3
theorem pg_sub {o i : Expr} {to ti : TE} {t : TSet} (ho : PE X o to) (hi : PE X i ti) (hs : PSet X t)
    (ha : ∀ v, assign (.Subscript o i pos) X.env v = (do
      let ov ← holding [v] (eval o X.env)
      let iv ← holding [v, ov] (eval i X.env)
      standAt pos
      holding [v, ov, iv] (setItem ov iv v)
      release [v, ov, iv] []) := by intro _; rfl) : PG X (.Subscript o i pos) (gSub to ti t) := by
  intro pins s σ H v u Q I r h
  rw [ha]
  refine wpAny_bind (wpAny_holding (thn (ho pins s σ H _ I h) fun ov s1 ⟨x, H1, I1, r1, q1⟩ => ?_))
  refine wpAny_bind (wpAny_holding (thn (hi pins s1 σ H1 _ I1 q1) fun iv s2 ⟨y, H2, I2, r2, q2⟩ => ?_))
  refine wpAny_bind (wpAny_standAt (wpAny_bind (wpAny_holding (thn (hs pins s2 σ H2 x y v ov iv u _ I2 r1 r2 r q2) fun _ s3 ⟨H3, I3, q3⟩ => ?_))))
  exact wpAny_release ⟨σ, H3, I3, q3⟩
def tAsg (te : TE) (g : TG) : TS := fun D σ H => te σ H fun x H1 => g x σ H1 D.nx
theorem ps_asg {tg e : Expr} {te : TE} {g : TG} (he : PE X e te) (hg : PG X tg g) (hs : swapsWithSole [tg] e pos.line X.env = pure false := by rfl) (hw : swappedStores [tg] e X.env = pure none := by rfl)
    (h1 : (assignEach [tg] X.env).map (·.2) = [assign tg X.env] := by rfl) : PS X (.Assign [tg] e pos) (tAsg te g) := by
  intro pins s σ H D I h
  refine wpAny_Assign_stores (thn (he pins s σ H _ I h) fun v s1 ⟨x, H1, I1, r1, q1⟩ => ?_) hs hw
  rw [h1]
  exact thn (hg pins s1 σ H1 x v _ I1 r1 q1) fun _ s2 q => q
theorem ps_set {i : Nat} {x : Str} {e : Expr} {te : TE} {pos' : Pos} (hN : X.N.Nodup) (hi : X.N[i]? = some x) (hx : Loc X.env.scope x) (he : PE X e te) (hs : swapsWith e (some (.Name x pos')) pos.line X.env = pure false := by rfl) (hf : X.fn x = true ∨ X.env.scope.names.lookup x = some .local := by first | exact .inl rfl | exact .inr rfl | assumption) :
    PS X (.Assign [.Name x pos'] e pos) (tAsg te (gName i)) := by
  intro pins s σ H D I h
  refine wpAny_Assign_Name (thn (he pins s σ H _ I h) fun v s1 ⟨y, H1, I1, r1, q1⟩ => ?_) hs
  exact store_ok I1 hN hi hx r1 (fun s2 I2 => ⟨_, H1, I2, q1⟩) hf
end

/-! ### while -/
section
variable {X : Cx} {pos : Pos}
def tWhile (c : TT) (tb : TS) : TS := fun D σ H => ∃ W : Nat → St → Hp → Prop, (∃ m, W m σ H) ∧ ∀ m σ H, W m σ H →
  c σ H fun b H1 => if b = true then ∃ N : St → Hp → Prop, (∀ σ' H', N σ' H' → ∃ m', m' < m ∧ W m' σ' H') ∧ tb { D with nx := N, ct := N, bk := D.nx } σ H1 else D.nx σ H1
theorem ps_while {c : Expr} {body : List Stmt} {tc : TT} {tb : TS} (hp : PassesOwn (model X.prog X.w) X.A X.env X.xe) (hc : PT X c tc) (hb : PSs X body tb) : PS X (.While c body [] pos) (tWhile tc tb) := by
  intro pins s σ H D I h
  obtain ⟨W, ⟨m0, w0⟩, turn⟩ := h
  refine wpAny_While (codeAny_whileLoop (fun n s' => ∃ σ' H', Inv X pins σ' H' s' ∧ W n σ' H') ?_ m0 ⟨σ, H, I, w0⟩)
  rintro n s1 ⟨σ1, H1, I1, w1⟩
  refine wpAny_passesOwn hp (thn (hc pins s1 σ1 H1 _ I1 (turn n σ1 H1 w1)) fun b s2 ⟨H2, I2, q2⟩ => ?_)
  cases b with
  | true =>
    obtain ⟨N, hN, q2⟩ := q2
    rw [if_pos rfl]
    refine wpAny_passesOwn hp (thn (hb pins s2 σ1 H2 _ I2 q2) fun f s3 q3 => ?_)
    cases f with
    | next =>
      obtain ⟨σ3, H3, I3, n3⟩ := q3
      obtain ⟨m', hm, w3⟩ := hN σ3 H3 n3
      exact ⟨m', hm, σ3, H3, I3, w3⟩
    | cont =>
      obtain ⟨σ3, H3, I3, n3⟩ := q3
      obtain ⟨m', hm, w3⟩ := hN σ3 H3 n3
      exact ⟨m', hm, σ3, H3, I3, w3⟩
    | brk => exact q3
    | ret v => exact q3
  | false =>
    rw [if_neg Bool.false_ne_true]
    exact wpAny_execs_nil ⟨σ1, H2, I2, q2⟩
end

/-! ### what a loop or a comprehension walks -/
structure It where
  go : Nat → Hp → Prop
  yld : Nat → Hp → V → Hp → Prop
  stop : Nat → Hp → Prop
def FpOk (X : Cx) (pins : List (Addr × Obj)) (H : Hp) (b : Addr) : Prop :=
  H b = none ∧ b ≠ X.env.locals ∧ b ∉ X.fs ∧ (b ∈ X.ex ∨ X.s₀.heap.objs.size ≤ b) ∧ (∀ x c, X.env.cells.lookup x = some c → c ≠ b) ∧ ∀ p ∈ X.pn ++ pins, p.1 ≠ b
theorem Inv.fpOk {X : Cx} {pins : List (Addr × Obj)} {σ : St} {H H' : Hp} {s : Shared} {b : Addr} (I : Inv X pins σ H s) (hb : s.heap.objs.size ≤ b) (hn : H' b = none) : FpOk X pins H' b := by
  refine ⟨hn, Nat.ne_of_gt (Nat.lt_of_lt_of_le I.lt hb), I.nofs hb, .inr (Nat.le_trans I.sz hb), fun x c e z => ?_, fun p hp z => ?_⟩
  · obtain ⟨v, q⟩ := I.cell x c e
    exact absurd (Nat.lt_of_lt_of_le q.lt (by rw [z]; exact hb)) (Nat.lt_irrefl _)
  · exact absurd (Nat.lt_of_lt_of_le (Heap.lt_size (I.pin p hp).1) (by rw [z]; exact hb)) (Nat.lt_irrefl _)
structure Turn (P : Program) (w : World) (K : PySem.W.Frag) (tg : Expr) (J : It) (fp : List Addr) (it : Addr) (tn : Nat → Heap → Prop) : Prop where
  mem : it ∈ fp
  obj : ∀ i h, tn i h → ∀ b ∈ fp, ∃ o, h.get? b = some o ∧ ∀ v, o.data ≠ .cell v
  keep : ∀ i h h', tn i h → (∀ b ∈ fp, ∀ o, h.get? b = some o → h'.get? b = some o) → tn i h'
  item : ∀ (X : Cx), X.prog = P → X.w = w → X.K = K → X.calm = true → ∀ (i : Nat) (pins : List (Addr × Obj)) (s : Shared) (σ : St) (H : Hp) (E : Value → Shared → Prop), Inv X pins σ H s → (∀ b ∈ fp, FpOk X pins H b) → tn i s.heap → J.go i H →
    wpAny (model P w) X.A (pyNext (.ref it)) (fun r s1 => ∃ u, r = some u ∧
      wpAny (model P w) X.A (letOwnedTupleGo tg (.ref it) u) (fun _ s2 => ∃ x H', Inv X pins σ H' s2 ∧ RelV x u ∧ J.yld i H x H' ∧ tn (i + 1) s2.heap ∧ ∀ b ∈ fp, H' b = none) E s1) E s
  done : ∀ (X : Cx), X.prog = P → X.w = w → X.K = K → X.calm = true → ∀ (i : Nat) (pins : List (Addr × Obj)) (s : Shared) (σ : St) (H : Hp) (E : Value → Shared → Prop), Inv X pins σ H s → (∀ b ∈ fp, FpOk X pins H b) → tn i s.heap → J.stop i H →
    wpAny (model P w) X.A (pyNext (.ref it)) (fun r s1 => r = none ∧ Inv X pins σ H s1) E s
  self : ∀ (A : Around) (i : Nat) (s : Shared) (Q : Value → Shared → Prop) (E : Value → Shared → Prop), tn i s.heap → Q (.ref it) s → wpAny (model P w) A (pyIter (.ref it)) Q E s
abbrev TI := St → Hp → (It → Hp → Prop) → Prop
def PIE (X : Cx) (pins : List (Addr × Obj)) (σ : St) (tg : Expr) (R : It → Hp → Prop) (itv : Value) (s2 : Shared) : Prop :=
  ∃ (it : Addr) (fp : List Addr) (tn : Nat → Heap → Prop) (J : It) (H' : Hp), itv = .ref it ∧ Inv X pins σ H' s2 ∧ Turn X.prog X.w X.K tg J fp it tn ∧ tn 0 s2.heap ∧ (∀ b ∈ fp, FpOk X pins H' b) ∧ R J H'
def PI (X : Cx) (tg iter : Expr) (wi : TI) : Prop :=
  ∀ (pins : List (Addr × Obj)) (s : Shared) (σ : St) (H : Hp) (R : It → Hp → Prop), Inv X pins σ H s → wi σ H R →
    wpAny (model X.prog X.w) X.A (eval iter X.env) (fun v s1 => wpAny (model X.prog X.w) X.A (pyIter v) (PIE X pins σ tg R) X.xe s1) X.xe s

theorem go_of {M : Model} {A : Around} {E : Value → Shared → Prop} {s : Shared} {tg : Expr} {it : Addr} {u : Value} {o : Obj} {n : String} {vs : Array Value} {Q : Unit → Shared → Prop} (ho : s.heap.get? it = some o) (hc : o.cls = .type n) (hd : o.data = .fields vs)
    (hn : ["enumerate", "zip", "dict_itemiterator", "dict_reverseitemiterator", "odict_iterator", "itertools.zip_longest", "itertools.pairwise"].contains n = false) (hQ : Q () s) : wpAny M A (letOwnedTupleGo tg (.ref it) u) Q E s := by
  unfold letOwnedTupleGo
  cases tg <;> first
    | exact wpAny_pure hQ
    | (cases u <;> first
        | exact wpAny_pure hQ
        | (refine wpAny_bind (wpAny_load ho ?_)
           rw [hc, hd]
           show wpAny M A (if (["enumerate", "zip", "dict_itemiterator", "dict_reverseitemiterator", "odict_iterator", "itertools.zip_longest", "itertools.pairwise"].contains n && vs[0]? == some (rawInt _)) = true then _ else _) Q E s
           rw [if_neg (by intro h; rw [hn, Bool.false_and] at h; cases h)]
           exact wpAny_pure hQ))

def Itl (K : PySem.W.Frag) (a : Addr) : It :=
  ⟨fun i H => ∃ xs x, SqL K H a xs ∧ xs[i]? = some x, fun i H x H' => H' = H ∧ ∀ xs, SqL K H a xs → xs[i]? = some x, fun i H => ∃ xs, SqL K H a xs ∧ xs.length ≤ i⟩
def Itr (lo : Int) (n : Nat) : It := ⟨fun i _ => i < n, fun i H x H' => H' = H ∧ x = .int (lo + i), fun i _ => n ≤ i⟩
theorem turn_list {P : Program} {w : World} {K : PySem.W.Frag} {tg : Expr} (a it : Addr) : Turn P w K tg (Itl K a) [it] it (fun i h => h.IsListIter it a i) where
  mem := by simp
  obj := fun i h st b hb => by
    have e : b = it := by simpa using hb
    subst e
    obtain ⟨o, e, c, d⟩ := st
    exact ⟨o, e, fun v z => by rw [d] at z; cases z⟩
  keep := fun i h h' st k => st.at fun o e => k it (by simp) o e
  item := by
    intro X hP hw hK hc i pins s σ H E I hf st hg
    subst hP hw hK
    obtain ⟨xs, x, hq, hx⟩ := hg
    obtain ⟨its, rv, p, hz⟩ := I.list hq
    obtain ⟨u, hu, ru⟩ := rv.get hx
    obtain ⟨f0, f1, f2, f3, f4, f5⟩ := hf it (by simp)
    refine wpAny_pyNext_list_item st p.isList (x := u) (by simpa using hu) fun h' st' sb => ?_
    have I1 : Inv X pins σ H { s with heap := h' } := I.turned (t' := s.toks) (fun b o hb e => (sb.2 b hb).trans e) f0 f1 f3 f4 f5
    obtain ⟨o, e, c, d⟩ := id st'
    exact ⟨u, rfl, go_of (s := { s with heap := h' }) e c d (by decide) ⟨x, H, I1, ru, ⟨rfl, fun ys hy => by rw [I.list_inj hy hq]; exact hx⟩, st', fun b hb => (hf b hb).1⟩⟩
  done := by
    intro X hP hw hK hc i pins s σ H E I hf st hg
    subst hP hw hK
    obtain ⟨xs, hq, hx⟩ := hg
    obtain ⟨its, rv, p, hz⟩ := I.list hq
    obtain ⟨f0, f1, f2, f3, f4, f5⟩ := hf it (by simp)
    have hl := rv.length
    exact wpAny_pyNext_list_end (I.ok.hd hc) st p.isList (by simp; omega) fun h' eb => ⟨rfl, I.turned (t' := s.toks) (fun b o hb e => eb b o hb e) f0 f1 f3 f4 f5⟩
  self := fun _ _ _ _ _ st h => wpAny_pyIter_listiter st h
theorem turn_range {P : Program} {w : World} {K : PySem.W.Frag} {tg : Expr} (it : Addr) (lo : Int) (n : Nat) : Turn P w K tg (Itr lo n) [it] it (fun i h => IsRangeIter h it (lo + (i : Nat) * 1) ((n : Int) - (i : Nat)) 1) where
  mem := by simp
  obj := fun i h st b hb => by
    have e : b = it := by simpa using hb
    subst e
    exact ⟨_, st, fun v z => by
      have z' : Data.fields _ = Data.cell v := z
      cases z'⟩
  keep := fun i h h' st k => k it (by simp) _ st
  item := by
    intro X hP hw hK hc i pins s σ H E I hf st hg
    subst hP hw hK
    obtain ⟨f0, f1, f2, f3, f4, f5⟩ := hf it (by simp)
    have W := Walks.range (prog := X.prog) (w := X.w) (I.ok.hd hc) it lo 1 n
    refine W.item i s _ _ hg st fun v h' tk hv st' kk => ?_
    obtain ⟨t, rfl⟩ := hv
    have I1 : Inv X pins σ H { s with heap := h', toks := tk } := I.turned (fun b o hb e => kk b o (by simpa using hb) e) f0 f1 f3 f4 f5
    refine ⟨_, rfl, go_of (s := { s with heap := h', toks := tk }) (n := "range_iterator") st' rfl rfl (by decide) ⟨.int (lo + i), H, I1, ⟨t, ?_⟩, ⟨rfl, rfl⟩, st', fun b hb => (hf b hb).1⟩⟩
    rw [Int.mul_one]
  done := by
    intro X hP hw hK hc i pins s σ H E I hf st hg
    subst hP hw hK
    obtain ⟨f0, f1, f2, f3, f4, f5⟩ := hf it (by simp)
    exact wpAny_pyNext_range_end (I.ok.hd hc) st (by have : n ≤ i := hg; omega) fun h' eb => ⟨rfl, I.turned (t' := s.toks) (fun b o hb e => eb b o hb e) f0 f1 f3 f4 f5⟩
  self := fun _ _ _ _ _ st h => wpAny_pyIter_rangeiter st h
end L2

namespace L2
open PySem PySem.Spec PyProof.Rows
section
variable {X : Cx} {tg : Expr}
def iList (K : PySem.W.Frag) (tl : TE) : TI := fun σ H R => tl σ H fun x H1 => ∃ a, x = .ref a ∧ (∃ xs, SqL K H1 a xs) ∧ R (Itl K a) H1
theorem pi_list {l : Expr} {tl : TE} (hl : PE X l tl) : PI X tg l (iList X.K tl) := by
  intro pins s σ H R I h
  refine thn (hl pins s σ H _ I h) fun v s1 ⟨x, H1, I1, r1, q1⟩ => ?_
  obtain ⟨a, e, ⟨xs, hq⟩, q⟩ := q1
  subst e
  cases r1
  obtain ⟨its, rv, p, hz⟩ := I1.list hq
  refine wpAny_pyIter_list p.isList ?_
  refine ⟨s1.heap.objs.size, [s1.heap.objs.size], _, _, H1, rfl, I1.kept (t' := s1.toks) fun b o e => Heap.get?_push_of_some _ e, turn_list a _, ⟨_, Heap.get?_push_size _ rfl, rfl, rfl⟩, fun b hb => ?_, q⟩
  have e : b = s1.heap.objs.size := by simpa using hb
  subst e
  exact I1.fpOk (Nat.le_refl _) (I1.hok.fresh (Nat.le_refl _))
theorem range_it {pins : List (Addr × Obj)} {σ : St} {H : Hp} {s : Shared} {R : It → Hp → Prop} {E : Value → Shared → Prop} {lo hi : Int} {t u v : Tok} {tk : Nat} (I : Inv X pins σ H s) (h1 : -(2 ^ 62) ≤ lo) (h2 : lo < 2 ^ 62) (h3 : -(2 ^ 62) ≤ hi) (h4 : hi < 2 ^ 62)
    (q : R (Itr lo (hi - lo).toNat) H) : wpAny (model X.prog X.w) X.A (pyIter (.ref s.heap.objs.size)) (PIE X pins σ tg R) E { s with heap := s.heap.push { cls := .type "range", data := .fields #[.int lo t, .int hi u, .int 1 v] }, toks := tk } := by
  refine wpAny_pyIter_range (IsRange.new ..) (small_one h1 h2 h3 h4) ?_
  have I1 : Inv X pins σ H { s with heap := s.heap.push { cls := .type "range", data := .fields #[.int lo t, .int hi u, .int 1 v] }, toks := tk } := I.kept fun b o e => Heap.get?_push_of_some _ e
  refine ⟨(s.heap.push { cls := .type "range", data := .fields #[.int lo t, .int hi u, .int 1 v] }).objs.size, [(s.heap.push { cls := .type "range", data := .fields #[.int lo t, .int hi u, .int 1 v] }).objs.size], _, _, H, rfl,
    I1.kept (t' := tk) fun b o e => Heap.get?_push_of_some _ e, turn_range _ lo (hi - lo).toNat, ?_, fun b hb => ?_, q⟩
  · have e1 : lo + ((0 : Nat) : Int) * 1 = lo := by simp
    have e2 : (((hi - lo).toNat : Nat) : Int) - ((0 : Nat) : Int) = Builtin.Range.rangeSize lo hi 1 := by rw [rangeSize_one]; split <;> omega
    show IsRangeIter _ _ (lo + ((0 : Nat) : Int) * 1) ((((hi - lo).toNat : Nat) : Int) - ((0 : Nat) : Int)) 1
    rw [e1, e2]
    exact Heap.get?_push_size _ rfl
  · have e : b = (s.heap.push { cls := .type "range", data := .fields #[.int lo t, .int hi u, .int 1 v] }).objs.size := by simpa using hb
    subst e
    exact I1.fpOk (Nat.le_refl _) (I1.hok.fresh (Nat.le_refl _))
def iRng1 (ta : TA) : TI := fun σ H R => ta σ H fun vs H1 => ∃ j : Int, vs = [.int j] ∧ -(2 ^ 62) ≤ j ∧ j < 2 ^ 62 ∧ R (Itr 0 j.toNat) H1
theorem pi_range1 {a : Expr} {ta : TA} {p pos : Pos} (hg : Gl X "range") (hm : X.mg "range" = none) (ha : PA X [a] ta) (hs : starEach [a] X.env = [(false, eval a X.env)] := by rfl) : PI X tg (.Call (.Name "range" p) [a] [] pos) (iRng1 ta) := by
  intro pins s σ H R I h
  refine Call_ (ld_blt I hg hm boot_range (PyProof.Rows.callWith_type1 (thn (ha pos pins s σ H _ I h) fun us s1 ⟨vs, H1, I1, r1, q1⟩ => ?_) hs rfl))
  obtain ⟨j, e, q1, q2, q⟩ := q1
  subst e
  cases r1 with
  | cons r rr =>
    cases rr
    obtain ⟨t, rfl⟩ := r
    exact call_range_1 (range_it I1 (by omega) (by omega) q1 q2 (by simpa using q))
/-! ### for -/
def tFor (wi : TI) (g : TG) (tb : TS) : TS := fun D σ H => wi σ H fun J H1 => ∃ W : Nat → Nat → St → Hp → Prop, (∃ m, W 0 m σ H1) ∧ ∀ i m σ H, W i m σ H →
  (J.stop i H ∧ D.nx σ H) ∨ (J.go i H ∧ ∃ N : St → Hp → Prop, (∀ σ' H', N σ' H' → ∃ m', m' < m ∧ W (i + 1) m' σ' H') ∧ ∀ x H', J.yld i H x H' → g x σ H' fun σ2 H2 => tb { D with nx := N, ct := N, bk := D.nx } σ2 H2)
def pinsAt (fp : List Addr) (h : Heap) : List (Addr × Obj) := fp.filterMap fun b => (h.get? b).map fun o => (b, o)
theorem mem_pinsAt {fp : List Addr} {h : Heap} {b : Addr} {o : Obj} (hb : b ∈ fp) (e : h.get? b = some o) : (b, o) ∈ pinsAt fp h := List.mem_filterMap.mpr ⟨b, hb, by rw [e]; rfl⟩
theorem of_pinsAt {fp : List Addr} {h : Heap} {p : Addr × Obj} (hp : p ∈ pinsAt fp h) : p.1 ∈ fp ∧ h.get? p.1 = some p.2 := by
  obtain ⟨b, hb, e⟩ := List.mem_filterMap.mp hp
  cases q : h.get? b with
  | none => rw [q] at e; cases e
  | some o =>
    rw [q] at e
    have e' : (b, o) = p := Option.some.inj e
    subst e'
    exact ⟨hb, q⟩
theorem Inv.pinned {pins : List (Addr × Obj)} {σ : St} {H : Hp} {s : Shared} {fp : List Addr} (I : Inv X pins σ H s) (hf : ∀ b ∈ fp, FpOk X pins H b) (ho : ∀ b ∈ fp, ∃ o, s.heap.get? b = some o ∧ ∀ v, o.data ≠ .cell v) : Inv X (pins ++ pinsAt fp s.heap) σ H s :=
  I.pins_of fun p hp => (List.mem_append.mp hp).elim (fun z => I.pin p (List.mem_append_right _ z)) fun z => by
    obtain ⟨hb, e⟩ := of_pinsAt z
    obtain ⟨f0, f1, f2, _⟩ := hf p.1 hb
    obtain ⟨o, e', d⟩ := ho p.1 hb
    rw [e] at e'; cases e'
    exact ⟨e, f0, f1, f2, d⟩
theorem Inv.unpinned {pins pl : List (Addr × Obj)} {σ : St} {H : Hp} {s : Shared} (I : Inv X (pins ++ pl) σ H s) : Inv X pins σ H s := I.pins_of fun p hp => I.pin p (List.mem_append_right _ (List.mem_append_left _ hp))
theorem ps_for {iter : Expr} {body : List Stmt} {wi : TI} {g : TG} {tb : TS} {pos : Pos} (hp : PassesOwn (model X.prog X.w) X.A X.env X.xe) (hc : X.calm = true) (hi : PI X tg iter wi) (hg : PG X tg g) (hb : PSs X body tb)
    (hs : ∀ x, foldedSetIterable iter X.env x = pure x := by intro _; rfl) : PS X (.For tg iter body [] pos) (tFor wi g tb) := by
  intro pins s σ H D I h
  refine wpAny_For (thn (hi pins s σ H _ I h) fun v s1 h1 => thn h1 fun itv s2 h2 => ?_) hs
  obtain ⟨it, fp, tn, J, H2, e, I2, T, st2, f2, W, ⟨m0, w0⟩, turn⟩ := h2
  subst e
  -- what stays true of the iterator's objects through the loop
  have stat : ∀ {H' : Hp}, (∀ b ∈ fp, H' b = none) → ∀ b ∈ fp, FpOk X pins H' b := fun hn b hb => ⟨hn b hb, (f2 b hb).2⟩
  refine codeAny_forLoop_any (fun n s' => ∃ i σ' H', Inv X pins σ' H' s' ∧ tn i s'.heap ∧ (∀ b ∈ fp, H' b = none) ∧ W i n σ' H') ?_ m0 ⟨0, σ, H2, I2, st2, fun b hb => (f2 b hb).1, w0⟩
  rintro n s3 ⟨i, σ3, H3, I3, st3, fr3, w3⟩
  rcases turn i n σ3 H3 w3 with ⟨stop, qn⟩ | ⟨go, N, hN, step⟩
  · refine wpAny_passesOwn hp (thn (T.done X rfl rfl rfl hc i pins s3 σ3 H3 X.xe I3 (stat fr3) st3 stop) fun r s4 ⟨hr, I4⟩ => ?_)
    subst hr
    exact wpAny_execs_nil ⟨σ3, H3, I4, qn⟩
  · refine wpAny_passesOwn hp (thn (T.item X rfl rfl rfl hc i pins s3 σ3 H3 X.xe I3 (stat fr3) st3 go) fun r s4 ⟨u, hr, h4⟩ => ?_)
    subst hr
    refine wpAny_passesOwn hp (thn h4 fun _ s5 ⟨x, H5, I5, r5, y5, st5, fr5⟩ => ?_)
    have I5' := I5.pinned (stat fr5) (T.obj _ _ st5)
    refine wpAny_passesOwn hp (thn (hg _ s5 σ3 H5 x u _ I5' r5 (step x H5 y5)) fun _ s6 ⟨σ6, H6, I6, q6⟩ => ?_)
    refine wpAny_passesOwn hp (thn (hb _ s6 σ6 H6 _ I6 q6) fun f s7 q7 => ?_)
    have again : ∀ {σ7 : St} {H7 : Hp}, Inv X (pins ++ pinsAt fp s5.heap) σ7 H7 s7 → N σ7 H7 → ∃ m, m < n ∧ ∃ i σ' H', Inv X pins σ' H' s7 ∧ tn i s7.heap ∧ (∀ b ∈ fp, H' b = none) ∧ W i m σ' H' := fun {σ7 H7} I7 n7 => by
      obtain ⟨m', hm, w7⟩ := hN σ7 H7 n7
      refine ⟨m', hm, i + 1, σ7, H7, I7.unpinned, T.keep _ _ _ st5 fun b hb o e => (I7.pin (b, o) (List.mem_append_right _ (List.mem_append_right _ (mem_pinsAt hb e)))).1, fun b hb => ?_, w7⟩
      obtain ⟨o, e, d⟩ := T.obj _ _ st5 b hb
      exact (I7.pin (b, o) (List.mem_append_right _ (List.mem_append_right _ (mem_pinsAt hb e)))).2.1
    cases f with
    | next => obtain ⟨σ7, H7, I7, n7⟩ := q7; exact again I7 n7
    | cont => obtain ⟨σ7, H7, I7, n7⟩ := q7; exact again I7 n7
    | brk => obtain ⟨σ7, H7, I7, q7⟩ := q7; exact ⟨σ7, H7, I7.unpinned, q7⟩
    | ret v => obtain ⟨x7, σ7, H7, I7, r7, q7⟩ := q7; exact ⟨x7, σ7, H7, I7.unpinned, r7, q7⟩
end

/-! ### the forms one uses -/
theorem for_list {K : PySem.W.Frag} {a : Addr} {xs : List V} {g : TG} {tb : TS} {D : Ends} {σ : St} {H : Hp} (Pv : Nat → St → Hp → Prop) (h0 : Pv 0 σ H) (hl : ∀ i σ H, i ≤ xs.length → Pv i σ H → SqL K H a xs)
    (hs : ∀ i x σ H, xs[i]? = some x → Pv i σ H → g x σ H fun σ2 H2 => tb { D with nx := Pv (i + 1), ct := Pv (i + 1), bk := D.nx } σ2 H2) (hd : ∀ σ H, Pv xs.length σ H → D.nx σ H) :
    ∃ W : Nat → Nat → St → Hp → Prop, (∃ m, W 0 m σ H) ∧ ∀ i m σ H, W i m σ H →
      ((Itl K a).stop i H ∧ D.nx σ H) ∨ ((Itl K a).go i H ∧ ∃ N : St → Hp → Prop, (∀ σ' H', N σ' H' → ∃ m', m' < m ∧ W (i + 1) m' σ' H') ∧ ∀ x H', (Itl K a).yld i H x H' → g x σ H' fun σ2 H2 => tb { D with nx := N, ct := N, bk := D.nx } σ2 H2) := by
  refine ⟨fun i m σ H => m = xs.length - i ∧ i ≤ xs.length ∧ Pv i σ H, ⟨xs.length, by simp, Nat.zero_le _, h0⟩, ?_⟩
  rintro i m σ H ⟨rfl, hi, p⟩
  have q := hl i σ H hi p
  by_cases hlt : i < xs.length
  · refine .inr ⟨⟨xs, xs[i], q, by simp [hlt]⟩, Pv (i + 1), fun σ' H' p' => ⟨xs.length - (i + 1), by omega, rfl, hlt, p'⟩, fun x H' y => ?_⟩
    obtain ⟨e, y⟩ := y
    subst e
    exact hs i x σ _ (y xs q) p
  · have e : i = xs.length := by omega
    subst e
    exact .inl ⟨⟨xs, q, Nat.le_refl _⟩, hd σ H p⟩
theorem for_range {lo : Int} {n : Nat} {g : TG} {tb : TS} {D : Ends} {σ : St} {H : Hp} (Pv : Nat → St → Hp → Prop) (h0 : Pv 0 σ H)
    (hs : ∀ i σ H, i < n → Pv i σ H → g (.int (lo + i)) σ H fun σ2 H2 => tb { D with nx := Pv (i + 1), ct := Pv (i + 1), bk := D.nx } σ2 H2) (hd : ∀ σ H, Pv n σ H → D.nx σ H) :
    ∃ W : Nat → Nat → St → Hp → Prop, (∃ m, W 0 m σ H) ∧ ∀ i m σ H, W i m σ H →
      ((Itr lo n).stop i H ∧ D.nx σ H) ∨ ((Itr lo n).go i H ∧ ∃ N : St → Hp → Prop, (∀ σ' H', N σ' H' → ∃ m', m' < m ∧ W (i + 1) m' σ' H') ∧ ∀ x H', (Itr lo n).yld i H x H' → g x σ H' fun σ2 H2 => tb { D with nx := N, ct := N, bk := D.nx } σ2 H2) := by
  refine ⟨fun i m σ H => m = n - i ∧ i ≤ n ∧ Pv i σ H, ⟨n, by simp, Nat.zero_le _, h0⟩, ?_⟩
  rintro i m σ H ⟨rfl, hi, p⟩
  by_cases hlt : i < n
  · refine .inr ⟨hlt, Pv (i + 1), fun σ' H' p' => ⟨n - (i + 1), by omega, rfl, hlt, p'⟩, fun x H' y => ?_⟩
    obtain ⟨e, y⟩ := y
    subst e y
    exact hs i σ _ hlt p
  · have e : i = n := by omega
    subst e
    exact .inl ⟨Nat.le_refl _, hd σ H p⟩
end L2

namespace L2
open PySem PySem.Spec PyProof.Rows

abbrev R2 := V → V → Hp → VK → Prop
def OpR (X : Cx) (f : Value → Value → Sem Value) (r : R2) : Prop :=
  ∀ (pins : List (Addr × Obj)) (s : Shared) (σ : St) (H : Hp) (x y : V) (v u : Value) (Q : VK), Inv X pins σ H s → RelV x v → RelV y u → r x y H Q →
    wpAny (model X.prog X.w) X.A (f v u) (EP X pins σ Q) X.xe s
def UnR (X : Cx) (f : Value → Sem Value) (r : V → Hp → VK → Prop) : Prop :=
  ∀ (pins : List (Addr × Obj)) (s : Shared) (σ : St) (H : Hp) (x : V) (v : Value) (Q : VK), Inv X pins σ H s → RelV x v → r x H Q →
    wpAny (model X.prog X.w) X.A (f v) (EP X pins σ Q) X.xe s
def CallR (X : Cx) (f : Value) (r : List V → Hp → VK → Prop) : Prop :=
  ∀ (pins : List (Addr × Obj)) (s : Shared) (σ : St) (H : Hp) (xs : List V) (us : List Value) (Q : VK), Inv X pins σ H s → Vals xs us → r xs H Q →
    wpAny (model X.prog X.w) X.A (call f us) (EP X pins σ Q) X.xe s
def TruR (X : Cx) (r : V → Hp → (Bool → Hp → Prop) → Prop) : Prop :=
  ∀ (pins : List (Addr × Obj)) (s : Shared) (σ : St) (H : Hp) (x : V) (v : Value) (Q : Bool → Hp → Prop), Inv X pins σ H s → RelV x v → r x H Q →
    wpAny (model X.prog X.w) X.A (truthy v) (TP X pins σ Q) X.xe s

def tOp (r : R2) (ta tb : TE) : TE := fun σ H Q => ta σ H fun x H1 => tb σ H1 fun y H2 => r x y H2 Q
def tUn (r : V → Hp → VK → Prop) (ta : TE) : TE := fun σ H Q => ta σ H fun x H1 => r x H1 Q
def rI (C : Int → Int → Prop) (g : Int → Int → V) : R2 := fun x y H Q => ∃ i j, x = .int i ∧ y = .int j ∧ C i j ∧ Q (g i j) H
def rI0 (g : Int → Int → V) : R2 := fun x y H Q => ∃ i j, x = .int i ∧ y = .int j ∧ Q (g i j) H
def rU (g : Int → V) : V → Hp → VK → Prop := fun x H Q => ∃ i, x = .int i ∧ Q (g i) H

section
variable {X : Cx} {a b c : Expr} {ta tb tc : TE} {pos : Pos}

theorem binT (ha : PE X a ta) (hb : PE X b tb) {pins : List (Addr × Obj)} {s : Shared} {σ : St} {H : Hp} {R : V → V → Hp → Prop} (I : Inv X pins σ H s)
    (h : ta σ H fun x H1 => tb σ H1 fun y H2 => R x y H2) {Q : Value → Shared → Prop} {f : Value → Value → Sem Value}
    (hf : ∀ v u s2 x y H2, Inv X pins σ H2 s2 → RelV x v → RelV y u → R x y H2 → wpAny (model X.prog X.w) X.A (f v u) Q X.xe s2) :
    wpAny (model X.prog X.w) X.A (eval a X.env) (fun v s₁ => wpAny (model X.prog X.w) X.A (eval b X.env) (fun u s₂ => wpAny (model X.prog X.w) X.A (f v u) Q X.xe s₂) X.xe s₁) X.xe s := by
  refine thn (ha pins s σ H _ I h) fun v s1 ⟨x, H1, I1, r1, q1⟩ => ?_
  refine thn (hb pins s1 σ H1 _ I1 q1) fun u s2 ⟨y, H2, I2, r2, q2⟩ => ?_
  exact hf v u s2 x y H2 I2 r1 r2 q2

theorem pe_op {op : Operator} {r : R2} (ho : OpR X (binaryOp op) r) (ha : PE X a ta) (hb : PE X b tb) : PE X (.BinOp a op b pos) (tOp r ta tb) := by
  intro pins s σ H Q I h
  exact wpAny_BinOp (binT ha hb I h fun v u s2 x y H2 I2 rx ry q => ho pins s2 σ H2 x y v u Q I2 rx ry q)
theorem pe_un {op : UnaryOp} {r : V → Hp → VK → Prop} (ho : UnR X (unaryOp op) r) (ha : PE X a ta) : PE X (.UnaryOp op a pos) (tUn r ta) := by
  intro pins s σ H Q I h
  exact UnaryOp_ (thn (ha pins s σ H _ I h) fun v s1 ⟨x, H1, I1, r1, q1⟩ => ho pins s1 σ H1 x v Q I1 r1 q1)
/-! ### ints -/
theorem opI {f : Value → Value → Sem Value} {C : Int → Int → Prop} {g : Int → Int → Int}
    (rule : ∀ (i j : Int) (t u : Tok) (s : Shared) (Q : Value → Shared → Prop) (E : Value → Shared → Prop), C i j → Q (.int (g i j) s.toks) { s with toks := s.toks + 1 } → wpAny (model X.prog X.w) X.A (f (.int i t) (.int j u)) Q E s) :
    OpR X f (rI C fun i j => .int (g i j)) := by
  intro pins s σ H x y v u Q I rx ry h
  obtain ⟨i, j, rfl, rfl, hc, q⟩ := h
  obtain ⟨t, rfl⟩ := rx
  obtain ⟨t', rfl⟩ := ry
  exact rule i j t t' s _ _ hc ⟨.int (g i j), H, I.tok _, ⟨_, rfl⟩, q⟩
theorem opI0 {f : Value → Value → Sem Value} {g : Int → Int → Int}
    (rule : ∀ (i j : Int) (t u : Tok) (s : Shared) (Q : Value → Shared → Prop) (E : Value → Shared → Prop), Q (.int (g i j) s.toks) { s with toks := s.toks + 1 } → wpAny (model X.prog X.w) X.A (f (.int i t) (.int j u)) Q E s) :
    OpR X f (rI0 fun i j => .int (g i j)) := by
  intro pins s σ H x y v u Q I rx ry h
  obtain ⟨i, j, rfl, rfl, q⟩ := h
  obtain ⟨t, rfl⟩ := rx
  obtain ⟨t', rfl⟩ := ry
  exact rule i j t t' s _ _ ⟨.int (g i j), H, I.tok _, ⟨_, rfl⟩, q⟩
theorem opB0 {f : Value → Value → Sem Value} {g : Int → Int → Bool}
    (rule : ∀ (i j : Int) (t u : Tok) (s : Shared) (Q : Value → Shared → Prop) (E : Value → Shared → Prop), Q (.bool (g i j)) s → wpAny (model X.prog X.w) X.A (f (.int i t) (.int j u)) Q E s) :
    OpR X f (rI0 fun i j => .bl (g i j)) := by
  intro pins s σ H x y v u Q I rx ry h
  obtain ⟨i, j, rfl, rfl, q⟩ := h
  obtain ⟨t, rfl⟩ := rx
  obtain ⟨t', rfl⟩ := ry
  exact rule i j t t' s _ _ ⟨.bl (g i j), H, I, rfl, q⟩

def CDiv (i j : Int) : Prop := 0 < j ∧ j < 1073741824
def CPow (i j : Int) : Prop := 0 ≤ j ∧ j ≤ 1000000 ∧ i.natAbs < 2 ^ 64
def CMul (i j : Int) : Prop := (-(2 ^ 64) < i ∧ i < 2 ^ 64) ∨ (-(2 ^ 64) < j ∧ j < 2 ^ 64)
theorem CMul.ok {i j : Int} (h : CMul i j) : IntMulOk i j := by
  rcases h with ⟨h1, h2⟩ | ⟨h1, h2⟩
  · exact .of_left (intBits_le_64 h1 h2)
  · exact .of_right (intBits_le_64 h1 h2)
theorem op_add : OpR X (binaryOp .Add) (rI0 fun i j => .int (i + j)) := opI0 fun _ _ _ _ _ _ _ q => add_int q
theorem op_sub : OpR X (binaryOp .Sub) (rI0 fun i j => .int (i - j)) := opI0 fun _ _ _ _ _ _ _ q => sub_int q
theorem op_mul : OpR X (binaryOp .Mult) (rI CMul fun i j => .int (i * j)) := opI fun _ _ _ _ _ _ _ hc q => mul_int q hc.ok
theorem op_fdiv : OpR X (binaryOp .FloorDiv) (rI CDiv fun i j => .int (i / j)) := opI fun i j _ _ _ _ _ hc q => by
  have h1 : (0 : Int) < j := hc.1
  have h2 : j < 1073741824 := hc.2
  exact floordiv_int (by omega) (by rw [Int.fdiv_eq_ediv_of_nonneg i (by omega)]; exact q) (.inl (PyProof.noPylong_small (by omega)))
theorem op_mod : OpR X (binaryOp .Mod) (rI (fun _ j => 0 < j) fun i j => .int (i % j)) := opI fun i j _ _ _ _ _ hc q => by
  have h1 : (0 : Int) < j := hc
  exact mod_int' (by omega) (by rw [Int.fmod_eq_emod_of_nonneg i (by omega)]; exact q)
theorem op_pow : OpR X (binaryOp .Pow) (rI CPow fun i j => .int (i ^ j.toNat)) := opI fun _ _ _ _ _ _ _ hc q => pow_int_small hc.1 hc.2.1 hc.2.2 q
theorem unI {f : Value → Sem Value} {g : Int → Int}
    (rule : ∀ (i : Int) (t : Tok) (s : Shared) (Q : Value → Shared → Prop) (E : Value → Shared → Prop), Q (.int (g i) s.toks) { s with toks := s.toks + 1 } → wpAny (model X.prog X.w) X.A (f (.int i t)) Q E s) :
    UnR X f (rU fun i => .int (g i)) := by
  intro pins s σ H x v Q I rx h
  obtain ⟨i, rfl, q⟩ := h
  obtain ⟨t, rfl⟩ := rx
  exact rule i t s _ _ ⟨.int (g i), H, I.tok _, ⟨_, rfl⟩, q⟩
theorem un_neg : UnR X (unaryOp .USub) (rU fun i => .int (-i)) := unI fun _ _ _ _ _ q => neg_int q
/-! ### bools among ints: n += (a < b) -/
end

/-! ### comparisons -/
def scal : V → V → Bool
  | .non, .non => true | .non, .int _ => true | .int _, .non => true | .non, .bl _ => true | .bl _, .non => true | .non, .str _ => true | .str _, .non => true
  | .int _, .int _ => true | .bl _, .bl _ => true | .str _, .str _ => true | .byt _, .byt _ => true
  | .int _, .str _ => true | .str _, .int _ => true | .bl _, .str _ => true | .str _, .bl _ => true
  | _, _ => false
def rEq : R2 := fun x y H Q => scal x y = true ∧ Q (.bl (decide (x = y))) H
def rNe : R2 := fun x y H Q => scal x y = true ∧ Q (.bl (!decide (x = y))) H

theorem dec_int {i j : Int} : decide (V.int i = V.int j) = (i == j) := by
  rw [Bool.eq_iff_iff]
  simp
theorem dec_bl {i j : Bool} : decide (V.bl i = V.bl j) = (i == j) := by
  rw [Bool.eq_iff_iff]
  simp
theorem dec_str {i j : Str} : decide (V.str i = V.str j) = (i == j) := by
  rw [Bool.eq_iff_iff]
  simp
theorem dec_byt {i j : Array UInt8} : decide (V.byt i = V.byt j) = (i.toList == j.toList) := by
  rw [Bool.eq_iff_iff]
  cases i
  cases j
  simp

section
variable {X : Cx} {a b c : Expr} {ta tb tc : TE} {pos : Pos}
theorem fin_bl {pins : List (Addr × Obj)} {σ : St} {H : Hp} {s : Shared} {Q : VK} {k k' : Bool} (I : Inv X pins σ H s) (q : Q (.bl k) H) (e : k = k') : EP X pins σ Q (.bool k') s := by
  subst e
  exact ⟨.bl k, H, I, rfl, q⟩
theorem op_eq : OpR X (compareOp .Eq) rEq := by
  intro pins s σ H x y v u Q I rx ry h
  obtain ⟨hs, q⟩ := h
  cases x with
  | non =>
    cases rx
    cases y with
    | non => cases ry; exact PySem.EqNone.eq_none_none (fin_bl I q (by simp))
    | bl j => cases ry; exact PySem.EqNone.eq_none_bool (fin_bl I q (by simp))
    | int j => obtain ⟨t', rfl⟩ := ry; exact PySem.EqNone.eq_none_int (fin_bl I q (by simp))
    | str j => obtain ⟨t', rfl⟩ := ry; exact PySem.EqNone.eq_none_str (fin_bl I q (by simp))
    | _ => exact absurd (show false = true from hs) Bool.false_ne_true
  | bl i =>
    cases rx
    cases y with
    | non => cases ry; exact PySem.EqNone.eq_bool_none (fin_bl I q (by simp))
    | bl j => cases ry; exact eq_bool (fin_bl I q dec_bl)
    | str j => obtain ⟨t', rfl⟩ := ry; exact PySem.EqMixed.eq_bool_str (fin_bl I q (by simp))
    | _ => exact absurd (show false = true from hs) Bool.false_ne_true
  | int i =>
    obtain ⟨t, rfl⟩ := rx
    cases y with
    | non => cases ry; exact PySem.EqNone.eq_int_none (fin_bl I q (by simp))
    | int j => obtain ⟨t', rfl⟩ := ry; exact eq_int (fin_bl I q dec_int)
    | str j => obtain ⟨t', rfl⟩ := ry; exact PySem.EqMixed.eq_int_str (fin_bl I q (by simp))
    | _ => exact absurd (show false = true from hs) Bool.false_ne_true
  | str i =>
    obtain ⟨t, rfl⟩ := rx
    cases y with
    | non => cases ry; exact PySem.EqNone.eq_str_none (fin_bl I q (by simp))
    | bl j => cases ry; exact PySem.EqMixed.eq_str_bool (fin_bl I q (by simp))
    | int j => obtain ⟨t', rfl⟩ := ry; exact PySem.EqMixed.eq_str_int (fin_bl I q (by simp))
    | str j => obtain ⟨t', rfl⟩ := ry; exact eq_str (fin_bl I q dec_str)
    | _ => exact absurd (show false = true from hs) Bool.false_ne_true
  | byt i =>
    obtain ⟨t, rfl⟩ := rx
    cases y with
    | byt j => obtain ⟨t', rfl⟩ := ry; exact PySem.W.eq_bytes (fin_bl I q dec_byt)
    | _ => exact absurd (show false = true from hs) Bool.false_ne_true
  | _ => cases y <;> exact absurd (show false = true from hs) Bool.false_ne_true
theorem op_lt : OpR X (compareOp .Lt) (rI0 fun i j => .bl (decide (i < j))) := opB0 fun _ _ _ _ _ _ _ q => lt_int q
theorem op_le : OpR X (compareOp .LtE) (rI0 fun i j => .bl (decide (i ≤ j))) := opB0 fun _ _ _ _ _ _ _ q => le_int q
theorem op_gt : OpR X (compareOp .Gt) (rI0 fun i j => .bl (decide (j < i))) := opB0 fun _ _ _ _ _ _ _ q => gt_int q
theorem op_ge : OpR X (compareOp .GtE) (rI0 fun i j => .bl (decide (j ≤ i))) := opB0 fun _ _ _ _ _ _ _ q => ge_int q
theorem nomark (b : Expr) {op : CmpOp} (h : op ≠ .In := by decide) (h2 : op ≠ .NotIn := by decide) : behindInMarks op b = false := by
  have e1 : (op == CmpOp.In) = false := by cases op <;> first | rfl | exact absurd rfl h
  have e2 : (op == CmpOp.NotIn) = false := by cases op <;> first | rfl | exact absurd rfl h2
  cases b <;> simp [behindInMarks, e1, e2]
theorem pe_cmpR {op : CmpOp} {r : R2} (ho : OpR X (compareOp op) r) (ha : PE X a ta) (hb : PE X b tb) (hm : behindInMarks op b = false) : PE X (.Compare a [op] [b] pos) (tOp r ta tb) := by
  intro pins s σ H Q I h
  exact wpAny_Compare1 (binT ha hb I h fun v u s2 x y H2 I2 rx ry q => ho pins s2 σ H2 x y v u Q I2 rx ry q) hm
def tTest (t : TE) : TT := fun σ H Q => t σ H fun x H' => ∃ k, x = .bl k ∧ Q k H'
theorem pt_cmpR {op : CmpOp} {r : R2} (ho : OpR X (compareOp op) r) (ha : PE X a ta) (hb : PE X b tb) (hm : behindInMarks op b = false) : PT X (.Compare a [op] [b] pos) (tTest (tOp r ta tb)) := by
  intro pins s σ H Q I h
  refine wpAny_isTrue_Compare1 (thn (ha pins s σ H _ I h) fun v s1 ⟨x, H1, I1, r1, q1⟩ => thn (hb pins s1 σ H1 _ I1 q1) fun u s2 ⟨y, H2, I2, r2, q2⟩ =>
    thn (ho pins s2 σ H2 x y v u _ I2 r1 r2 q2) fun c s3 ⟨z, H3, I3, r3, k, e, q3⟩ => ?_) hm
  subst e
  cases r3
  exact wpAny_truthy_bool ⟨H3, I3, q3⟩
def tChain (r r' : R2) (ta tb tc : TE) : TE := fun σ H Q => ta σ H fun x H1 => tb σ H1 fun y H2 => r x y H2 fun z H3 => ∃ k, z = .bl k ∧
  (if k = true then tc σ H3 fun w' H4 => r' y w' H4 Q else Q (.bl false) H3)
/-! ### truth -/
def TruV (K : PySem.W.Frag) (x : V) (H : Hp) (k : Bool) : Prop :=
  match x with
  | .non => k = false
  | .bl b => k = b
  | .int i => k = (i != 0)
  | .str y => y.length ≤ sizeLine ∧ k = ((y.length : Int) != 0)
  | .byt y => y.size ≤ sizeLine ∧ k = ((y.size : Int) != 0)
  | .ref p => (∃ xs, SqL K H p xs ∧ k = !xs.isEmpty) ∨ (∃ xs, SqT K H p xs ∧ k = !xs.isEmpty) ∨ ∃ kvs, H p = some (.dK kvs) ∧ k = !kvs.isEmpty
  | _ => False
theorem isEmpty_kv {κ : Type} {kvs : List (κ × V)} {vs : List (κ × Value)} (r : KV kvs vs) : (!vs.isEmpty) = !kvs.isEmpty := by
  cases r <;> rfl
theorem isEmpty_of {xs : List V} {its : List Value} (r : Vals xs its) : (!its.toArray.isEmpty) = !xs.isEmpty := by
  cases r <;> simp
theorem line63 : (sizeLine : Nat) < 2 ^ 63 := by rw [sizeLine_eq]; decide
theorem tru_ok : TruR X (fun x H Q => ∃ k, TruV X.K x H k ∧ Q k H) := by
  intro pins s σ H x v Q I rx h
  obtain ⟨k, e, q⟩ := h
  have hl := line63
  have hs : sizeLine = 16777216 := sizeLine_eq
  cases x with
  | non =>
    cases rx
    have e' : k = false := e
    subst e'
    exact truthy_none ⟨H, I, q⟩
  | bl b =>
    cases rx
    have e' : k = b := e
    subst e'
    exact wpAny_truthy_bool ⟨H, I, q⟩
  | int i =>
    obtain ⟨t, rfl⟩ := rx
    have e' : k = (i != 0) := e
    subst e'
    exact PySem.P.truthy_int ⟨H, I, q⟩
  | str y =>
    obtain ⟨t, rfl⟩ := rx
    obtain ⟨hy, e'⟩ : y.length ≤ sizeLine ∧ k = ((y.length : Int) != 0) := e
    subst e'
    exact PySem.P.truthy_str (by omega) ⟨H, I.tok _, q⟩
  | byt y =>
    obtain ⟨t, rfl⟩ := rx
    obtain ⟨hy, e'⟩ : y.size ≤ sizeLine ∧ k = ((y.size : Int) != 0) := e
    subst e'
    exact PySem.W.truthy_bytes (by omega) ⟨H, I.tok _, q⟩
  | ref p =>
    cases rx
    have e' : (∃ xs, SqL X.K H p xs ∧ k = !xs.isEmpty) ∨ (∃ xs, SqT X.K H p xs ∧ k = !xs.isEmpty) ∨ ∃ kvs, H p = some (.dK kvs) ∧ k = !kvs.isEmpty := e
    rcases e' with ⟨xs, hx, e'⟩ | ⟨xs, hx, e'⟩ | ⟨kvs, hx, e'⟩
    · subst e'
      obtain ⟨its, r, pl, hz⟩ := I.list hx
      have hlen := r.length
      exact wpAny_truthy_list pl.isList (by simp only [List.size_toArray]; omega) ⟨H, I.tok _, by rw [isEmpty_of r]; exact q⟩
    · subst e'
      obtain ⟨its, r, pl, hz⟩ := I.tuple hx
      have hlen := r.length
      exact truthy_tuple pl (by simp only [List.size_toArray]; omega) ⟨H, I.tok _, by rw [isEmpty_of r]; exact q⟩
    · subst e'
      obtain ⟨hz, hS, vs, r, m⟩ : kvs.length ≤ sizeLine ∧ (p == sysModules) = false ∧ ∃ vs, KV kvs vs ∧ s.heap.DictOf (mixKind X.prog X.w) p vs := I.hok p _ hx
      have hlen : kvs.length = vs.length := Paired.length r
      exact wpAny_truthy_dict hS m (by omega) ⟨H, I.tok _, by rw [isEmpty_kv r]; exact q⟩
  | _ => exact (show False from e).elim
theorem pt_truth (ha : PE X a ta) (he : ∀ whole, isTrue a X.env whole = (do let v ← whole; standAt a.pos; holding [v] (truthy v))) :
    PT X a (fun σ H Q => ta σ H fun x H' => ∃ k, TruV X.K x H' k ∧ Q k H') := by
  intro pins s σ H Q I h
  exact isTrue_plain (thn (ha pins s σ H _ I h) fun v s1 ⟨x, H1, I1, r1, q1⟩ => tru_ok pins s1 σ H1 x v Q I1 r1 q1) (he _)

/-! ### strs and bytes -/
/-! ### scalar builtins, by CallR -/
theorem vals1 {x : V} {us : List Value} (r : Vals [x] us) : ∃ u, us = [u] ∧ RelV x u := by
  cases r with
  | cons r1 r2 => cases r2; exact ⟨_, rfl, r1⟩
theorem vals2 {x y : V} {us : List Value} (r : Vals [x, y] us) : ∃ u w', us = [u, w'] ∧ RelV x u ∧ RelV y w' := by
  cases r with
  | cons r1 r2 =>
    cases r2 with
    | cons r3 r4 => cases r4; exact ⟨_, _, rfl, r1, r3⟩
theorem call_max2 (hc : X.calm = true) : CallR X (.builtin "max") (fun xs H Q => ∃ i j, xs = [.int i, .int j] ∧ Q (.int (if j > i then j else i)) H) := by
  intro pins s σ H xs us Q I r h
  obtain ⟨i, j, rfl, q⟩ := h
  obtain ⟨u, w', rfl, ⟨t, rfl⟩, ⟨t', rfl⟩⟩ := vals2 r
  refine max_two_ints (I.ok.hd hc) fun h' tk k => ⟨_, H, I.kept k, ?_, q⟩
  by_cases hj : j > i
  · rw [if_pos hj, if_pos hj]; exact ⟨_, rfl⟩
  · rw [if_neg hj, if_neg hj]; exact ⟨_, rfl⟩
theorem call_min2 (hc : X.calm = true) : CallR X (.builtin "min") (fun xs H Q => ∃ i j, xs = [.int i, .int j] ∧ Q (.int (if j < i then j else i)) H) := by
  intro pins s σ H xs us Q I r h
  obtain ⟨i, j, rfl, q⟩ := h
  obtain ⟨u, w', rfl, ⟨t, rfl⟩, ⟨t', rfl⟩⟩ := vals2 r
  refine min_two_ints (I.ok.hd hc) fun h' tk k => ⟨_, H, I.kept k, ?_, q⟩
  by_cases hj : j < i
  · rw [if_pos hj, if_pos hj]; exact ⟨_, rfl⟩
  · rw [if_neg hj, if_neg hj]; exact ⟨_, rfl⟩
theorem call_int1 : CallR X (.type "int") (fun xs H Q => (∃ i, xs = [.int i] ∧ Q (.int i) H) ∨ ∃ k, xs = [.bl k] ∧ Q (.int (if k then 1 else 0)) H) := by
  intro pins s σ H xs us Q I r h
  rcases h with ⟨i, rfl, q⟩ | ⟨k, rfl, q⟩
  · obtain ⟨u, rfl, t, rfl⟩ := vals1 r
    exact call_int_int ⟨.int i, H, I, ⟨_, rfl⟩, q⟩
  · obtain ⟨u, rfl, r1⟩ := vals1 r
    cases r1
    exact call_int_bool ⟨.int (if k then 1 else 0), H, I.tok _, ⟨_, rfl⟩, q⟩
end
end L2

namespace L2
open PySem PySem.Spec PyProof.Rows

/-! ### an instance, its attributes a map -/
structure ObjM (h : Heap) (x dx C : Addr) (mA : Str → Option Value) : Prop where
  obj : h.get? x = some (PySem.W.instObj C dx)
  ns : h.Ns1 dx mA
  ne : dx ≠ x

theorem lookIn_ns {h : Heap} {dx : Addr} {mA : Str → Option Value} (n : h.Ns1 dx mA) : ∃ od, h.get? dx = some od ∧ ∀ name, PySem.W.lookIn name od = some (mA name) := by
  obtain ⟨o, es, ep, ho, hd, hk, _, hm⟩ := n
  refine ⟨o, ho, fun name => ?_⟩
  have e := hm name
  unfold nsFind findBy at e
  rw [← Array.find?_toList] at e
  unfold PySem.W.lookIn
  rw [hd]
  dsimp only
  split
  · rename_i y q
    rw [q] at e
    exact congrArg some e
  · rename_i q
    rw [q] at e
    have a : es.toList.any (·.refKey) = false := by
      rw [List.any_eq_false]
      intro y hy
      obtain ⟨z, t, hkey⟩ := hk y (Array.mem_toList_iff.mp hy)
      simp [DictEntry.refKey, hkey]
    have a' : ¬ es.toList.any (·.refKey) = true := by rw [a]; exact Bool.false_ne_true
    rw [if_neg a']
    exact congrArg some e

theorem ObjM.look {h : Heap} {x dx C : Addr} {mA : Str → Option Value} (I : ObjM h x dx C mA) : ∃ od, PySem.W.InstAt h x (PySem.W.instObj C dx) C (some od) ∧ ∀ name, PySem.W.lookIn name od = some (mA name) :=
  let ⟨od, ho, hl⟩ := lookIn_ns I.ns
  ⟨od, ⟨I.obj, rfl, rfl, ho⟩, hl⟩

section
variable {prog : Program} {w : World} {A : Around} {E : Value → Shared → Prop} {s : Shared} {K : PySem.W.Frag} {x dx C f : Addr} {mA : Str → Option Value} {name : Str} {v : Value}

theorem get_map {expr : Bool} {Q : Value → Shared → Prop} (X : K.In s.heap) (I : ObjM s.heap x dx C mA) (hg : PySem.W.plainGet K C name = true) (hh : PySem.W.hasDictIn K C = true)
    (ha : PySem.W.findIn K (.ref C) name = some none) (hv : mA name = some v) (hv' : PySem.W.handedIn v = true) (h : Q v { s with toks := s.toks + 1 }) :
    wpAny (model prog w) A (getAttr (.ref x) name expr) Q E s := by
  obtain ⟨od, J, hl⟩ := I.look
  exact PySem.W.get_value X J (PySem.W.plainGet_of hg).1 (PySem.W.findObj_own hh ha rfl (by rw [hl, hv])) hv' h

theorem get_meth {pl : Sem Bool} {Q : Value × List Value → Shared → Prop} (X : K.In s.heap) (I : ObjM s.heap x dx C mA) (hg : PySem.W.plainGet K C name = true)
    (hf : PySem.W.findIn K (.ref C) name = some (some (.ref f))) (ht : PySem.W.isFn K (.ref f) = true) (hv : mA name = none) (h : Q (.ref f, [.ref x]) s) :
    wpAny (model prog w) A (getMethod (.ref x) name pl) Q E s := by
  obtain ⟨od, J, hl⟩ := I.look
  exact PySem.W.method_fn X J (PySem.W.plainGet_of hg).1 (PySem.W.plainGet_of hg).2 hf (beq_iff_eq.mp ht) (by show (PySem.W.lookIn name od).map (·.isSome) = some false; rw [hl, hv]; rfl) h

theorem set_map {ns : List Str} {Q : Unit → Shared → Prop} (X : K.In s.heap) (I : ObjM s.heap x dx C mA)
    (hs : PySem.W.findIn K (.ref C) "__setattr__" = some (some (.builtin "object.__setattr__"))) (hp : PySem.W.plainOver K C = true) (ht : PySem.W.takerIn K C name = some none) (hh : PySem.W.hasDictIn K C = true)
    (hw : PySem.Within mA ns) (hsz : ns.length ≤ sizeLine)
    (h : ∀ h', ObjM h' x dx C (fun y => if y = name then some v else mA y) → Heap.SameBut dx s.heap h' → Q () { s with heap := h', toks := s.toks + 2 }) :
    wpAny (model prog w) A (setAttr (.ref x) name v) Q E s := by
  obtain ⟨od, J, hl⟩ := I.look
  refine PySem.W.set_plain X J hs (PySem.W.osa_open (s := { s with toks := s.toks + 1 }) (r := none) X J hp ht fun b => ?_)
  obtain ⟨cd, hc, hd'⟩ := PySem.W.any_some hh
  have hx : s.heap.get? x = some ⟨.ref C, some dx, .plain, #[]⟩ := I.obj
  refine wpAny_bind (wpAny_pure (wpAny_bind (wpAny_bind (wpAny_loadPart hx (wpAny_bind (PySem.W.Looks.here (s := { s with toks := s.toks + 1 }) (PySem.W.looks_clsIn X hc) ?_))))))
  rw [hd']
  refine wpAny_pure (a := some dx) (wpAny_bind (wpAny_pure (wpAny_bind ?_)))
  refine wpAny_nsSet1 (s := { s with toks := s.toks + 1 }) I.ns fun h' hn2 hs2 => ?_
  obtain ⟨oD, esD, epD, hoD, hdD, hcD⟩ := hn2.count (PySem.Within.cons name v hw)
  refine wpAny_bind (wpAny_lookBehind hoD (by rw [hdD]; exact pastItsLine_dict (Nat.le_trans hcD (by rw [List.length_cons]; omega))) ?_)
  exact wpAny_pure (h _ ⟨(hs2.2 _ (Ne.symm I.ne)).trans I.obj, hn2, I.ne⟩ hs2)

theorem make_map {R : Result → Shared → Prop} {vs : List Value} {kw : List (Str × Value)} (X : K.In s.heap) (hm : PySem.W.makesIn K C = true)
    (hi : PySem.W.findIn K (.ref C) "__init__" = some (some (.ref f))) (hf : PySem.W.typeIn K (.ref f) = some (.type "function"))
    (h : codeAny (model prog w) (A.under (.builtin "type.__call__" ⟨.ref C :: vs, kw⟩)) (.call (.ref f) ⟨.ref (s.heap.objs.size + 1) :: vs, kw⟩) (PySem.W.InitBack (s.heap.objs.size + 1) R)
      { s with heap := (s.heap.push PySem.W.emptyDict).push (PySem.W.instObj C s.heap.objs.size) }) :
    codeAny (model prog w) A (.call (.ref C) ⟨vs, kw⟩) R s := by
  obtain ⟨hh, g, d, t, os⟩ := s
  exact PySem.W.make_core (PySem.W.makes_of X hm) (PySem.W.looks_findIn X hi) (fun self => PySem.W.bind_fn X self hf) (.inl rfl) h
end

/-! ### the attributes as a list of pairs -/
def putF (f : Str) (v : V) : List (Str × V) → List (Str × V)
  | [] => [(f, v)]
  | (g, x) :: r => if g = f then (g, v) :: r else (g, x) :: putF f v r
theorem lookup_putF (f g : Str) (v : V) : ∀ fs : List (Str × V), (putF f v fs).lookup g = if g = f then some v else fs.lookup g
  | [] => by
    show List.lookup g [(f, v)] = _
    by_cases h : g = f
    · have hb : (g == f) = true := beq_iff_eq.mpr h
      simp only [List.lookup, hb, if_pos h]
    · have hb : (g == f) = false := beq_eq_false_iff_ne.mpr h
      simp only [List.lookup, hb, if_neg h]
  | (k, x) :: r => by
    have ih := lookup_putF f g v r
    rw [show putF f v ((k, x) :: r) = (if k = f then (k, v) :: r else (k, x) :: putF f v r) from rfl]
    by_cases hk : k = f
    · rw [if_pos hk]
      by_cases h : g = k
      · have hb : (g == k) = true := beq_iff_eq.mpr h
        simp only [List.lookup, hb, if_pos (h.trans hk)]
      · have hb : (g == k) = false := beq_eq_false_iff_ne.mpr h
        simp only [List.lookup, hb, if_neg (fun e : g = f => h (e.trans hk.symm))]
    · rw [if_neg hk]
      by_cases h : g = k
      · have hb : (g == k) = true := beq_iff_eq.mpr h
        simp only [List.lookup, hb, if_neg (fun e : g = f => hk (h.symm.trans e))]
      · have hb : (g == k) = false := beq_eq_false_iff_ne.mpr h
        simp only [List.lookup, hb]
        exact ih
theorem keys_putF (f : Str) (v : V) : ∀ fs : List (Str × V), f ∈ (putF f v fs).map (·.1) ∧ ∀ g, g ∈ fs.map (·.1) → g ∈ (putF f v fs).map (·.1)
  | [] => ⟨by simp [putF], fun g h => by simp at h⟩
  | (k, x) :: r => by
    obtain ⟨i1, i2⟩ := keys_putF f v r
    rw [show putF f v ((k, x) :: r) = (if k = f then (k, v) :: r else (k, x) :: putF f v r) from rfl]
    by_cases hk : k = f
    · rw [if_pos hk]
      subst hk
      exact ⟨by simp, fun g h => by simpa using h⟩
    · rw [if_neg hk]
      refine ⟨?_, fun g h => ?_⟩
      · rw [List.map_cons]
        exact List.mem_cons_of_mem _ i1
      · rw [List.map_cons] at h ⊢
        rcases List.mem_cons.mp h with e | e
        · exact List.mem_cons.mpr (.inl e)
        · exact List.mem_cons_of_mem _ (i2 g e)
theorem length_putF (f : Str) (v : V) : ∀ fs : List (Str × V), (putF f v fs).length ≤ fs.length + 1
  | [] => by simp [putF]
  | (k, x) :: r => by
    have ih := length_putF f v r
    rw [show putF f v ((k, x) :: r) = (if k = f then (k, v) :: r else (k, x) :: putF f v r) from rfl]
    by_cases hk : k = f
    · rw [if_pos hk, List.length_cons, List.length_cons]; omega
    · rw [if_neg hk, List.length_cons, List.length_cons]; omega

theorem RelO.some_of {v : V} {o : Option Value} (r : RelO (some v) o) : ∃ u, o = some u ∧ RelV v u := by
  cases o with
  | none => exact (show False from r).elim
  | some u => exact ⟨u, rfl, r⟩
theorem RelO.none_of {o : Option Value} (r : RelO none o) : o = none := by
  cases o with
  | none => rfl
  | some u => exact (show False from r).elim
theorem handed_of {v : V} {u : Value} (r : RelV v u) : PySem.W.handedIn u = true := by
  cases v with
  | non => cases (show u = Value.none from r); rfl
  | bl b => cases (show u = Value.bool b from r); rfl
  | int i => obtain ⟨t, e⟩ := (show ∃ t, u = Value.int i t from r); cases e; rfl
  | str x => obtain ⟨t, e⟩ := (show ∃ t, u = Value.str x t from r); cases e; rfl
  | byt b => obtain ⟨t, e⟩ := (show ∃ t, u = Value.bytes b t from r); cases e; rfl
  | flt b => obtain ⟨t, e⟩ := (show ∃ t, u = Value.float b t from r); cases e; rfl
  | ref a => cases (show u = Value.ref a from r); rfl
  | ty n => cases (show u = Value.type n from r); rfl

section
variable {P : Program} {w : World} {H H' : Hp} {h h' : Heap} {a C dx : Addr} {fs fs' : List (Str × V)}
theorem ins_get (hok : HOk P w H h) (e : H a = some (.ins C dx fs)) : ∃ mA, ObjM h a dx C mA ∧ (∀ f, RelO (fs.lookup f) (mA f)) ∧ PySem.Within mA (fs.map (·.1)) ∧ fs.length ≤ 1000 ∧ H dx = some (.own a) := by
  obtain ⟨d, z, ne, ob, mA, n, r, q⟩ := (show ObjOk P w H h a (.ins C dx fs) from hok a _ e)
  exact ⟨mA, ⟨ob, n, ne⟩, r, q, z, d⟩
end

/-! ### what of the text a class must have -/
structure Cls (K : PySem.W.Frag) (C : Addr) : Prop where
  pg : PySem.W.plainGet K C Str.empty = true
  hd : PySem.W.hasDictIn K C = true
  po : PySem.W.plainOver K C = true
  sa : PySem.W.findIn K (.ref C) "__setattr__" = some (some (.builtin "object.__setattr__"))
theorem Cls.get {K : PySem.W.Frag} {C : Addr} (c : Cls K C) (f : Str) : PySem.W.plainGet K C f = true := c.pg
def NoAttr (K : PySem.W.Frag) (C : Addr) (f : Str) : Prop := PySem.W.findIn K (.ref C) f = some none
theorem NoAttr.taker {K : PySem.W.Frag} {C : Addr} {f : Str} (n : NoAttr K C f) : PySem.W.takerIn K C f = some none := by
  unfold PySem.W.takerIn
  rw [show PySem.W.findIn K (.ref C) f = some none from n]
  rfl
structure Con (K : PySem.W.Frag) (C : Addr) (f : Str) (v : V) (u : Value) : Prop where
  at_ : PySem.W.findIn K (.ref C) f = some (some u)
  rel : RelV v u
  get : PySem.W.specialIn K u "__get__" = some none
  cp : PySem.W.copiedNames.contains f = false
structure Meth (K : PySem.W.Frag) (C : Addr) (m : Str) (f : Addr) : Prop where
  at_ : PySem.W.findIn K (.ref C) m = some (some (.ref f))
  fn : PySem.W.isFn K (.ref f) = true
  kp : PySem.W.keepIn K (.ref f) = true

section
variable {X : Cx} {pins : List (Addr × Obj)} {σ : St} {H : Hp} {s : Shared} {a C dx : Addr} {fs : List (Str × V)} {f : Str} {v : V} {A : Around} {E : Value → Shared → Prop}

theorem getattr_ok {b : Bool} {Q : Value → Shared → Prop} (I : Inv X pins σ H s) (e : H a = some (.ins C dx fs)) (c : Cls X.K C) (n : NoAttr X.K C f) (l : fs.lookup f = some v)
    (h : ∀ u s', Inv X pins σ H s' → RelV v u → Q u s') : wpAny (model X.prog X.w) A (getAttr (.ref a) f b) Q E s := by
  obtain ⟨mA, O, r, _, _, _⟩ := ins_get I.hok e
  obtain ⟨u, hu, ru⟩ := RelO.some_of (v := v) (o := mA f) (by rw [← l]; exact r f)
  exact get_map I.kIn O (c.get f) c.hd n hu (handed_of ru) (h u _ (I.tok _) ru)

theorem getmeth_ok {m : Str} {g : Addr} {pl : Sem Bool} {Q : Value × List Value → Shared → Prop} (I : Inv X pins σ H s) (e : H a = some (.ins C dx fs)) (c : Cls X.K C) (k : Meth X.K C m g) (l : fs.lookup m = none)
    (h : Q (.ref g, [.ref a]) s) : wpAny (model X.prog X.w) A (getMethod (.ref a) m pl) Q E s := by
  obtain ⟨mA, O, r, _, _, _⟩ := ins_get I.hok e
  have hn : mA m = none := RelO.none_of (by rw [← l]; exact r m)
  exact get_meth I.kIn O (c.get m) k.at_ k.fn hn h

theorem setattr_ok {y : V} {u : Value} {Q : Unit → Shared → Prop} (I : Inv X pins σ H s) (e : H a = some (.ins C dx fs)) (c : Cls X.K C) (n : NoAttr X.K C f) (hl : fs.length < 1000) (ry : RelV y u)
    (h : ∀ s', Inv X pins σ (upd H a (.ins C dx (putF f y fs))) s' → Q () s') : wpAny (model X.prog X.w) A (setAttr (.ref a) f u) Q E s := by
  obtain ⟨mA, O, r, wi, _, ho⟩ := ins_get I.hok e
  have hz : (fs.map (·.1)).length ≤ sizeLine := by rw [List.length_map, sizeLine_eq]; omega
  refine set_map I.kIn O c.sa c.po n.taker c.hd wi hz fun h' O' sb => h _ ?_
  have hd : ∃ o, h'.get? dx = some o := let ⟨o, _, _, e', _⟩ := O'.ns; ⟨o, e'⟩
  refine I.write (x := a) (e := dx) (by rw [e]; exact True.intro) (.inr ho) (fun b q hb z => (sb.2 b hb).trans z) hd ?_
  refine ⟨by rw [upd_ne O.ne]; exact ho, ?_, O.ne, O'.obj, _, O'.ns, fun g => ?_, fun g hg => ?_⟩
  · have := length_putF f y fs; omega
  · show RelO ((putF f y fs).lookup g) (if g = f then some u else mA g)
    rw [lookup_putF]
    by_cases q : g = f
    · rw [if_pos q, if_pos q]; exact ry
    · rw [if_neg q, if_neg q]; exact r g
  · by_cases q : g = f
    · rw [q]; exact (keys_putF f y fs).1
    · refine (keys_putF f y fs).2 g (wi g fun z => hg ?_)
      show (if g = f then some u else mA g) = none
      rw [if_neg q]; exact z

theorem Inv.made (I : Inv X pins σ H s) : Inv X pins σ (upd (upd H s.heap.objs.size (.own (s.heap.objs.size + 1))) (s.heap.objs.size + 1) (.ins C s.heap.objs.size []))
    { s with heap := (s.heap.push PySem.W.emptyDict).push (PySem.W.instObj C s.heap.objs.size) } := by
  have e1 : (s.heap.push PySem.W.emptyDict).get? s.heap.objs.size = some PySem.W.emptyDict := Heap.get?_push_size s.heap rfl
  have e2 : ((s.heap.push PySem.W.emptyDict).push (PySem.W.instObj C s.heap.objs.size)).get? (s.heap.objs.size + 1) = some (PySem.W.instObj C s.heap.objs.size) := by
    have := Heap.get?_push_size (s.heap.push PySem.W.emptyDict) (o := PySem.W.instObj C s.heap.objs.size) rfl
    rwa [Heap.size_push] at this
  have e3 : (s.heap.push PySem.W.emptyDict).Ns s.heap.objs.size (fun _ => none) := ⟨PySem.W.emptyDict, #[], _, e1, rfl, (fun e he => absurd he (by simp)), fun _ => rfl⟩
  have I1 := I.laid (a := s.heap.objs.size) (o := .own (s.heap.objs.size + 1)) (h' := s.heap.push PySem.W.emptyDict) (t' := s.toks) (fun b u q => Heap.get?_push_of_some _ q) (Nat.le_refl _) ⟨_, e1⟩
  refine I1.laid (a := s.heap.objs.size + 1) (o := .ins C s.heap.objs.size []) (t' := s.toks) (fun b u q => Heap.get?_push_of_some _ q) (Nat.le_of_eq (Heap.size_push _ _)) ?_
  have ne : s.heap.objs.size ≠ s.heap.objs.size + 1 := Nat.ne_of_lt (Nat.lt_succ_self _)
  refine ⟨by rw [upd_ne ne, upd_same], Nat.zero_le _, ne, e2, fun _ => none, (Heap.Ns1.of_empty e3).at fun o q => Heap.get?_push_of_some _ q, fun _ => True.intro, fun y hy => absurd rfl hy⟩

theorem attr_of {prog : Program} {w : World} {env : Env} {e : Expr} {f : Str} {pos : Pos} {s : Shared} {Q : Value → Shared → Prop} (hb : attributeBase e f env (eval e env) = eval e env)
    (h : wpAny (model prog w) A (eval e env) (fun o s₁ => wpAny (model prog w) A (getAttr o f true) Q E s₁) E s) : wpAny (model prog w) A (eval (.Attribute e f pos) env) Q E s :=
  Attribute_any_ h (by rw [arm_eval_Attribute, hb])
end

/-! ### readings and rules -/
section
variable {X : Cx} {o e value : Expr} {f : Str} {pos pos' tpos : Pos} {ta tv : TE}
end

/-! ### isinstance -/
section
variable {X : Cx} {pins : List (Addr × Obj)} {σ : St} {H : Hp} {s : Shared} {A : Around} {E : Value → Shared → Prop} {Q : Value → Shared → Prop} {c : Value} {b : Bool}
inductive TyOf (K : PySem.W.Frag) (H : Hp) : V → Value → Prop where
  | non : TyOf K H .non (.type "NoneType")
  | bl (x : Bool) : TyOf K H (.bl x) (.type "bool")
  | int (i : Int) : TyOf K H (.int i) (.type "int")
  | str (x : Str) : TyOf K H (.str x) (.type "str")
  | flt (x : UInt64) : TyOf K H (.flt x) (.type "float")
  | lst {a : Addr} {xs : List V} (e : H a = some (.lst xs)) : TyOf K H (.ref a) (.type "list")
  | frz {a : Addr} {o : Obj} {xs : List V} (e : H a = some (.frz o (.lst xs))) : TyOf K H (.ref a) (.type "list")
  | tup {a : Addr} {xs : List V} (e : H a = some (.tup xs)) : TyOf K H (.ref a) (.type "tuple")
  | dK {a : Addr} {kvs : List (Key × V)} (e : H a = some (.dK kvs)) : TyOf K H (.ref a) (.type "dict")
  | dT {a : Addr} {kvs : List (List Key × V)} (e : H a = some (.dT kvs)) : TyOf K H (.ref a) (.type "dict")
  | ins {a C dx : Addr} {fs : List (Str × V)} (e : H a = some (.ins C dx fs)) (cl : Cls K C) (ha : PySem.W.findIn K (.ref C) "__class__" = some (some (.builtin "object.__class__")))
      (hn : PySem.W.specialIn K (.builtin "object.__class__") "__get__" = some (some (.builtin "getset_descriptor.__get__"))) (htk : PySem.W.takesIn K (.builtin "object.__class__") = some true)
      (hm : PySem.W.mroIn K C (.type "object") = some true) : TyOf K H (.ref a) (.ref C)
end
end L2

namespace L2
open PySem PySem.Spec PyProof.Rows

/-! ### room -/
structure Room (k : Nat) (A : Around) : Prop where
  hd : A.handled = none
  dp : A.depth + 3 * k + 5 < recursionLimit
  un : A.units + 16 * k + 200 < cLine
theorem Room.mono {j k : Nat} {A : Around} (r : Room k A) (h : j ≤ k) : Room j A := ⟨r.hd, by have := r.dp; omega, by have := r.un; omega⟩
theorem Room.deeper {k : Nat} {A : Around} (r : Room (k + 1) A) (env : Env) : Room k (A.deeper env) :=
  ⟨r.hd, by have := r.dp; show A.depth + 1 + 3 * k + 5 < _; omega, by have := r.un; show A.units + 3 + 16 * k + 200 < _; omega⟩
theorem make_depth {A : Around} {C : Addr} {us : List Value} {kw : List (Str × Value)} : (A.under (.builtin "type.__call__" ⟨.ref C :: us, kw⟩)).depth = A.depth + 1 := by
  first | rfl | simp [Around.under, Code.weight, Code.isCreation, Code.isGuard, Code.isCaller, Code.frames, Code.isFrame, guardIds]
theorem make_units {A : Around} {C : Addr} {us : List Value} {kw : List (Str × Value)} : (A.under (.builtin "type.__call__" ⟨.ref C :: us, kw⟩)).units = A.units + 1 := by
  first | rfl | simp [Around.under, Code.cUnits, Code.frames, Code.isFrame]
theorem Room.make {k : Nat} {A : Around} (r : Room (k + 1) A) (C : Addr) (us : List Value) (kw : List (Str × Value)) : Room k (A.under (.builtin "type.__call__" ⟨.ref C :: us, kw⟩)) :=
  ⟨r.hd, by have := r.dp; rw [make_depth]; omega, by have := r.un; rw [make_units]; omega⟩
theorem Room.depth {k : Nat} {A : Around} (r : Room k A) : A.depth < recursionLimit := by have := r.dp; omega
theorem Room.units {k : Nat} {A : Around} (r : Room k A) : A.units + 64 < cLine := by have := r.un; omega
/-! ### argument lists and displays -/
def tNil : TA := fun _ H Q => Q [] H
def tCons (ta : TE) (tr : TA) : TA := fun σ H Q => ta σ H fun x H1 => tr σ H1 fun xs H2 => Q (x :: xs) H2
section
variable {X : Cx} {e : Expr} {es : List Expr} {te : TE} {t : TA} {pos : Pos}
theorem pa_nil : PA X [] tNil := fun _ _ _ _ H Q I h => Calls.spliced_nil ⟨[], H, I, .nil, h⟩
theorem pa_cons (ha : PE X e te) (hr : PA X es t) (hs : starEach (e :: es) X.env = (false, eval e X.env) :: starEach es X.env := by rfl) : PA X (e :: es) (tCons te t) := by
  intro pos pins s σ H Q I h
  rw [hs]
  show wpAny _ _ (spliced ((false, eval e X.env) :: backTo pos (starEach es X.env))) _ _ s
  refine Calls.spliced_cons (thn (ha pins s σ H _ I h) fun u s1 ⟨x, H1, I1, r1, q1⟩ => ?_)
  exact thn (hr pos pins s1 σ H1 _ I1 q1) fun us s2 ⟨xs, H2, I2, r2, q2⟩ => ⟨x :: xs, H2, I2, .cons r1 r2, q2⟩

def tTup (t : TA) : TE := fun σ H Q => t σ H fun xs H1 => xs.length ≤ sizeLine ∧ ∀ p, H1 p = none → Q (.ref p) (upd H1 p (.tup xs))
def tLst (t : TA) : TE := fun σ H Q => t σ H fun xs H1 => xs.length ≤ sizeLine ∧ ∀ p, H1 p = none → Q (.ref p) (upd H1 p (.lst xs))
theorem pe_tup {x1} (h : PA X es t) : PE X (.Tuple es x1 pos) (tTup t) := by
  intro pins s σ H Q I hq
  refine wpAny_Tuple_spliced (thn (h pos pins s σ H _ I hq) fun us s1 ⟨xs, H1, I1, r, z, q⟩ => ⟨by rw [← r.length]; exact z, ?_⟩)
  have hf : H1 s1.heap.objs.size = none := I1.hok.fresh (Nat.le_refl _)
  refine ⟨.ref s1.heap.objs.size, upd H1 s1.heap.objs.size (.tup xs), I1.laid (t' := s1.toks) (fun b u e => Heap.get?_push_of_some _ e) (Nat.le_refl _) ?_, rfl, q _ hf⟩
  exact ⟨z, us, r, ⟨_, Heap.get?_push_size _ rfl, rfl, _, rfl⟩⟩
theorem pe_lst (h : PA X es t) : PE X (.List es pos) (tLst t) := by
  intro pins s σ H Q I hq
  refine wpAny_List_spliced (thn (h pos pins s σ H _ I hq) fun us s1 ⟨xs, H1, I1, r, z, q⟩ => ⟨by rw [← r.length]; exact z, ?_⟩)
  have hf : H1 s1.heap.objs.size = none := I1.hok.fresh (Nat.le_refl _)
  refine ⟨.ref s1.heap.objs.size, upd H1 s1.heap.objs.size (.lst xs), I1.laid (t' := s1.toks) (fun b u e => Heap.get?_push_of_some _ e) (Nat.le_refl _) ?_, rfl, q _ hf⟩
  exact ⟨z, us, 0, r, Heap.get?_push_size _ rfl⟩
end

/-! ### what a def promises -/
abbrev Sp := List V → Hp → VK → XK → Prop
abbrev CXT := List Env → Hp → Shared → XK → Value → Shared → Prop

structure Env0 (P : Program) (w : World) (K : PySem.W.Frag) (mg : Str → Option Value) (base : Heap) (A : Around) (outer : List Env) (s : Shared) (H : Hp) : Prop where
  frames : A.frames = some outer
  mod : Mod K mg base
  bs : ∀ b o, base.get? b = some o → s.heap.get? b = some o ∧ H b = none
  bsz : base.objs.size ≤ s.heap.objs.size
  funs : s.heap.FunFrames base outer
  frf : ∀ b ∈ frs outer, H b = none
  hok : HOk P w H s.heap
  bare : AllBare s.gens
def CE (outer : List Env) (P : Program) (w : World) (H : Hp) (s : Shared) (Q : VK) (u : Value) (s' : Shared) : Prop :=
  ∃ v H', s'.os = s.os ∧ AllBare s'.gens ∧ Un (frs outer) [] H H' s.heap s'.heap ∧ HOk P w H' s'.heap ∧ RelV v u ∧ Q v H'
def CR (CX : CXT) (outer : List Env) (P : Program) (w : World) (H : Hp) (s : Shared) (Q : VK) (E : XK) (r : Result) (s' : Shared) : Prop :=
  match r with
  | .ok (.ret u) => CE outer P w H s Q u s'
  | .ok _ => False
  | .error e => CX outer H s E e s'
structure FnOk (P : Program) (w : World) (K : PySem.W.Frag) (mg : Str → Option Value) (base : Heap) (CX : CXT) (k : Nat) (f : Addr) (fd : FuncData) (ps : List Str) (sp : Sp) : Prop where
  len : ∀ vs H Q E, sp vs H Q E → vs.length = ps.length
  run : ∀ (A : Around) (outer : List Env) (s : Shared) (H : Hp) (args : Args) (us : List Value) (vs : List V) (Q : VK) (E : XK), Room k A → Env0 P w K mg base A outer s H → BindsTo s fd args (ps.zip us) → Vals vs us → sp vs H Q E →
    codeAny (model P w) A (.call (.ref f) args) (CR CX outer P w H s Q E) s
theorem Env0.make {P : Program} {w : World} {K : PySem.W.Frag} {mg : Str → Option Value} {base : Heap} {A : Around} {outer : List Env} {s : Shared} {H : Hp} (e : Env0 P w K mg base A outer s H) (C : Addr) (us : List Value) (kw : List (Str × Value)) :
    Env0 P w K mg base (A.under (.builtin "type.__call__" ⟨.ref C :: us, kw⟩)) outer s H := ⟨by first | exact e.frames | (simpa [Around.under, Code.envs, Code.isFrame, pushEnvs] using e.frames), e.mod, e.bs, e.bsz, e.funs, e.frf, e.hok, e.bare⟩
section
variable {X : Cx} {pins : List (Addr × Obj)} {σ : St} {H : Hp} {s s' : Shared}
theorem Inv.env0 (I : Inv X pins σ H s) : Env0 X.prog X.w X.K X.mg X.base X.A X.stack s H :=
  ⟨I.ok.frames, I.ok.mod, I.bs, Nat.le_trans I.ok.bsz I.sz, I.stack, I.stkFree, I.hok, I.bare⟩
theorem Inv.after {Q : VK} {u : Value} (I : Inv X pins σ H s) (h : CE X.stack X.prog X.w H s Q u s') : EP X pins σ Q u s' := by
  obtain ⟨v, H', os, bare, un, hok, r, q⟩ := h
  obtain ⟨hh, g, d, t, os'⟩ := s'
  obtain rfl : os' = s.os := os
  exact ⟨v, H', I.call (h' := hh) (g' := g) (d' := d) (t' := t) (ch := []) un hok bare (fun b z => absurd z (by simp)), r, q⟩
end

/-! ### calls -/
def tCall (sp : Sp) (dvs : List V) (E : XK) (t : TA) : TE := fun σ H Q => t σ H fun vs H1 => sp (vs ++ dvs) H1 Q E
def tMeth (C : Addr) (m : Str) (sp : Sp) (dvs : List V) (E : XK) (ta : TE) (t : TA) : TE := fun σ H Q => ta σ H fun x H1 => ∃ a dx fs, x = .ref a ∧ H1 a = some (.ins C dx fs) ∧ fs.lookup m = none ∧
  t σ H1 fun vs H2 => sp (x :: (vs ++ dvs)) H2 Q E
def Binds (K : PySem.W.Frag) (fd : FuncData) (ps : List Str) (ds : List Value) : Prop :=
  ∀ (s : Shared) (us : List Value), K.In s.heap → (us ++ ds).length = ps.length → BindsTo s fd ⟨us, []⟩ (ps.zip (us ++ ds))
theorem Binds.all {K : PySem.W.Frag} {fd : FuncData} {ps : List Str} (h : ∀ us : List Value, us.length = ps.length → bindArgs fd ⟨us, []⟩ = pure (ps.zip us)) : Binds K fd ps [] := fun s us _ hl => by
  rw [List.append_nil] at hl ⊢
  exact .of_eq (h us hl)

def Passes (CX : CXT) (X : Cx) (E : XK) : Prop := ∀ (pins : List (Addr × Obj)) (σ : St) (H : Hp) (s : Shared) (e : Value) (s' : Shared), Inv X pins σ H s → CX X.stack H s E e s' → X.xe e s'

section
variable {X : Cx} {CX : CXT} {k : Nat} {f C : Addr} {fd : FuncData} {ps : List Str} {sp : Sp} {dvs : List V} {ds : List Value} {E : XK} {x m : Str} {p pos apos : Pos} {e o : Expr} {es : List Expr} {ta : TE} {t : TA}

theorem run_fn {pins : List (Addr × Obj)} {σ : St} {H : Hp} {s : Shared} {Q : VK} {us : List Value} {vs : List V} (F : FnOk X.prog X.w X.K X.mg X.base CX k f fd ps sp) (hr : Room k X.A) (hb : Binds X.K fd ps ds) (hd : Vals dvs ds) (hx : Passes CX X E)
    (I : Inv X pins σ H s) (r : Vals vs us) (h : sp (vs ++ dvs) H Q E) : wpAny (model X.prog X.w) X.A (call (.ref f) us) (EP X pins σ Q) X.xe s := by
  have r2 : Vals (vs ++ dvs) (us ++ ds) := r.append hd
  have hl : (us ++ ds).length = ps.length := by rw [← r2.length]; exact F.len _ _ _ _ h
  refine wpAny_call (codeAny_mono (F.run X.A X.stack s H ⟨us, []⟩ (us ++ ds) (vs ++ dvs) Q E hr I.env0 (hb s us I.kIn hl) r2 h) fun r s' hq => ?_)
  cases r with
  | error e => exact hx pins σ H s e s' I hq
  | ok fl =>
    cases fl with
    | ret u => exact I.after hq
    | next => exact False.elim hq
    | brk => exact False.elim hq
    | cont => exact False.elim hq

theorem pe_call (F : FnOk X.prog X.w X.K X.mg X.base CX k f fd ps sp) (hr : Room k X.A) (hg : Gl X x) (hm : X.mg x = some (.ref f)) (hk : PySem.W.keepIn X.K (.ref f) = true) (hb : Binds X.K fd ps ds) (hd : Vals dvs ds) (hx : Passes CX X E)
    (ha : PA X (e :: es) t) (hdb : (x == ("__debug__" : Str)) = false := by decide) (he : starEach (e :: es) X.env = (false, eval e X.env) :: starEach es X.env := by rfl) (hpl : (backTo pos (starEach es X.env)).any (·.1) = false := by rfl) :
    PE X (.Call (.Name x p) (e :: es) [] pos) (tCall sp dvs E t) := by
  intro pins s σ H Q I h
  refine wpAny_Call_Name_kw (ld_glob I hg hm ?_ hdb)
  refine PySem.W.callWith_K (h₀ := X.base) I.ok.mod.kin hk (thn (ha pos pins s σ H _ I h) fun us s1 ⟨vs, H1, I1, r, q⟩ => ⟨I1.kIn, ?_⟩) he hpl
  exact run_fn F hr hb hd hx I1 r q
theorem pe_meth {pl : Sem Bool} (he : PE X o ta) (c : Cls X.K C) (hm : Meth X.K C m f) (F : FnOk X.prog X.w X.K X.mg X.base CX k f fd ps sp) (hr : Room k X.A) (hb : Binds X.K fd ps ds) (hd : Vals dvs ds) (hx : Passes CX X E) (ha : PA X (e :: es) t)
    (hst : starEach (e :: es) X.env = (false, eval e X.env) :: starEach es X.env := by rfl) (hpl : (backTo pos (starEach es X.env)).any (·.1) = false := by rfl)
    (ht : eval (.Call (.Attribute o m apos) (e :: es) [] pos) X.env = (do
      let ov ← eval o X.env
      standAt apos.atName
      let (f, first) ← holding [ov] (getMethod ov m pl)
      callWith pos f first (backTo pos (starEach (e :: es) X.env)) (backToKw pos (keywordEach [] X.env))) := by rfl) :
    PE X (.Call (.Attribute o m apos) (e :: es) [] pos) (tMeth C m sp dvs E ta t) := by
  intro pins s σ H Q I h
  refine PySem.W.methodCall_KW (pl := pl) (thn (he pins s σ H _ I h) fun u s1 ⟨x, H1, I1, rx, a, dx, fs, ex, ea, l, q⟩ => ?_) ht
  subst ex
  obtain rfl : u = Value.ref a := rx
  refine getmeth_ok I1 ea c hm l ?_
  refine PySem.W.callWith_K (first := [.ref a]) (h₀ := X.base) I.ok.mod.kin hm.kp (thn (ha pos pins s1 σ H1 _ I1 q) fun us s2 ⟨vs, H2, I2, r, q2⟩ => ⟨I2.kIn, ?_⟩) hst hpl
  exact run_fn (us := .ref a :: us) (vs := .ref a :: vs) F hr hb hd hx I2 (.cons rfl r) q2
theorem pe_meth0 {pl : Sem Bool} (he : PE X o ta) (c : Cls X.K C) (hm : Meth X.K C m f) (F : FnOk X.prog X.w X.K X.mg X.base CX k f fd ps sp) (hr : Room k X.A) (hb : Binds X.K fd ps ds) (hd : Vals dvs ds) (hx : Passes CX X E)
    (ht : eval (.Call (.Attribute o m apos) [] [] pos) X.env = (do
      let ov ← eval o X.env
      standAt apos.atName
      let (f, first) ← holding [ov] (getMethod ov m pl)
      callWith pos f first (backTo pos (starEach [] X.env)) (backToKw pos (keywordEach [] X.env))) := by rfl) :
    PE X (.Call (.Attribute o m apos) [] [] pos) (tMeth C m sp dvs E ta tNil) := by
  intro pins s σ H Q I h
  refine PySem.W.methodCall_KW (pl := pl) (thn (he pins s σ H _ I h) fun u s1 ⟨x, H1, I1, rx, a, dx, fs, ex, ea, l, q⟩ => ?_) ht
  subst ex
  obtain rfl : u = Value.ref a := rx
  refine getmeth_ok I1 ea c hm l ?_
  exact PySem.W.callWith_K0 (first := [.ref a]) I1.kIn hm.kp (run_fn (us := [.ref a]) (vs := [.ref a]) F hr hb hd hx I1 (.cons rfl .nil) q)

structure Mk (K : PySem.W.Frag) (C f : Addr) : Prop where
  makes : PySem.W.makesIn K C = true
  init : PySem.W.findIn K (.ref C) "__init__" = some (some (.ref f))
  fn : PySem.W.isFn K (.ref f) = true
  kp : PySem.W.keepIn K (.ref C) = true

theorem run_make {pins : List (Addr × Obj)} {σ : St} {H : Hp} {s : Shared} {Q : VK} {us : List Value} {vs : List V} (M : Mk X.K C f) (F : FnOk X.prog X.w X.K X.mg X.base CX k f fd ps sp) (hr : Room (k + 1) X.A) (hb : Binds X.K fd ps ds) (hd : Vals dvs ds)
    (hx : Passes CX X E) (I : Inv X pins σ H s) (r : Vals vs us)
    (h : ∀ x dx, H x = none → H dx = none → dx ≠ x → sp (.ref x :: (vs ++ dvs)) (upd (upd H dx (.own x)) x (.ins C dx [])) (fun v H2 => v = .non ∧ Q (.ref x) H2) E) :
    wpAny (model X.prog X.w) X.A (call (.ref C) us) (EP X pins σ Q) X.xe s := by
  have hq := h (s.heap.objs.size + 1) s.heap.objs.size (I.hok.fresh (Nat.le_succ _)) (I.hok.fresh (Nat.le_refl _)) (Nat.ne_of_lt (Nat.lt_succ_self _))
  have I2 := Inv.made (C := C) I
  have r2 : Vals (V.ref (s.heap.objs.size + 1) :: (vs ++ dvs)) (Value.ref (s.heap.objs.size + 1) :: (us ++ ds)) := .cons rfl (r.append hd)
  have hl : (Value.ref (s.heap.objs.size + 1) :: us ++ ds).length = ps.length := by
    have e := r2.length
    rw [F.len _ _ _ _ hq] at e
    exact e.symm
  refine wpAny_call (make_map (f := f) I.kIn M.makes M.init (beq_iff_eq.mp M.fn) (codeAny_mono (F.run _ X.stack _ _ ⟨Value.ref (s.heap.objs.size + 1) :: us, []⟩ (Value.ref (s.heap.objs.size + 1) :: (us ++ ds)) _ _ E (hr.make C us [])
    (I2.env0.make C us []) (hb _ (Value.ref (s.heap.objs.size + 1) :: us) I2.kIn hl) r2 hq) fun r s' hq' => ?_))
  cases r with
  | error e => exact hx pins σ _ _ e s' I2 hq'
  | ok fl =>
    cases fl with
    | ret u =>
      obtain ⟨v, H', I3, rv, ev, q3⟩ := I2.after hq'
      subst ev
      exact ⟨rv, ⟨V.ref (s.heap.objs.size + 1), H', I3, rfl, q3⟩⟩
    | next => exact False.elim hq'
    | brk => exact False.elim hq'
    | cont => exact False.elim hq'
end

/-! ### keywords -/
section
variable {X : Cx} {CX : CXT} {k : Nat} {f C : Addr} {fd : FuncData} {ps ks : List Str} {sp : Sp} {E : XK} {x m : Str} {p pos apos kpos : Pos} {e o : Expr} {es : List Expr} {kws : List Keyword} {te ta : TE} {t tk : TA} {nm : Option Str}
structure KBinds (K : PySem.W.Frag) (fd : FuncData) (ps ks : List Str) (g : List Value → List Value → List Value) (gV : List V → List V → List V) : Prop where
  to : ∀ (s : Shared) (us ws : List Value), K.In s.heap → (g us ws).length = ps.length → BindsTo s fd ⟨us, ks.zip ws⟩ (ps.zip (g us ws))
  rel : ∀ {vs : List V} {us : List Value} {zs : List V} {ws : List Value}, Vals vs us → Vals zs ws → Vals (gV vs zs) (g us ws)
variable {g : List Value → List Value → List Value} {gV : List V → List V → List V}
end

/-! ### a def's body keeps its promise -/
structure FnScope (N P : List Str) (sc : Scope) : Prop where
  kind : sc.kind = .function
  co : sc.isCoroutine = false
  gen : sc.isGenerator = false
  nd : N.Nodup
  pre : N.take P.length = P
  par : ∀ x ∈ P, sc.names.lookup x = some .local ∨ sc.names.lookup x = some .cell
  nofree : ∀ y ∈ sc.names, y.2 ≠ .free

theorem bindL_out {kindOf : Str → Option NameKind} {x : Str} : ∀ {binds : List (Str × Value)} {m : Str → Option Value}, (∀ v, (x, v) ∉ binds) → bindL kindOf binds m x = m x
  | [], _, _ => rfl
  | (n, v) :: r, m, h => by
    unfold bindL
    rw [bindL_out fun w hw => h w (List.mem_cons_of_mem _ hw)]
    split
    · have : x ≠ n := by rintro rfl; exact h v List.mem_cons_self
      simp [this]
    · rfl
theorem bindC_out {kindOf : Str → Option NameKind} {x : Str} : ∀ {binds : List (Str × Value)} {m : Str → Option Value}, (∀ v, (x, v) ∉ binds) → bindC kindOf binds m x = m x
  | [], _, _ => rfl
  | (n, v) :: r, m, h => by
    unfold bindC
    rw [bindC_out fun w hw => h w (List.mem_cons_of_mem _ hw)]
    split
    · rfl
    · have : x ≠ n := by rintro rfl; exact h v List.mem_cons_self
      simp [this]
theorem bindL_get {kindOf : Str → Option NameKind} {x : Str} {v : Value} : ∀ {P : List Str} {vs : List Value} {i : Nat} {m : Str → Option Value}, P.Nodup → P[i]? = some x → vs[i]? = some v → kindOf x = some .local →
    bindL kindOf (P.zip vs) m x = some v
  | [], _, _, _, _, h, _, _ => by simp at h
  | _ :: _, [], _, _, _, _, h, _ => by simp at h
  | p :: P, w :: vs, 0, m, nd, h1, h2, hk => by
    simp at h1 h2; subst h1; subst h2
    show bindL kindOf ((p, w) :: P.zip vs) m p = _
    unfold bindL
    rw [bindL_out fun v hv => (List.nodup_cons.mp nd).1 (List.of_mem_zip hv).1, if_pos hk]
    simp
  | p :: P, w :: vs, i + 1, m, nd, h1, h2, hk => by
    show bindL kindOf ((p, w) :: P.zip vs) m x = _
    unfold bindL
    exact bindL_get (i := i) (List.nodup_cons.mp nd).2 (by simpa using h1) (by simpa using h2) hk
theorem bindC_get {kindOf : Str → Option NameKind} {x : Str} {v : Value} : ∀ {P : List Str} {vs : List Value} {i : Nat} {m : Str → Option Value}, P.Nodup → P[i]? = some x → vs[i]? = some v → kindOf x ≠ some .local →
    bindC kindOf (P.zip vs) m x = some v
  | [], _, _, _, _, h, _, _ => by simp at h
  | _ :: _, [], _, _, _, _, h, _ => by simp at h
  | p :: P, w :: vs, 0, m, nd, h1, h2, hk => by
    simp at h1 h2; subst h1; subst h2
    show bindC kindOf ((p, w) :: P.zip vs) m p = _
    unfold bindC
    rw [bindC_out fun v hv => (List.nodup_cons.mp nd).1 (List.of_mem_zip hv).1, if_neg hk]
    simp
  | p :: P, w :: vs, i + 1, m, nd, h1, h2, hk => by
    show bindC kindOf ((p, w) :: P.zip vs) m x = _
    unfold bindC
    exact bindC_get (i := i) (List.nodup_cons.mp nd).2 (by simpa using h1) (by simpa using h2) hk

def start (N : List Str) (vs : List V) : St := vs.map some ++ List.replicate (N.length - vs.length) none

def cxOf (CX : CXT) (P : Program) (w : World) (K : PySem.W.Frag) (mg : Str → Option Value) (base : Heap) (N : List Str) (qual : Str) (scope : Scope) (f : Addr) (cd : Value) (A : Around) (outer : List Env) (s : Shared) (H : Hp) (E : XK) : Cx where
  prog := P
  w := w
  K := K
  mg := mg
  base := base
  A := A.deeper (envOfC qual scope s.heap.objs.size f cd)
  N := N
  s₀ := s
  H₀ := H
  env := envOfC qual scope s.heap.objs.size f cd
  outer := outer
  stack := envOfC qual scope s.heap.objs.size f cd :: outer
  ex := []
  calm := true
  fn := fun _ => true
  pn := []
  xe := fun e s' => wpAny (model P w) (A.deeper (envOfC qual scope s.heap.objs.size f cd)) (leaving (envOfC qual scope s.heap.objs.size f cd) e) (fun _ s'' => CX outer H s E e s'') (fun e' s'' => CX outer H s E e' s'') s'

theorem cell_has {sc : Scope} {n : Nat} {x : Str} (h : sc.names.lookup x = some .cell) : ∃ c, (cellsFrom n sc.names []).lookup x = some c := by
  have q := PySem.W.cellsFrom_some sc.names n [] (.inl h)
  exact Option.isSome_iff_exists.mp q

theorem inv_start {CX : CXT} {P : Program} {w : World} {K : PySem.W.Frag} {mg : Str → Option Value} {base : Heap} {N ps : List Str} {qual : Str} {scope : Scope} {f : Addr} {cd : Value} {A : Around} {outer : List Env} {s s1 : Shared} {H : Hp} {E : XK} {us : List Value} {vs : List V}
    (S : FnScope N ps scope) (hd : A.handled = none) (e0 : Env0 P w K mg base A outer s H) (hl : vs.length = ps.length) (r : Vals vs us)
    (x : InCallC s s.heap.objs.size (bindL (envOfC qual scope s.heap.objs.size f cd).kindOf (ps.zip us) fun _ => none) (cellsFrom (s.heap.objs.size + 1) scope.names []) (bindC (envOfC qual scope s.heap.objs.size f cd).kindOf (ps.zip us) fun _ => none) s1) :
    Inv (cxOf CX P w K mg base N qual scope f cd A outer s H E) [] (start N vs) H s1 := by
  have hpl : ps.length ≤ N.length := by have := congrArg List.length S.pre; rw [List.length_take] at this; omega
  obtain ⟨h1, tk, rfl, hk⟩ := x.done
  have noA : ∀ b : Addr, b ∉ (cxOf CX P w K mg base N qual scope f cd A outer s H E).ex := fun b z => absurd (show b ∈ ([] : List Addr) from z) (by simp)
  refine ⟨⟨e0.mod, S.kind, rfl, rfl, Nat.le_refl _, fun y z c h1 h2 => ?_, fun y hy => ?_, fun y c _ h => ?_, fun _ => hd, Around.frames_deeper e0.frames, .inr ⟨rfl, rfl⟩, fun b z => absurd z (noA b), e0.bs, e0.bsz, fun b _ _ => noA b, fun b z => absurd z (noA b), e0.funs, e0.frf⟩,
    rfl, e0.bare, Un.kept hk, ⟨_, x.toInCall.ns, fun i y v h1 h2 h3 => ?_⟩, fun y c h => ⟨_, x.cell y c h⟩, e0.hok.fresh (Nat.le_refl _), fun y c h => ?_, fun p hp => absurd (show p ∈ ([] : List (Addr × Obj)) from hp) (by simp), e0.hok.kept hk, ?_⟩
  · exact name_of_addr x.apart (PySem.mem_of_lookup h1) (PySem.mem_of_lookup h2)
  · have hy : scope.names.lookup y = some .cell ∨ scope.names.lookup y = some .free := hy
    rcases hy with hy | hy
    · exact cell_has hy
    · exact absurd rfl (S.nofree _ (PySem.mem_of_lookup hy))
  · exact Nat.le_of_lt (x.above y c (PySem.mem_of_lookup h))
  · have hi : i < vs.length := by
      unfold start at h2
      by_cases hi : i < vs.length
      · exact hi
      · rw [List.getElem?_append_right (by simpa using hi)] at h2
        rw [List.getElem?_replicate] at h2
        split at h2 <;> cases h2
    have ha : vs[i]? = some v := by
      unfold start at h2
      rw [List.getElem?_append_left (by simpa using hi), List.getElem?_map] at h2
      cases e : vs[i]? with
      | none => rw [e] at h2; cases h2
      | some a => rw [e] at h2; cases h2; rfl
    obtain ⟨u, hu, rv⟩ := r.get ha
    have hp : ps[i]? = some y := by
      rw [← S.pre, List.getElem?_take_of_lt (by omega)]; exact h1
    have ndP : ps.Nodup := by rw [← S.pre]; exact S.nd.sublist (List.take_sublist _ _)
    refine ⟨u, rv, ?_⟩
    rcases S.par y (List.mem_of_getElem? hp) with k | k
    · exact .inl ⟨k, bindL_get ndP hp hu k⟩
    · obtain ⟨c, e⟩ := cell_has (n := s.heap.objs.size + 1) k
      refine .inr ⟨.inl k, c, e, ?_⟩
      have q := x.cell y c e
      rw [bindC_get ndP hp hu (by show scope.names.lookup y ≠ _; rw [k]; decide)] at q
      exact q
  · exact e0.hok.fresh (Nat.le_of_lt (x.above y c (PySem.mem_of_lookup h)))
  · unfold start
    show _ = N.length
    rw [List.length_append, List.length_map, List.length_replicate]
    omega

theorem fn_of {CX : CXT} {P : Program} {w : World} {K : PySem.W.Frag} {mg : Str → Option Value} {base : Heap} {k : Nat} {f : Addr} {name qual : Str} {params : Arguments} {body : List Stmt} {scope : Scope} {dV kV doc pm cdv ct oc : Value} {an od : Option Addr}
    {osl : Array (Option Value)} {N ps : List Str} {sp : Sp} (lk : K.lookup f = some ⟨oc, od, .func (PySem.W.fnOf name qual params body scope dV kV doc pm an cdv ct), osl⟩) (hcd : PySem.W.codeIn K cdv qual = true) (S : FnScope N ps scope)
    (len : ∀ vs H Q E, sp vs H Q E → vs.length = ps.length)
    (hbody : ∀ (A : Around) (outer : List Env) (s : Shared) (H : Hp) (vs : List V) (Q : VK) (E : XK), Room k (A.deeper (envOfC qual scope s.heap.objs.size f cdv)) → sp vs H Q E →
      ∃ t, PSs (cxOf CX P w K mg base N qual scope f cdv A outer s H E) body t ∧ t { nx := fun _ H' => Q .non H', rt := Q } (start N vs) H) :
    FnOk P w K mg base CX (k + 1) f (PySem.W.fnOf name qual params body scope dV kV doc pm an cdv ct) ps sp := by
  refine ⟨len, fun A outer s H args us vs Q E hr e0 hb r hsp => ?_⟩
  have hl := len _ _ _ _ hsp
  have KX : K.In s.heap := e0.mod.kin.keeps fun b o e => (e0.bs b o e).1
  have lim : s.heap.NoLimit := e0.mod.nolimit.keeps fun b o e => (e0.bs b o e).1
  have hkind : ∀ y ∈ ps.zip us, scope.names.lookup y.1 = some .local ∨ (scope.names.lookup y.1 = some .cell ∧ ((cellsFrom (s.heap.objs.size + 1) scope.names []).lookup y.1).isSome = true) := fun ⟨n, v⟩ hy => by
    rcases S.par n (List.of_mem_zip hy).1 with q | q
    · exact .inl q
    · exact .inr ⟨q, PySem.W.cellsFrom_some _ _ _ (.inl q)⟩
  refine codeAny_call_function hr.depth (KX _ _ lk) rfl S.co S.gen rfl (PySem.W.codeRec_of KX hcd) (hb _ _ _ _ ?_)
  refine wpAny_newFunctionEnv_cells S.kind hkind fun env he s1 x => ?_
  subst he
  refine ⟨lim.keeps x.toInCall.keep, codeAny_func ?_⟩
  obtain ⟨t, ht, hq⟩ := hbody A outer s H vs Q E (hr.deeper _) hsp
  have I : Inv (cxOf CX P w K mg base N qual scope f cdv A outer s H E) [] (start N vs) H s1 := inv_start S hr.hd e0 hl r x
  refine wpAny_mono (ht [] s1 (start N vs) H _ I hq) (fun fl s' hs => ?_) fun e s' hs => hs
  have fin : ∀ {σ' : St} {H' : Hp} {v : V} {u : Value}, Inv (cxOf CX P w K mg base N qual scope f cdv A outer s H E) [] σ' H' s' → RelV v u → Q v H' → CE outer P w H s Q u s' :=
    fun {σ' H' v u} J rv q => ⟨v, H', J.os, J.bare, J.base, J.hok, rv, q⟩
  cases fl with
  | ret u =>
    obtain ⟨v, σ', H', J, rv, q⟩ := hs
    exact fin J rv q
  | next =>
    obtain ⟨σ', H', J, q⟩ := hs
    exact fin (v := V.non) (u := Value.none) J rfl q
  | brk =>
    obtain ⟨_, _, _, q⟩ := hs
    exact False.elim q
  | cont =>
    obtain ⟨_, _, _, q⟩ := hs
    exact False.elim q
end L2

namespace L2
open PySem PySem.Spec PyProof.Rows
section
variable {X : Cx} {x : Str} {p pos : Pos} {e : Expr} {es : List Expr} {t : TA} {id T : String} {r : List V → Hp → VK → Prop}

def tCB (r : List V → Hp → VK → Prop) (t : TA) : TE := fun σ H Q => t σ H fun vs H1 => r vs H1 Q
theorem pe_callB (hc : CallR X (.builtin id) r) (hg : Gl X x) (hm : X.mg x = none) (hv : bootBuiltins x = some (.builtin id)) (ha : PA X (e :: es) t) (hn : x ≠ "__name__" := by decide) (hdb : (x == ("__debug__" : Str)) = false := by decide)
    (he : starEach (e :: es) X.env = (false, eval e X.env) :: starEach es X.env := by rfl) (hpl : (backTo pos (starEach es X.env)).any (·.1) = false := by rfl) : PE X (.Call (.Name x p) (e :: es) [] pos) (tCB r t) := by
  intro pins s σ H Q I h
  refine wpAny_Call_Name_kw (ld_blt I hg hm hv ?_ hn hdb)
  exact PyProof.Rows.callWith_builtin1 (thn (ha pos pins s σ H _ I h) fun us s1 ⟨vs, H1, I1, r1, q1⟩ => hc pins s1 σ H1 vs us Q I1 r1 q1) he hpl
theorem pe_callTy (hc : CallR X (.type T) r) (hg : Gl X x) (hm : X.mg x = none) (hv : bootBuiltins x = some (.type T)) (ha : PA X (e :: es) t) (hn : x ≠ "__name__" := by decide) (hdb : (x == ("__debug__" : Str)) = false := by decide)
    (he : starEach (e :: es) X.env = (false, eval e X.env) :: starEach es X.env := by rfl) (hpl : (backTo pos (starEach es X.env)).any (·.1) = false := by rfl) : PE X (.Call (.Name x p) (e :: es) [] pos) (tCB r t) := by
  intro pins s σ H Q I h
  refine wpAny_Call_Name_kw (ld_blt I hg hm hv ?_ hn hdb)
  exact PyProof.Rows.callWith_type1 (thn (ha pos pins s σ H _ I h) fun us s1 ⟨vs, H1, I1, r1, q1⟩ => hc pins s1 σ H1 vs us Q I1 r1 q1) he hpl
end
end L2

namespace HT
open PySem PyProof.Rows

def lexLt : List Int → List Int → Bool
  | [], [] => false
  | [], _ :: _ => true
  | _ :: _, [] => false
  | x :: xs, y :: ys => if x = y then lexLt xs ys else decide (x < y)
theorem lexLt_cons (x y : Int) (xs ys : List Int) : lexLt (x :: xs) (y :: ys) = if x = y then lexLt xs ys else decide (x < y) := rfl
section
open PySem.SeqAt
open PySem.AutoSeq1 (wpAny_loadPart')
open PySem.MeetsSeq PySem.MeetsSeq2 PySem.MeetsSeq3

end

section
variable {prog : Program} {w : World} {A : Around} {E : Value → Shared → Prop} {s : Shared}

/-! ### t[a:b], not the whole -/
def sIx (n d : Nat) : Option Int → Nat
  | none => d
  | some v => if v < 0 then (v + (n : Int)).toNat else min v.toNat n
end
end HT

namespace L2
open PySem PySem.Spec PyProof.Rows

/-! ### the parts of a slice -/
abbrev TO := St → Hp → (Option Int → Hp → Prop) → Prop
def PO (X : Cx) (e : Option Expr) (t : TO) : Prop :=
  ∀ (pins : List (Addr × Obj)) (s : Shared) (σ : St) (H : Hp) (Q : Option Int → Hp → Prop), Inv X pins σ H s → t σ H Q →
    wpAny (model X.prog X.w) X.A (evalPart e X.env) (fun u s' => ∃ o H', Inv X pins σ H' s' ∧ IsPart u o ∧ Q o H') X.xe s
def tNoPart : TO := fun _ H Q => Q none H
def tPart (t : TE) : TO := fun σ H Q => t σ H fun x H1 => ∃ i, x = .int i ∧ Q (some i) H1

theorem intsAre_of {ns : List Int} : ∀ {us : List Value}, Vals (ns.map V.int) us → IntsAre us ns := by
  induction ns with
  | nil => intro us r; rw [List.map_nil] at r; cases r; exact .nil
  | cons n ns ih =>
    intro us r
    rw [List.map_cons] at r
    cases r with
    | cons r1 r2 =>
      obtain ⟨t, e⟩ := r1
      subst e
      exact .cons n t (ih r2)

section
variable {X : Cx} {e : Expr} {te : TE} {lo hi : Option Expr} {tl th : TO} {pos p2 : Pos}

theorem po_none : PO X none tNoPart := by
  intro pins s σ H Q I h
  rw [evalPart_none]
  exact wpAny_pure ⟨none, H, I, .none, h⟩
theorem po_some (h : PE X e te) : PO X (some e) (tPart te) := by
  intro pins s σ H Q I hw
  rw [evalPart_some]
  refine thn (h pins s σ H _ I hw) fun u s1 ⟨x, H1, I1, r1, q1⟩ => ?_
  obtain ⟨i, rfl, q⟩ := q1
  obtain ⟨t, rfl⟩ := r1
  exact ⟨some i, H1, I1, .int i t, q⟩

def SlR (X : Cx) (r : V → Option Int → Option Int → Hp → VK → Prop) : Prop :=
  ∀ (pins : List (Addr × Obj)) (s : Shared) (σ : St) (H : Hp) (x : V) (v vl vu : Value) (lo hi : Option Int) (sl : Addr) (Q : VK), Inv X pins σ H s → RelV x v → s.heap.IsSliceOf sl vl vu .none → IsPart vl lo → IsPart vu hi → r x lo hi H Q →
    ∃ T id, typeLookup (.type T) "__getitem__" = pure (some (.builtin id)) ∧ s.TypeIs v T ∧ wpAny (model X.prog X.w) X.A (getItem v (.ref sl)) (EP X pins σ Q) X.xe s
def tSl (r : V → Option Int → Option Int → Hp → VK → Prop) (te : TE) (tl th : TO) : TE := fun σ H Q => te σ H fun x H1 => tl σ H1 fun l H2 => th σ H2 fun u H3 => r x l u H3 Q
theorem pe_slice {r : V → Option Int → Option Int → Hp → VK → Prop} (hr : SlR X r) (he : PE X e te) (hl : PO X lo tl) (hu : PO X hi th) : PE X (.Subscript e (.Slice lo hi none p2) pos) (tSl r te tl th) := by
  intro pins s σ H Q I h
  refine Subscript_ (thn (he pins s σ H _ I h) fun v s1 ⟨x, H1, I1, r1, q1⟩ => ?_)
  refine wpAny_Slice (thn (hl pins s1 σ H1 _ I1 q1) fun vl s2 ⟨l, H2, I2, pl, q2⟩ => thn (hu pins s2 σ H2 _ I2 q2) fun vu s3 ⟨u, H3, I3, pu, q3⟩ => ?_)
  rw [evalPart_none]
  refine wpAny_pure ?_
  have I4 : Inv X pins σ H3 { s3 with heap := s3.heap.push { cls := .type "slice", data := .fields #[vl, vu, .none] } } := I3.kept (t' := s3.toks) fun b ob q => Heap.get?_push_of_some _ q
  obtain ⟨T, id, hT, ht, hg⟩ := hr pins { s3 with heap := s3.heap.push { cls := .type "slice", data := .fields #[vl, vu, .none] } } σ H3 x v vl vu l u s3.heap.objs.size Q I4 r1 (Heap.IsSliceOf.new ..) pl pu q3
  show wpAny (model X.prog X.w) X.A (subscriptTail e (.Slice lo hi none p2) v (.ref s3.heap.objs.size)) (EP X pins σ Q) X.xe { s3 with heap := s3.heap.push { cls := .type "slice", data := .fields #[vl, vu, .none] } }
  exact tail_any (ops := [.ref s3.heap.objs.size, v]) ht hT hg (by with_unfolding_all rfl)

def cutV (xs : List V) (lo hi : Option Int) : List V := (xs.drop (HT.sIx xs.length 0 lo)).take (HT.sIx xs.length xs.length hi - HT.sIx xs.length 0 lo)
theorem cutV_length (xs : List V) (lo hi : Option Int) : (cutV xs lo hi).length ≤ xs.length := by
  unfold cutV
  rw [List.length_take, List.length_drop]
  omega
/-! ### t < u, t + u -/
def rLtT (K : PySem.W.Frag) : R2 := fun x y H Q => ∃ a b ns ms, x = .ref a ∧ y = .ref b ∧ SqT K H a (ns.map V.int) ∧ SqT K H b (ms.map V.int) ∧ Q (.bl (HT.lexLt ns ms)) H
end
end L2

namespace L2
open PySem PySem.Spec PyProof.Rows

/-! ### places -/
def ixN (n : Nat) (i : Int) : Option Nat := if 0 ≤ i then (if i < n then some i.toNat else none) else if -(n : Int) ≤ i then some (i + n).toNat else none
def atI {α : Type} (xs : List α) (i : Int) : Option α := (ixN xs.length i).bind fun j => xs[j]?
theorem ixN_seq {n : Nat} {i : Int} {j : Nat} (h : ixN n i = some j) : seqIndex? i n = some j ∧ j < n ∧ -(n : Int) ≤ i ∧ i < n := by
  unfold ixN at h
  by_cases h0 : 0 ≤ i
  · rw [if_pos h0] at h
    by_cases h1 : i < n
    · rw [if_pos h1] at h
      have e : i.toNat = j := Option.some.inj h
      exact ⟨by rw [seqIndex_of h0 h1, e], by omega, by omega, h1⟩
    · rw [if_neg h1] at h; cases h
  · rw [if_neg h0] at h
    by_cases h1 : -(n : Int) ≤ i
    · rw [if_pos h1] at h
      have e : (i + n).toNat = j := Option.some.inj h
      exact ⟨by rw [seqIndex_neg (by omega) h1, e], by omega, h1, by omega⟩
    · rw [if_neg h1] at h; cases h
theorem atI_get {α : Type} {xs : List α} {i : Int} {v : α} (h : atI xs i = some v) : ∃ j, seqIndex? i xs.length = some j ∧ xs[j]? = some v ∧ j < xs.length ∧ -(xs.length : Int) ≤ i ∧ i < xs.length := by
  unfold atI at h
  cases e : ixN xs.length i with
  | none => rw [e] at h; cases h
  | some j =>
    rw [e] at h
    obtain ⟨h1, h2, h3, h4⟩ := ixN_seq e
    exact ⟨j, h1, h, h2, h3, h4⟩
theorem atI_nat {α : Type} {xs : List α} {j : Nat} {v : α} (h : xs[j]? = some v) : atI xs (j : Int) = some v := by
  have hj : j < xs.length := (List.getElem?_eq_some_iff.mp h).1
  have e : ixN xs.length (j : Int) = some j := by
    unfold ixN
    rw [if_pos (by omega), if_pos (by omega)]; simp
  unfold atI; rw [e]; exact h
theorem atI_last {α : Type} (xs : List α) (v : α) : atI (xs ++ [v]) (-1) = some v := by
  have hl : (xs ++ [v]).length = xs.length + 1 := by simp
  have e : ixN (xs ++ [v]).length (-1) = some xs.length := by
    unfold ixN
    rw [hl, if_neg (by decide), if_pos (by omega)]
    congr 1
    omega
  unfold atI
  rw [e]
  show (xs ++ [v])[xs.length]? = some v
  simp

/-! ### what may be subscripted -/
def PlainIx (b : Expr) : Prop := ∀ o i, subscripted b false o i = operate [o, i] (getItem o i)
def IxR (X : Cx) (r : R2) : Prop :=
  ∀ (value slice : Expr) (pins : List (Addr × Obj)) (s : Shared) (σ : St) (H : Hp) (x y : V) (v u : Value) (Q : VK), Inv X pins σ H s → RelV x v → RelV y u → r x y H Q →
    subscripted slice false v u = operate [v, u] (getItem v u) → wpAny (model X.prog X.w) X.A (subscriptTail value slice v u) (EP X pins σ Q) X.xe s
def MtR (X : Cx) (id : String) (r : V → List V → Hp → VK → Prop) : Prop :=
  ∀ (pins : List (Addr × Obj)) (s : Shared) (σ : St) (H : Hp) (x : V) (xs : List V) (v : Value) (us : List Value) (Q : VK), Inv X pins σ H s → RelV x v → Vals xs us → r x xs H Q →
    wpAny (model X.prog X.w) X.A (call (.builtin id) (v :: us)) (EP X pins σ Q) X.xe s
section
variable {X : Cx} {a b : Expr} {ta tb : TE} {pos : Pos}
theorem MtR.or {id : String} {r r' : V → List V → Hp → VK → Prop} (h : MtR X id r) (h' : MtR X id r') : MtR X id (fun x xs H Q => r x xs H Q ∨ r' x xs H Q) := by
  intro pins s σ H x xs v us Q I rx rs q
  rcases q with q | q
  · exact h pins s σ H x xs v us Q I rx rs q
  · exact h' pins s σ H x xs v us Q I rx rs q
theorem pe_ix {r : R2} (hr : IxR X r) (ha : PE X a ta) (hb : PE X b tb) (hs : PlainIx b) : PE X (.Subscript a b pos) (tOp r ta tb) := by
  intro pins s σ H Q I h
  exact Subscript_ (binT ha hb I h fun v u s2 x y H2 I2 rx ry q => hr a b pins s2 σ H2 x y v u Q I2 rx ry q (hs _ _))

def rIxL (K : PySem.W.Frag) : R2 := fun x y H Q => ∃ p xs i v, x = .ref p ∧ y = .int i ∧ SqL K H p xs ∧ atI xs i = some v ∧ Q v H
def rIxT (K : PySem.W.Frag) : R2 := fun x y H Q => ∃ p xs i v, x = .ref p ∧ y = .int i ∧ SqT K H p xs ∧ atI xs i = some v ∧ Q v H
def rIxS : R2 := fun x y H Q => ∃ z i c, x = .str z ∧ y = .int i ∧ z.length ≤ sizeLine ∧ atI z.cps.toList i = some c ∧ Q (.str ⟨#[c]⟩) H
theorem ix_list : IxR X (rIxL X.K) := by
  intro value slice pins s σ H x y v u Q I rx ry h hs
  obtain ⟨p, xs, i, z, rfl, rfl, hq, he, q⟩ := h
  cases rx
  obtain ⟨t, rfl⟩ := ry
  obtain ⟨its, r, pl, hz⟩ := I.list hq
  obtain ⟨j, h1, h2, h3, h4, h5⟩ := atI_get he
  obtain ⟨w, ew, rw'⟩ := r.get h2
  have hl := r.length
  have hn := line63
  have fin : EP X pins σ Q w s := ⟨z, H, I, rw', q⟩
  by_cases h0 : 0 ≤ i
  · have hj : i.toNat = j := by
      rw [seqIndex_of h0 h5] at h1
      exact Option.some.inj h1
    exact item_listR pl.isList h0 (by omega) (by rw [hj]; simpa using ew) fin hs
  · have hj : (i + (its.toArray.size : Int)).toNat = j := by
      rw [seqIndex_neg (by omega) h4] at h1
      rw [List.size_toArray, ← hl]
      exact Option.some.inj h1
    exact subscriptTail_builtinR (x := w) pl.isList.typeIs slot_list_getitem.lookup
      (wpAny_getItem_list_neg (Q := fun r s' => r = w ∧ EP X pins σ Q r s') pl.isList (by omega) (by rw [List.size_toArray] <;> omega) (by omega) (by rw [hj]; simpa using ew) ⟨rfl, fin⟩) hs
theorem ix_tup : IxR X (rIxT X.K) := by
  intro value slice pins s σ H x y v u Q I rx ry h hs
  obtain ⟨p, xs, i, z, rfl, rfl, hq, he, q⟩ := h
  cases rx
  obtain ⟨t, rfl⟩ := ry
  obtain ⟨its, r, pl, hz⟩ := I.tuple hq
  obtain ⟨j, h1, h2, h3, h4, h5⟩ := atI_get he
  obtain ⟨w, ew, rw'⟩ := r.get h2
  have hl := r.length
  have hn := line63
  have fin : EP X pins σ Q w s := ⟨z, H, I, rw', q⟩
  exact subscriptTail_builtinR (x := w) pl.typeIs slot_tuple_getitem.lookup
    (getItem_tuple (j := j) (Q := fun r s' => r = w ∧ EP X pins σ Q r s') pl (by omega) (by omega) (by rw [List.size_toArray, ← hl]; exact h1) (by simpa using ew) ⟨rfl, fin⟩) hs
/-! ### xs[i] = v, any sign -/
theorem mapSeq_set (its : List Value) (n j : Nat) (u : Value) : Obj.mapSeq (·.setIfInBounds j u) { cls := .type "list", data := .seq its.toArray n } = { cls := .type "list", data := .seq (its.set j u).toArray n } := by
  simp [Obj.mapSeq]
theorem Inv.lst {pins : List (Addr × Obj)} {σ : St} {H : Hp} {s : Shared} {p : Addr} {xs : List V} (I : Inv X pins σ H s) (h : H p = some (.lst xs)) :
    ∃ (its : List Value) (n : Nat), Vals xs its ∧ s.heap.get? p = some { cls := .type "list", data := .seq its.toArray n } ∧ xs.length ≤ sizeLine := by
  obtain ⟨z, its, n, r, e⟩ := I.hok p _ h
  exact ⟨its, n, r, e, z⟩
theorem Inv.lstUpd {pins : List (Addr × Obj)} {σ : St} {H : Hp} {s : Shared} {p : Addr} {xs ys : List V} {its its' : List Value} {n n' : Nat} {f : Obj → Obj} (I : Inv X pins σ H s) (h : H p = some (.lst xs))
    (ho : s.heap.get? p = some { cls := .type "list", data := .seq its.toArray n }) (hf : f { cls := .type "list", data := .seq its.toArray n } = { cls := .type "list", data := .seq its'.toArray n' }) (r : Vals ys its') (hz : ys.length ≤ sizeLine) (t : Nat) :
    Inv X pins σ (upd H p (.lst ys)) { s with heap := s.heap.update p f, toks := t } := by
  have e : (s.heap.update p f).get? p = some { cls := .type "list", data := .seq its'.toArray n' } := by
    rw [Heap.get?_update_self f ho (by rw [hf] <;> rfl), hf]
  refine I.write (x := p) (e := p) (by rw [h]; trivial) (.inl rfl) (fun b u hb q => (Heap.get?_update_other _ _ (Ne.symm hb)).trans q) ⟨_, e⟩ ?_
  exact ⟨hz, its', n', r, e⟩
def rSetL : V → V → V → Hp → (Hp → Prop) → Prop := fun o i v H Q => ∃ p xs k j, o = .ref p ∧ i = .int k ∧ H p = some (.lst xs) ∧ ixN xs.length k = some j ∧ Q (upd H p (.lst (xs.set j v)))
theorem set_list : PSet X rSetL := by
  intro pins s σ H o i v ov iv u Q I ro ri rv h
  obtain ⟨p, xs, k, j, rfl, rfl, hp, hj, q⟩ := h
  cases ro
  obtain ⟨t, rfl⟩ := ri
  obtain ⟨its, n, r, ho, hz⟩ := I.lst hp
  obtain ⟨h1, h2, h3, h4⟩ := ixN_seq hj
  have hl := r.length
  have hn := line63
  have I' : Inv X pins σ (upd H p (.lst (xs.set j v))) { s with heap := s.heap.update p (Obj.mapSeq (·.setIfInBounds j u)) } :=
    I.lstUpd hp ho (mapSeq_set its n j u) (r.set rv j) (by rw [List.length_set]; exact hz) s.toks
  by_cases h0 : 0 ≤ k
  · have hk : k.toNat = j := by
      rw [seqIndex_of h0 h4] at h1
      exact Option.some.inj h1
    exact PySem.W.ki_setAt ho h0 (by omega) (by rw [List.size_toArray, ← hl]; exact h4) (by rw [hk]; exact ⟨_, I', q⟩)
  · have hk : (k + (its.toArray.size : Int)).toNat = j := by
      rw [seqIndex_neg (by omega) h3] at h1
      rw [List.size_toArray, ← hl]
      exact Option.some.inj h1
    exact PySem.W.ki_setBack ho (by omega) (by rw [List.size_toArray, ← hl]; exact h3) (by omega) (by rw [hk]; exact ⟨_, I', q⟩)

/-! ### slices -/
theorem slice_bounds (lo hi : Option Int) (n : Nat) : (sliceBounds lo hi none n).1 = ((HT.sIx n 0 lo : Nat) : Int) ∧ (sliceBounds lo hi none n).2.1 = ((HT.sIx n n hi : Nat) : Int) ∧ (sliceBounds lo hi none n).2.2 = 1 := by
  refine ⟨?_, ?_, rfl⟩
  · cases lo with
    | none => simp [sliceBounds, HT.sIx]
    | some i =>
      simp only [sliceBounds, HT.sIx, Option.getD_none, show (1 : Int) > 0 by decide, if_true]
      by_cases h : i < 0
      · simp only [h, if_true] <;> omega
      · simp only [h, if_false] <;> omega
  · cases hi with
    | none => simp [sliceBounds, HT.sIx]
    | some i =>
      simp only [sliceBounds, HT.sIx, Option.getD_none, show (1 : Int) > 0 by decide, if_true]
      by_cases h : i < 0
      · simp only [h, if_true] <;> omega
      · simp only [h, if_false] <;> omega
theorem slicePick_cut (its : List Value) (lo hi : Option Int) : slicePick its.toArray lo hi none = ((its.drop (HT.sIx its.length 0 lo)).take (HT.sIx its.length its.length hi - HT.sIx its.length 0 lo)).toArray := by
  obtain ⟨h1, h2, h3⟩ := slice_bounds lo hi its.toArray.size
  unfold slicePick
  rw [h1, h2, h3]
  simp only [sliceRange_one, pick_run, List.size_toArray] <;> rfl
def rSlL (K : PySem.W.Frag) : V → Option Int → Option Int → Hp → VK → Prop := fun x lo hi H Q => ∃ a xs, x = .ref a ∧ SqL K H a xs ∧ ∀ p, H p = none → Q (.ref p) (upd H p (.lst (cutV xs lo hi)))
theorem sl_list : SlR X (rSlL X.K) := by
  intro pins s σ H x v vl vu lo hi sl Q I rx hs pl pu h
  obtain ⟨a, xs, rfl, hx, q⟩ := h
  cases rx
  obtain ⟨its, r, ht, hz⟩ := I.list hx
  have hlen := r.length
  refine ⟨"list", _, slot_list_getitem.lookup, ht.isList.typeIs, ?_⟩
  refine wpAny_getItem_list_slice ht.isList hs pl pu .none (by simp) ?_ (by rw [List.size_toArray] <;> omega)
  rw [slicePick_cut, ← hlen]
  refine ⟨.ref s.heap.objs.size, _, I.laid (t' := s.toks) (o := .lst (cutV xs lo hi)) (fun b ob q => Heap.get?_push_of_some _ q) (Nat.le_refl _) ?_, rfl, q _ (I.hok.fresh (Nat.le_refl _))⟩
  exact ⟨Nat.le_trans (cutV_length xs lo hi) hz, _, 0, (r.drop (HT.sIx xs.length 0 lo)).take (HT.sIx xs.length xs.length hi - HT.sIx xs.length 0 lo), Heap.get?_push_size _ rfl⟩

/-! ### in, not in: flat items -/
def flatV : V → Bool
  | .non => true
  | .bl _ => true
  | .int _ => true
  | .str _ => true
  | _ => false
def eqV : V → V → Bool
  | .non, .non => true
  | .bl a, .bl b => a == b
  | .bl a, .int b => (if a then 1 else 0) == b
  | .int a, .bl b => a == (if b then 1 else 0)
  | .int a, .int b => a == b
  | .str a, .str b => a == b
  | _, _ => false
theorem eqAt_V {A : Around} {s : Shared} {y x : V} {u v : Value} (ry : RelV y u) (rx : RelV x v) (fy : flatV y = true) (fx : flatV x = true) : SeqAt.EqAt A s u v (eqV y x) := by
  cases y with
  | non =>
    cases ry
    cases x with
    | non => cases rx; exact SeqAt.EqAt.same _
    | bl b => cases rx; exact SeqAt.EqAt.none_bool b
    | int b => obtain ⟨t, rfl⟩ := rx; exact SeqAt.EqAt.none_int b t
    | str b => obtain ⟨t, rfl⟩ := rx; exact SeqAt.EqAt.none_str b t
    | _ => exact absurd (show false = true from fx) Bool.false_ne_true
  | bl a =>
    cases ry
    cases x with
    | non => cases rx; exact SeqAt.EqAt.bool_none a
    | bl b => cases rx; exact SeqAt.EqAt.bool_bool a b
    | int b => obtain ⟨t, rfl⟩ := rx; exact SeqAt.EqAt.bool_int a b t
    | str b => obtain ⟨t, rfl⟩ := rx; exact SeqAt.EqAt.bool_str a b t
    | _ => exact absurd (show false = true from fx) Bool.false_ne_true
  | int a =>
    obtain ⟨t', rfl⟩ := ry
    cases x with
    | non => cases rx; exact SeqAt.EqAt.int_none a t'
    | bl b => cases rx; exact SeqAt.EqAt.int_bool a t' b
    | int b => obtain ⟨t, rfl⟩ := rx; exact SeqAt.EqAt.int_int a t' b t
    | str b => obtain ⟨t, rfl⟩ := rx; exact SeqAt.EqAt.int_str a t' b t
    | _ => exact absurd (show false = true from fx) Bool.false_ne_true
  | str a =>
    obtain ⟨t', rfl⟩ := ry
    cases x with
    | non => cases rx; exact SeqAt.EqAt.str_none a t'
    | bl b => cases rx; exact SeqAt.EqAt.str_bool a t' b
    | int b => obtain ⟨t, rfl⟩ := rx; exact SeqAt.EqAt.str_int a t' b t
    | str b => obtain ⟨t, rfl⟩ := rx; exact SeqAt.EqAt.str_str a t' b t
    | _ => exact absurd (show false = true from fx) Bool.false_ne_true
  | _ => exact absurd (show false = true from fy) Bool.false_ne_true
def eqU (x : V) (u : Value) : Bool := match u with
  | .none => eqV .non x
  | .bool b => eqV (.bl b) x
  | .int i _ => eqV (.int i) x
  | .str z _ => eqV (.str z) x
  | _ => false
theorem eqU_of {x y : V} {u : Value} (r : RelV y u) (f : flatV y = true) : eqU x u = eqV y x := by
  cases y with
  | non => cases r; rfl
  | bl b => cases r; rfl
  | int i => obtain ⟨t, rfl⟩ := r; rfl
  | str z => obtain ⟨t, rfl⟩ := r; rfl
  | _ => exact absurd (show false = true from f) Bool.false_ne_true
theorem any_eqU {x : V} : ∀ {xs : List V} {us : List Value}, Vals xs us → xs.all flatV = true → us.any (eqU x) = xs.any fun y => eqV y x
  | _, _, .nil, _ => rfl
  | y :: xs, u :: us, .cons r t, f => by
    rw [List.all_cons, Bool.and_eq_true] at f
    rw [List.any_cons, List.any_cons, eqU_of r f.1, any_eqU t f.2]
theorem mem_eqAt {A : Around} {s : Shared} {x : V} {v : Value} (rx : RelV x v) (fx : flatV x = true) : ∀ {xs : List V} {us : List Value}, Vals xs us → xs.all flatV = true → ∀ u ∈ us, SeqAt.EqAt A s u v (eqU x u)
  | _, _, .nil, _ => fun u hu => by cases hu
  | y :: xs, u :: us, .cons r t, f => fun u' hu => by
    rw [List.all_cons, Bool.and_eq_true] at f
    rcases List.mem_cons.mp hu with rfl | hu
    · rw [eqU_of r f.1]; exact eqAt_V r rx f.1 fx
    · exact mem_eqAt rx fx t f.2 u' hu
def inV (x : V) (xs : List V) : Bool := xs.any fun y => eqV y x
def rIn (K : PySem.W.Frag) (neg : Bool) : R2 := fun x y H Q => ∃ p xs, y = .ref p ∧ (SqL K H p xs ∨ SqT K H p xs) ∧ flatV x = true ∧ xs.all flatV = true ∧ Q (.bl (if neg then !inV x xs else inV x xs)) H
theorem op_in_seq : OpR X (compareOp .In) (rIn X.K false) := by
  intro pins s σ H x y v u Q I rx ry h
  obtain ⟨p, xs, rfl, hq, fx, fs, q⟩ := h
  cases ry
  rcases hq with hq | hq
  · obtain ⟨its, r, pl, hz⟩ := I.list hq
    refine SeqAt.in_listAt (eqU x) pl.isList (fun w hw => mem_eqAt rx fx r fs w (by simpa using hw)) ⟨.bl _, H, I, rfl, ?_⟩
    rw [show its.toArray.any (eqU x) = its.any (eqU x) by simp, any_eqU r fs]
    exact q
  · obtain ⟨its, r, pl, hz⟩ := I.tuple hq
    refine SeqAt.in_tupleAt (eqU x) pl (fun w hw => mem_eqAt rx fx r fs w (by simpa using hw)) ⟨.bl _, H, I, rfl, ?_⟩
    rw [show its.toArray.any (eqU x) = its.any (eqU x) by simp, any_eqU r fs]
    exact q
/-! ### len, list(x), tuple(x) of any list or tuple that is read -/
theorem call_len_seq : CallR X (.builtin "len") (fun xs H Q => ∃ p ys, xs = [.ref p] ∧ (SqL X.K H p ys ∨ SqT X.K H p ys) ∧ Q (.int ys.length) H) := by
  intro pins s σ H xs us Q I r h
  obtain ⟨p, ys, rfl, hq, q⟩ := h
  obtain ⟨u, rfl, rx⟩ := vals1 r
  cases rx
  have hn := line63
  rcases hq with hq | hq
  · obtain ⟨its, r', pl, hz⟩ := I.list hq
    have hlen := r'.length
    exact Calls.call_len_list pl.isList (by simp only [List.size_toArray] <;> omega) ⟨.int ys.length, H, I.tok _, ⟨s.toks + 1, by rw [List.size_toArray, hlen]⟩, q⟩
  · obtain ⟨its, r', pl, hz⟩ := I.tuple hq
    have hlen := r'.length
    exact len_tuple pl (by simp only [List.size_toArray] <;> omega) ⟨.int ys.length, H, I.tok _, ⟨s.toks + 1, by rw [List.size_toArray, hlen]⟩, q⟩
theorem call_list_of : CallR X (.type "list") (fun xs H Q => ∃ p ys, xs = [.ref p] ∧ (SqL X.K H p ys ∨ SqT X.K H p ys) ∧ ∀ l, H l = none → Q (.ref l) (upd H l (.lst ys))) := by
  intro pins s σ H xs us Q I r h
  obtain ⟨p, ys, rfl, hq, q⟩ := h
  obtain ⟨u, rfl, rx⟩ := vals1 r
  cases rx
  have fin : ∀ (its : List Value), Vals ys its → ys.length ≤ sizeLine → ∀ (h' : Heap) (c' : Nat), (∀ b o', s.heap.get? b = some o' → h'.get? b = some o') →
      h'.get? s.heap.objs.size = some { cls := .type "list", dict := none, data := .seq its.toArray c', slots := #[] } → EP X pins σ Q (.ref s.heap.objs.size) { s with heap := h' } := fun its r' hz h' c' kp e =>
    ⟨.ref s.heap.objs.size, _, I.laid (t' := s.toks) kp (Nat.le_refl _) (show ObjOk X.prog X.w _ h' _ (.lst ys) from ⟨hz, its, c', r', e⟩), rfl, q _ (I.hok.fresh (Nat.le_refl _))⟩
  rcases hq with hq | hq
  · obtain ⟨its, r', pl, hz⟩ := I.list hq
    have hlen := r'.length
    obtain ⟨o, ho, hc, n, hd⟩ := pl.isList
    exact call_list_seq p (.inl rfl) ho hc hd (fun h' c' kp e => fin its r' hz h' c' kp e) (by simp only [List.size_toArray] <;> omega)
  · obtain ⟨its, r', pl, hz⟩ := I.tuple hq
    have hlen := r'.length
    obtain ⟨o, ho, hc, n, hd⟩ := pl
    exact call_list_seq p (.inr rfl) ho hc hd (fun h' c' kp e => fin its r' hz h' c' kp e) (by simp only [List.size_toArray] <;> omega)
/-! ### the call of a builtin's method: o.m(..) -/
def tyV (K : PySem.W.Frag) (T : String) (x : V) (H : Hp) : Prop := match x with
  | .str _ => T = "str"
  | .int _ => T = "int"
  | .ref p => (T = "list" ∧ ∃ xs, SqL K H p xs) ∨ (T = "tuple" ∧ ∃ o, K.lookup p = some o ∧ o.cls = .type "tuple" ∧ o.dict = none) ∨
      (T = "dict" ∧ ((∃ kvs, H p = some (.dK kvs)) ∨ ∃ kvs, H p = some (.dT kvs))) ∨ (T = "set" ∧ ∃ S n, H p = some (.set S n))
  | _ => False
theorem tyV_is {pins : List (Addr × Obj)} {σ : St} {H : Hp} {s : Shared} {T : String} {x : V} {v : Value} (I : Inv X pins σ H s) (r : RelV x v) (ty : tyV X.K T x H) :
    s.TypeIs v T ∧ ∀ a, v = .ref a → ∃ ob, s.heap.get? a = some ob ∧ ob.dict = none := by
  cases x with
  | str z =>
    obtain ⟨t, rfl⟩ := r
    cases (show T = "str" from ty)
    exact ⟨typeIs_str s z t, fun _ e => nomatch e⟩
  | int i =>
    obtain ⟨t, rfl⟩ := r
    cases (show T = "int" from ty)
    exact ⟨typeIs_int s i t, fun _ e => nomatch e⟩
  | ref p =>
    cases r
    rcases ty with ⟨rfl, xs, hq⟩ | ⟨rfl, o, hk, hc, hd⟩ | ⟨rfl, hk⟩ | ⟨rfl, S, n, hk⟩
    · obtain ⟨its, _, pl, _⟩ := I.list hq
      refine ⟨pl.isList.typeIs, fun a e => ?_⟩
      cases e
      obtain ⟨o, n, e, c, hd, _⟩ := pl
      exact ⟨o, e, hd⟩
    · refine ⟨⟨o, I.kIn p o hk, hc⟩, fun a e => ?_⟩
      cases e
      exact ⟨o, I.kIn _ o hk, hd⟩
    · have z : ∃ o, s.heap.get? p = some o ∧ o.ExactDict := by
        rcases hk with ⟨kvs, hk⟩ | ⟨kvs, hk⟩
        · obtain ⟨_, _, _, _, o, _, _, e, ex, _⟩ := I.hok p _ hk
          exact ⟨o, e, ex⟩
        · obtain ⟨_, _, _, _, o, _, _, e, ex, _⟩ := I.hok p _ hk
          exact ⟨o, e, ex⟩
      obtain ⟨o, e, ex⟩ := z
      refine ⟨⟨o, e, ex.1⟩, fun a e2 => ?_⟩
      cases e2
      exact ⟨o, e, ex.2.1⟩
    · obtain ⟨o, _, _, _, e, ex, _⟩ := I.hok p _ hk
      refine ⟨⟨o, e, ex.1⟩, fun a e2 => ?_⟩
      cases e2
      exact ⟨o, e, ex.2.1⟩
  | _ => exact False.elim ty
def tBM0 (K : PySem.W.Frag) (T : String) (r : V → List V → Hp → VK → Prop) (to : TE) : TE := fun σ H Q => to σ H fun x H1 => tyV K T x H1 ∧ r x [] H1 Q
def tBM (K : PySem.W.Frag) (T : String) (r : V → List V → Hp → VK → Prop) (to : TE) (t : TA) : TE := fun σ H Q => to σ H fun x H1 => tyV K T x H1 ∧ t σ H1 fun xs H2 => r x xs H2 Q
variable {o e : Expr} {es : List Expr} {to : TE} {t : TA} {name : Str} {apos cpos : Pos} {T id : String} {r : V → List V → Hp → VK → Prop}
theorem pe_bm0 (pa : PlainAttrs T) (slot : Slot T name id) (hty : typeOf (.builtin id) = pure (.type "method_descriptor")) (hm : MtR X id r) (ho : PE X o to)
    (hbase : attributeBase o name X.env (eval o X.env) = eval o X.env := by rfl) (hline : (apos.endLine == cpos.line) = true := by rfl) : PE X (.Call (.Attribute o name apos) [] [] cpos) (tBM0 X.K T r to) := by
  intro pins s σ H Q I h
  refine wpAny_Call_method0_late hbase hline (thn (ho pins s σ H _ I h) fun v s1 ⟨x, H1, I1, r1, ty, q1⟩ => ?_)
  obtain ⟨h1, h2⟩ := tyV_is I1 r1 ty
  exact ⟨T, id, pa, slot, hty, h1, h2, Calls.callWith_builtin rfl (PySem.evalArgs_none (hm pins s1 σ H1 x [] v [] Q I1 r1 .nil q1))⟩
theorem pe_bm (pa : PlainAttrs T) (slot : Slot T name id) (hty : typeOf (.builtin id) = pure (.type "method_descriptor")) (hm : MtR X id r) (ho : PE X o to) (ha : PA X (e :: es) t)
    (hbase : attributeBase o name X.env (eval o X.env) = eval o X.env := by rfl)
    (hfew : ((backTo cpos (starEach (e :: es) X.env)).all (fun x => !x.1) && (backToKw cpos (keywordEach [] X.env)).all (fun x => x.1.isSome)
      && decide ((e :: es).length + ([] : List Keyword).length + (if ([] : List Keyword).isEmpty then 0 else 1) < 30)) = true := by rfl)
    (hline : (apos.endLine == cpos.line) = true := by rfl) (hs : starEach (e :: es) X.env = (false, eval e X.env) :: starEach es X.env := by rfl) (hplain : (backTo cpos (starEach es X.env)).any (·.1) = false := by rfl) :
    PE X (.Call (.Attribute o name apos) (e :: es) [] cpos) (tBM X.K T r to t) := by
  intro pins s σ H Q I h
  refine wpAny_Call_method_late hbase hfew hline rfl (thn (ho pins s σ H _ I h) fun v s1 ⟨x, H1, I1, r1, ty, q1⟩ => ?_)
  obtain ⟨h1, h2⟩ := tyV_is I1 r1 ty
  refine ⟨T, id, pa, slot, hty, h1, h2, ?_⟩
  have hA := ha cpos pins s1 σ H1 _ I1 q1
  rw [hs] at hA ⊢
  refine Calls.callWith_builtin (by show (false || (backTo cpos (starEach es X.env)).any (·.1)) = false; rw [hplain] <;> rfl) (Calls.evalArgs_plain ?_)
  exact thn hA fun us s2 ⟨vs, H2, I2, r2, q2⟩ => hm pins s2 σ H2 x vs v us Q I2 r1 r2 q2
/- xs.append(e), list.index on a module's tuple .. are MtR facts of 06m -/
end
end L2

namespace L2
open PySem PySem.Spec PyProof.Rows

def MtM (X : Cx) (id : String) (r : V → List V → Hp → VK → Prop) : Prop :=
  ∀ (pins : List (Addr × Obj)) (s : Shared) (σ : St) (H : Hp) (x : V) (xs : List V) (v : Value) (us : List Value) (Q : VK), Inv X pins σ H s → RelV x v → Vals xs us → r x xs H Q →
    wpAny (model X.prog X.w) X.A (call (.builtin id) (v :: us)) (EP X pins σ Q) X.xe s

/-! ### lists of values -/
theorem Vals.one : ∀ {x : V} {us : List Value}, Vals [x] us → ∃ u, us = [u] ∧ RelV x u
  | _, _, .cons r .nil => ⟨_, rfl, r⟩
theorem Vals.two {x y : V} {us : List Value} (h : Vals [x, y] us) : ∃ u v, us = [u, v] ∧ RelV x u ∧ RelV y v := by
  cases h with
  | cons r h => cases h with
    | cons q h => cases h; exact ⟨_, _, rfl, r, q⟩
theorem Vals.zero : ∀ {us : List Value}, Vals [] us → us = []
  | _, .nil => rfl
theorem Vals.eraseIdx : ∀ {xs : List V} {us : List Value} (i : Nat), Vals xs us → Vals (xs.eraseIdx i) (us.eraseIdx i)
  | _, _, _, .nil => .nil
  | _, _, 0, .cons _ t => t
  | _, _, i + 1, .cons r t => .cons r (Vals.eraseIdx i t)
theorem Vals.rep {xs : List V} {us : List Value} (h : Vals xs us) : ∀ k : Nat, Vals (List.replicate k xs).flatten (List.replicate k us).flatten
  | 0 => .nil
  | k + 1 => by
    rw [List.replicate_succ, List.replicate_succ, List.flatten_cons, List.flatten_cons]
    exact Vals.append h (Vals.rep h k)
theorem len_erase {α : Type} : ∀ (l : List α) (i : Nat), (l.eraseIdx i).length ≤ l.length
  | [], _ => Nat.le_refl _
  | _ :: _, 0 => Nat.le_succ _
  | _ :: r, i + 1 => Nat.succ_le_succ (len_erase r i)
theorem foldl_rep (its : List Value) : ∀ (k : Nat) (acc : List Value),
    List.foldl (fun x1 x2 => x1 ++ x2) acc.toArray (List.replicate k its.toArray) = (acc ++ (List.replicate k its).flatten).toArray
  | 0, acc => by simp
  | k + 1, acc => by
    have e : acc.toArray ++ its.toArray = (acc ++ its).toArray := by simp
    have e2 : (acc ++ its) ++ (List.replicate k its).flatten = acc ++ (List.replicate (k + 1) its).flatten := by
      rw [List.replicate_succ, List.flatten_cons, List.append_assoc]
    rw [← e2, ← foldl_rep its k (acc ++ its), ← e, List.replicate_succ, List.foldl_cons]

section
variable {X : Cx} {pins : List (Addr × Obj)} {σ : St} {H : Hp} {s : Shared} {l b : Addr} {xs ys zs : List V}

/-! ### the two steps: a tracked list is rewritten, a new list is laid -/
theorem Inv.lset {its its' : List Value} {n : Nat} {f : Array Value → Array Value} {t' : Nat} (I : Inv X pins σ H s) (hH : H l = some (.lst xs))
    (e : s.heap.get? l = some { cls := .type "list", data := .seq its.toArray n }) (hf : f its.toArray = its'.toArray) (hv : Vals ys its') (hz : ys.length ≤ sizeLine) :
    Inv X pins σ (upd H l (.lst ys)) { s with heap := s.heap.update l (Obj.mapSeq f), toks := t' } := by
  have q := PySem.IsL.update e f
  rw [hf] at q
  refine I.write (x := l) (e := l) (by rw [hH]; exact trivial) (.inl rfl) (fun b' u hb hu => (Heap.get?_update_other s.heap (Obj.mapSeq f) (Ne.symm hb)).trans hu) ⟨_, q⟩ ?_
  exact ⟨hz, its', _, hv, q⟩
theorem Inv.lnew {its : List Value} {t' : Nat} (I : Inv X pins σ H s) (hv : Vals ys its) (hz : ys.length ≤ sizeLine) :
    Inv X pins σ (upd H s.heap.objs.size (.lst ys)) { s with heap := s.heap.push { cls := .type "list", data := .seq its.toArray }, toks := t' } :=
  I.laid (fun _ _ q => Heap.get?_push_of_some _ q) (Nat.le_refl _) ⟨hz, its, 0, hv, Heap.get?_push_size _ rfl⟩
theorem Inv.fresh (I : Inv X pins σ H s) : H s.heap.objs.size = none := I.hok.fresh (Nat.le_refl _)
theorem Inv.lstM (I : Inv X pins σ H s) (hH : H l = some (.lst xs)) : xs.length ≤ sizeLine ∧ ∃ (its : List Value) (n : Nat), Vals xs its ∧ xs.length = its.length ∧ s.heap.get? l = some { cls := .type "list", data := .seq its.toArray n } := by
  obtain ⟨z, its, n, r, e⟩ := I.hok l _ hH
  exact ⟨z, its, n, r, r.length, e⟩

theorem notLongL {n : Nat} (h : n ≤ sizeLine) : Builtin.List.listTooLong n = false := by
  unfold Builtin.List.listTooLong
  exact decide_eq_false (by omega)
end

section
variable {X : Cx}

/-! ### methods -/
def rAppend : V → List V → Hp → VK → Prop := fun x vs H Q => ∃ l xs y, x = .ref l ∧ vs = [y] ∧ H l = some (.lst xs) ∧ xs.length < sizeLine ∧ Q .non (upd H l (.lst (xs ++ [y])))
theorem mt_append : MtM X "list.append" rAppend := by
  intro pins s σ H x vs v us Q I rx rv h
  obtain ⟨l, xs, y, rfl, rfl, hH, hz, q⟩ := h
  cases rx
  obtain ⟨u, rfl, ru⟩ := rv.one
  obtain ⟨z, its, n, r, hl, e⟩ := I.lstM hH
  refine call_meets F.slot_list_append ⟨_, e, rfl⟩ F.entry_list_append (F.args_list_append_2 _ _) (PySem.list_append l its.toArray n u (by rw [List.size_toArray]; omega)) ⟨e, ?_⟩
  refine ⟨.non, _, I.lset (its' := its ++ [u]) hH e (by simp) (r.append (.cons ru .nil)) ?_, rfl, q⟩
  rw [List.length_append, List.length_singleton]
  omega

def rPopAt : V → List V → Hp → VK → Prop := fun x vs H Q => ∃ l xs i k y, x = .ref l ∧ vs = [.int i] ∧ H l = some (.lst xs) ∧ -(2 ^ 63) ≤ i ∧ i < 2 ^ 63 ∧ seqIndex? i xs.length = some k ∧ xs[k]? = some y ∧ Q y (upd H l (.lst (xs.eraseIdx k)))
theorem mt_popAt : MtM X "list.pop" rPopAt := by
  intro pins s σ H x vs v us Q I rx rv h
  obtain ⟨l, xs, i, k, y, rfl, rfl, hH, h1, h2, hk, hy, q⟩ := h
  cases rx
  obtain ⟨u, rfl, ru⟩ := rv.one
  obtain ⟨t, rfl⟩ := ru
  obtain ⟨z, its, n, r, hl, e⟩ := I.lstM hH
  obtain ⟨w, hw, rw'⟩ := r.get hy
  refine call_meets F.slot_list_pop ⟨_, e, rfl⟩ F.entry_list_pop (F.args_list_pop_2 _ _)
    (MeetsSeq.list_pop_at l its.toArray n i t k w (fitsIndex_both h1 h2) (by rw [List.size_toArray, ← hl]; exact hk) (by rw [← Array.getElem?_toList]; exact hw) (by rw [List.size_toArray]; omega)) ⟨e, ?_⟩
  refine ⟨y, _, I.lset (its' := its.eraseIdx k) hH e ?_ (r.eraseIdx k) ?_, rw', q⟩
  · show its.toArray.eraseIdxIfInBounds k = (its.eraseIdx k).toArray
    rw [List.eraseIdxIfInBounds_toArray]
  · have := len_erase xs k
    omega

/-! ### list + list, list += list, list * int -/
def rCat : R2 := fun x y H Q => ∃ l b xs zs, x = .ref l ∧ y = .ref b ∧ H l = some (.lst xs) ∧ H b = some (.lst zs) ∧ xs.length + zs.length ≤ sizeLine ∧ ∀ p, H p = none → Q (.ref p) (upd H p (.lst (xs ++ zs)))
theorem op_cat : OpR X (binaryOp .Add) rCat := by
  intro pins s σ H x y v u Q I rx ry h
  obtain ⟨l, b, xs, zs, rfl, rfl, hH, hB, hz, q⟩ := h
  cases rx
  cases ry
  obtain ⟨z, its, n, r, hl, e⟩ := I.lstM hH
  obtain ⟨z2, its2, n2, r2, hl2, e2⟩ := I.lstM hB
  refine PySem.P.add_list e e2 ?_ (by rw [List.size_toArray, List.size_toArray]; omega)
  have ea : its.toArray ++ its2.toArray = (its ++ its2).toArray := by simp
  rw [ea]
  exact ⟨.ref _, _, I.lnew (t' := s.toks) (r.append r2) (by rw [List.length_append]; omega), rfl, q _ I.fresh⟩
def rRep : R2 := fun x y H Q => ∃ l k xs, x = .ref l ∧ y = .int k ∧ H l = some (.lst xs) ∧ -(2 ^ 63) ≤ k ∧ k < 2 ^ 63 ∧ xs.length * k.toNat ≤ sizeLine ∧
  ∀ p, H p = none → Q (.ref p) (upd H p (.lst (List.replicate k.toNat xs).flatten))
theorem len_rep {α : Type} (xs : List α) (k : Nat) : (List.replicate k xs).flatten.length = k * xs.length := by
  induction k with
  | zero => simp
  | succ k ih => rw [List.replicate_succ, List.flatten_cons, List.length_append, ih, Nat.succ_mul, Nat.add_comm]
theorem op_rep : OpR X (binaryOp .Mult) rRep := by
  intro pins s σ H x y v u Q I rx ry h
  obtain ⟨l, k, xs, rfl, rfl, hH, h1, h2, hz, q⟩ := h
  cases rx
  obtain ⟨t, rfl⟩ := ry
  obtain ⟨z, its, n, r, hl, e⟩ := I.lstM hH
  have hlen : its.toArray.size * k.toNat ≤ sizeLine := by rw [List.size_toArray, ← hl]; exact hz
  have hcap : ¬ its.toArray.size * k.toNat > (2 ^ 63 - 1) / 8 := by
    have : (sizeLine : Nat) ≤ (2 ^ 63 - 1) / 8 := by decide
    omega
  have hfit : ¬ (!Builtin.List.listFitsIndex k) = true := by
    rw [fitsIndex_both h1 h2]
    exact Bool.false_ne_true
  have hlong : ¬ Builtin.List.listTooLong (its.toArray.size * k.toNat) = true := by
    rw [notLongL hlen]
    exact Bool.false_ne_true
  have hnew : List.foldl (fun x1 x2 => x1 ++ x2) #[] (List.replicate (if its.toArray.isEmpty = true then 0 else k.toNat) its.toArray) = (List.replicate k.toNat its).flatten.toArray := by
    have f0 : ∀ m : Nat, List.foldl (fun x1 x2 => x1 ++ x2) #[] (List.replicate m its.toArray) = (List.replicate m its).flatten.toArray := fun m => by
      have := foldl_rep its m []
      rw [List.nil_append] at this
      exact this
    rw [f0]
    cases its with
    | nil => simp
    | cons a r' => rw [if_neg (by simp)]
  refine wpAny_binaryOp_repeat_ref (T := "list") (U := "int") (by decide) ⟨_, e, rfl⟩ (fun s' => typeIs_int s' k t) noFill_list_mul F.fills_int_mul F.slot_int_rmul repeat_list F.slot_int_index.lookup
    (call_meets F.slot_int_rmul (typeIs_int s k t) F.entry_int_rmul (F.args_int_rmul_2 _ _) (int___rmul___int_list k t l its.toArray n)
      ⟨e, rfl, ⟨_, e, rfl⟩, call_meets F.slot_list_mul ⟨_, e, rfl⟩ F.entry_list_mul (F.args_list_mul_2 _ _) (AutoListH.list___mul___list_int_3 l its.toArray n k t hfit hcap hlong) ⟨e, ?_⟩⟩)
  rw [hnew]
  exact ⟨.ref _, _, I.lnew (t' := s.toks) (r.rep k.toNat) (by rw [len_rep, Nat.mul_comm]; exact hz), rfl, q _ I.fresh⟩

/-! ### del xs[i] -/
end

/-! ### xs[a:b] = ys -/
section
variable {prog : Program} {w : World} {A : Around} {E : Value → Shared → Prop} {s : Shared}
end

section
variable {X : Cx}
end
end L2

namespace L2
open PySem PySem.Spec PyProof.Rows

/-! ### lists of pairs as tables -/
section
variable {κ : Type} [DecidableEq κ]
def valV (kvs : List (κ × V)) (k : κ) : Option V := (kvs.find? fun kv => decide (kv.1 = k)).map (·.2)
def putK (kvs : List (κ × V)) (k : κ) (v : V) : List (κ × V) :=
  if (kvs.any fun kv => decide (kv.1 = k)) = true then kvs.map (fun kv => if kv.1 = k then (kv.1, v) else kv) else kvs ++ [(k, v)]
def dropK (kvs : List (κ × V)) (k : κ) : List (κ × V) := kvs.filter fun kv => decide (kv.1 ≠ k)

theorem valV_pos {p : κ × V} {r : List (κ × V)} {k : κ} (e : p.1 = k) : valV (p :: r) k = some p.2 := by simp [valV, List.find?_cons, e]
theorem valV_neg {p : κ × V} {r : List (κ × V)} {k : κ} (e : ¬ p.1 = k) : valV (p :: r) k = valV r k := by simp [valV, List.find?_cons, e]
theorem valV_any (k : κ) : ∀ kvs : List (κ × V), (kvs.any fun kv => decide (kv.1 = k)) = (valV kvs k).isSome
  | [] => rfl
  | p :: r => by
    rw [List.any_cons]
    by_cases e : p.1 = k
    · simp only [valV_pos e, decide_eq_true e, Bool.true_or, Option.isSome_some]
    · rw [valV_neg e, decide_eq_false e, Bool.false_or]; exact valV_any k r
theorem length_putK (kvs : List (κ × V)) (k : κ) (v : V) : (putK kvs k v).length ≤ kvs.length + 1 := by
  unfold putK
  split
  · rw [List.length_map]; omega
  · rw [List.length_append, List.length_cons, List.length_nil]; omega
theorem RelO.isSome_eq {o : Option V} {u : Option Value} (r : RelO o u) : o.isSome = u.isSome := by
  cases o with
  | none => cases u with
    | none => rfl
    | some _ => exact (show False from r).elim
  | some _ => cases u with
    | none => exact (show False from r).elim
    | some _ => rfl
theorem RelO.getD {o : Option V} {u : Option Value} {d : V} {d' : Value} (r : RelO o u) (rd : RelV d d') : RelV (o.getD d) (u.getD d') := by
  cases o with
  | none => cases u with
    | none => exact rd
    | some _ => exact (show False from r).elim
  | some _ => cases u with
    | none => exact (show False from r).elim
    | some _ => exact r

theorem KV.val {kvs : List (κ × V)} {vs : List (κ × Value)} (r : KV kvs vs) (k : κ) : RelO (valV kvs k) (valueAt vs k) := by
  unfold KV at r
  induction r with
  | nil => exact True.intro
  | @cons p q ps qs h t ih =>
    obtain ⟨h1, h2⟩ := h
    by_cases e : p.1 = k
    · have e' : q.1 = k := h1.symm.trans e
      have b : valueAt (q :: qs) k = some q.2 := by simp [valueAt, List.find?_cons, e']
      rw [valV_pos e, b]; exact h2
    · have e' : ¬ q.1 = k := fun z => e (h1.trans z)
      have b : valueAt (q :: qs) k = valueAt qs k := by simp [valueAt, List.find?_cons, e']
      rw [valV_neg e, b]; exact ih
theorem KV.any {kvs : List (κ × V)} {vs : List (κ × Value)} (r : KV kvs vs) (k : κ) : (kvs.any fun kv => decide (kv.1 = k)) = vs.any fun kv => decide (kv.1 = k) := by
  unfold KV at r
  induction r with
  | nil => rfl
  | cons h t ih => rw [List.any_cons, List.any_cons, ih, h.1]
theorem KV.repl {kvs : List (κ × V)} {vs : List (κ × Value)} (r : KV kvs vs) (k : κ) {y : V} {u : Value} (ry : RelV y u) :
    KV (kvs.map fun kv => if kv.1 = k then (kv.1, y) else kv) (vs.map fun kv => if kv.1 = k then (kv.1, u) else kv) := by
  unfold KV at r ⊢
  induction r with
  | nil => exact .nil
  | @cons p q ps qs h t ih =>
    rw [List.map_cons, List.map_cons]
    refine .cons ?_ ih
    obtain ⟨h1, h2⟩ := h
    by_cases e : p.1 = k
    · rw [if_pos e, if_pos (h1.symm.trans e)]; exact ⟨h1, ry⟩
    · rw [if_neg e, if_neg (fun z => e (h1.trans z))]; exact ⟨h1, h2⟩
theorem KV.put {kvs : List (κ × V)} {vs : List (κ × Value)} (r : KV kvs vs) (k : κ) {y : V} {u : Value} (ry : RelV y u) : KV (putK kvs k y) (stored vs k u) := by
  unfold putK stored
  rw [r.any k]
  by_cases e : (vs.any fun kv => decide (kv.1 = k)) = true
  · rw [if_pos e, if_pos e]; exact r.repl k ry
  · rw [if_neg e, if_neg e]; exact Paired.snoc r ⟨rfl, ry⟩
theorem KV.keys {kvs : List (κ × V)} {vs : List (κ × Value)} (r : KV kvs vs) : kvs.map (·.1) = vs.map (·.1) := by
  unfold KV at r
  induction r with
  | nil => rfl
  | cons h t ih => rw [List.map_cons, List.map_cons, ih, h.1]
theorem KV.length {kvs : List (κ × V)} {vs : List (κ × Value)} (r : KV kvs vs) : kvs.length = vs.length := Paired.length r
end

/-! ### a tracked dict, its keys ints and texts or tuples of these -/
theorem kV_is {P : Program} {w : World} {k : Key} {u : Value} (r : RelV (kV k) u) : (mixKind P w).is k u = true := by
  cases k with
  | inl i => obtain ⟨t, e⟩ := (show ∃ t, u = Value.int i t from r); subst e; exact mixKind_int P w i t
  | inr x => obtain ⟨t, e⟩ := (show ∃ t, u = Value.str x t from r); subst e; exact mixKind_str P w x t
theorem items_are {P : Program} {w : World} : ∀ {ks : List Key} {us : List Value}, Vals (ks.map kV) us → ItemsAre (mixKind P w) ks us
  | [], _, r => by rw [List.map_nil] at r; cases r; exact .nil
  | k :: ks, _, r => by
    rw [List.map_cons] at r
    cases r with
    | cons h t => exact .cons (kV_is h) (items_are t)

abbrev KT (H : Hp) : List (List Key × V) → List (List Key × Addr × Value) → Prop := Paired fun p q => p.1 = q.1 ∧ H q.2.1 = some (.tup (p.1.map kV)) ∧ RelV p.2 q.2.2
theorem KT.val {H : Hp} {kvs : List (List Key × V)} {xs : List (List Key × Addr × Value)} (r : KT H kvs xs) (k : List Key) : RelO (valV kvs k) ((atKey xs k).map (·.2)) := by
  induction r with
  | nil => exact True.intro
  | @cons p q ps qs h t ih =>
    obtain ⟨h1, _, h2⟩ := h
    by_cases e : p.1 = k
    · have e' : q.1 = k := h1.symm.trans e
      have b : atKey (q :: qs) k = some q.2 := by simp [atKey, List.find?_cons, e']
      rw [valV_pos e, b]; exact h2
    · have e' : ¬ q.1 = k := fun z => e (h1.trans z)
      have b : atKey (q :: qs) k = atKey qs k := by simp [atKey, List.find?_cons, e']
      rw [valV_neg e, b]; exact ih
theorem KT.repl {H : Hp} {kvs : List (List Key × V)} {xs : List (List Key × Addr × Value)} (r : KT H kvs xs) (k : List Key) {y : V} {u : Value} (ry : RelV y u) :
    KT H (kvs.map fun kv => if kv.1 = k then (kv.1, y) else kv) (xs.map (putAt k u)) := by
  induction r with
  | nil => exact .nil
  | @cons p q ps qs h t ih =>
    rw [List.map_cons, List.map_cons]
    refine .cons ?_ ih
    obtain ⟨h1, h2, h3⟩ := h
    unfold putAt
    by_cases e : p.1 = k
    · rw [if_pos e, if_pos (h1.symm.trans e)]; exact ⟨h1, h2, ry⟩
    · rw [if_neg e, if_neg (fun z => e (h1.trans z))]; exact ⟨h1, h2, h3⟩
theorem KT.put {H : Hp} {kvs : List (List Key × V)} {xs : List (List Key × Addr × Value)} (r : KT H kvs xs) (k : List Key) {b : Addr} {y : V} {u : Value} (hb : H b = some (.tup (k.map kV))) (ry : RelV y u) :
    KT H (putK kvs k y) (storedH xs k b u) := by
  have e : (kvs.any fun kv => decide (kv.1 = k)) = (atKey xs k).isSome := by
    rw [valV_any, (r.val k).isSome_eq, Option.isSome_map]
  unfold putK storedH
  rw [e]
  by_cases q : (atKey xs k).isSome = true
  · rw [if_pos q, if_pos q]; exact r.repl k ry
  · rw [if_neg q, if_neg q]; exact Paired.snoc r ⟨rfl, hb, ry⟩
theorem KT.keeps {H H' : Hp} {kvs : List (List Key × V)} {xs : List (List Key × Addr × Value)} (r : KT H kvs xs) (ht : ∀ b ys, H b = some (.tup ys) → H' b = some (.tup ys)) : KT H' kvs xs :=
  Paired.mapP r fun _ _ z => ⟨z.1, ht _ _ z.2.1, z.2.2⟩

section
variable {P : Program} {w : World} {H : Hp} {h : Heap} {a : Addr}
theorem rd_of {u : HO} (ok : HOk P w H h) (e : Rd H a u) : ObjOk P w H h a u := e.ok ok
theorem dk_rd {kvs : List (Key × V)} (ok : HOk P w H h) (e : Rd H a (.dK kvs)) : kvs.length ≤ sizeLine ∧ (a == sysModules) = false ∧ ∃ vs, KV kvs vs ∧ h.DictOf (mixKind P w) a vs :=
  show ObjOk P w H h a (.dK kvs) from rd_of ok e
theorem dk_of {kvs : List (Key × V)} (ok : HOk P w H h) (e : H a = some (.dK kvs)) : kvs.length ≤ sizeLine ∧ (a == sysModules) = false ∧ ∃ vs, KV kvs vs ∧ h.DictOf (mixKind P w) a vs := dk_rd ok (.inl e)
theorem key_of {ks : List Key} (ok : HOk P w H h) (e : H a = some (.tup (ks.map kV))) : (tupleKind (mixKind P w)).is h ks a := by
  obtain ⟨_, its, r, o, h1, h2, n, h3⟩ := (show ObjOk P w H h a (.tup (ks.map kV)) from ok a _ e)
  exact ⟨o, its.toArray, n, h1, h2, h3, by simpa using items_are r⟩
theorem dt_rd {kvs : List (List Key × V)} (ok : HOk P w H h) (e : Rd H a (.dT kvs)) : kvs.length ≤ sizeLine ∧ (a == sysModules) = false ∧
    ∃ xs, KT H kvs xs ∧ h.DictOfH (tupleKind (mixKind P w)) a xs := by
  obtain ⟨z, y, xs, r, o, es, ep, h1, h2, h3, h4, h5⟩ := (show ObjOk P w H h a (.dT kvs) from rd_of ok e)
  refine ⟨z, y, xs, r, o, es, ep, h1, h2, h3, h4, fun x hx => ?_, h5⟩
  have all : ∀ {l : List (List Key × V)} {m : List (List Key × Addr × Value)}, KT H l m → ∀ x ∈ m, (tupleKind (mixKind P w)).is h x.1 x.2.1 := by
    intro l m q
    induction q with
    | nil => intro x hx; exact nomatch hx
    | @cons p q ps qs hq t ih =>
      intro x hx
      rcases List.mem_cons.mp hx with e | hx
      · subst e
        exact key_of ok (by rw [← hq.1]; exact hq.2.1)
      · exact ih x hx
  exact all r x hx
theorem dt_of {kvs : List (List Key × V)} (ok : HOk P w H h) (e : H a = some (.dT kvs)) : kvs.length ≤ sizeLine ∧ (a == sysModules) = false ∧
    ∃ xs, KT H kvs xs ∧ h.DictOfH (tupleKind (mixKind P w)) a xs := dt_rd ok (.inl e)
end

def DGet (H : Hp) (a : Addr) (y : V) (r : Option V) : Prop :=
  (∃ kvs k, Rd H a (.dK kvs) ∧ y = kV k ∧ r = valV kvs k) ∨ ∃ kvs k b, Rd H a (.dT kvs) ∧ y = .ref b ∧ H b = some (.tup (k.map kV)) ∧ r = valV kvs k
def DPut (H : Hp) (a : Addr) (y v : V) (H' : Hp) : Prop :=
  (∃ kvs k, H a = some (.dK kvs) ∧ y = kV k ∧ kvs.length < sizeLine ∧ H' = upd H a (.dK (putK kvs k v))) ∨
  ∃ kvs k b, H a = some (.dT kvs) ∧ y = .ref b ∧ H b = some (.tup (k.map kV)) ∧ kvs.length < sizeLine ∧ H' = upd H a (.dT (putK kvs k v))
theorem DGet.k {H : Hp} {a : Addr} {kvs : List (Key × V)} {k : Key} (e : H a = some (.dK kvs)) : DGet H a (kV k) (valV kvs k) := .inl ⟨kvs, k, .inl e, rfl, rfl⟩
theorem DPut.k {H : Hp} {a : Addr} {kvs : List (Key × V)} {k : Key} {v : V} (e : H a = some (.dK kvs)) (hl : kvs.length < sizeLine) : DPut H a (kV k) v (upd H a (.dK (putK kvs k v))) := .inl ⟨kvs, k, e, rfl, hl, rfl⟩
section
variable {X : Cx} {pins : List (Addr × Obj)} {σ : St} {H : Hp} {s : Shared} {a : Addr} {y v : V} {u r : Value} {o : Option V} {A : Around} {E : Value → Shared → Prop}

theorem Inv.big (I : Inv X pins σ H s) : sysModules < s.heap.objs.size := by
  have h : mainGlobals < s.heap.objs.size := (I.mod.glob.keeps I.bk).lt
  exact Nat.lt_trans (by decide) h

theorem d_getItem {Q : Value → Shared → Prop} (hu : A.units + 1 < cLine) (I : Inv X pins σ H s) (g : DGet H a y (some v)) (ry : RelV y u) (h : ∀ w' s', Inv X pins σ H s' → RelV v w' → Q w' s') :
    wpAny (model X.prog X.w) A (getItem (.ref a) u) Q E s := by
  rcases g with ⟨kvs, k, e, ey, l⟩ | ⟨kvs, k, b, e, ey, eb, l⟩
  · subst ey
    obtain ⟨z, hd, vs, rel, dd⟩ := dk_rd I.hok e
    obtain ⟨w', hw, rw'⟩ := RelO.some_of (v := v) (o := valueAt vs k) (by rw [l]; exact rel.val k)
    exact wpAny_getItem_of (kV_is ry) dd.mapOf hw (h w' _ (I.tok _) rw')
  · subst ey
    cases (show u = Value.ref b from ry)
    obtain ⟨z, hd, xs, rel, dd⟩ := dt_rd I.hok e
    obtain ⟨w', hw, rw'⟩ := RelO.some_of (v := v) (o := (atKey xs k).map (·.2)) (by rw [l]; exact rel.val k)
    obtain ⟨p, hp, hp2⟩ := Option.map_eq_some_iff.mp hw
    refine wpAny_getItem_heap (tupleKind_room_in1 hu) (key_of I.hok eb) dd hp ?_
    rw [hp2]
    exact h w' _ (I.tok _) rw'
theorem d_write {h' : Heap} {t' : Nat} {ob : HO} (I : Inv X pins σ H s) (mu : Mut (H a)) (hs : Heap.SameBut a s.heap h') (he : ∃ q, h'.get? a = some q) (new : ObjOk X.prog X.w (upd H a ob) h' a ob) :
    Inv X pins σ (upd H a ob) { s with heap := h', toks := t' } :=
  I.write (x := a) (e := a) mu (.inl rfl) (fun b q hb z => (hs.2 b hb).trans z) he new
theorem dk_new {P : Program} {w : World} {H' : Hp} {h' : Heap} {kvs : List (Key × V)} {vs : List (Key × Value)} (z : kvs.length ≤ sizeLine) (hd : (a == sysModules) = false) (rel : KV kvs vs) (dd : h'.DictOf (mixKind P w) a vs) :
    ObjOk P w H' h' a (.dK kvs) := ⟨z, hd, vs, rel, dd⟩
theorem d_setItem {H' : Hp} {Q : Unit → Shared → Prop} (hu : A.units + 1 < cLine) (I : Inv X pins σ H s) (g : DPut H a y v H') (ry : RelV y u) (rv : RelV v r) (h : ∀ s', Inv X pins σ H' s' → Q () s') :
    wpAny (model X.prog X.w) A (setItem (.ref a) u r) Q E s := by
  rcases g with ⟨kvs, k, e, ey, l, eH⟩ | ⟨kvs, k, b, e, ey, eb, l, eH⟩
  · subst ey eH
    obtain ⟨z, hd, vs, rel, dd⟩ := dk_of I.hok e
    have hz : vs.length ≤ sizeLine := by rw [← rel.length]; exact z
    have hl : (putK kvs k v).length ≤ sizeLine := by have := length_putK kvs k v; omega
    refine wpAny_setItem_pairs (hsz := hz) (kV_is ry) dd fun h' dd' hs => h _ ?_
    have he : ∃ q, h'.get? a = some q := let ⟨q, _, _, hq, _⟩ := dd'; ⟨q, hq⟩
    exact d_write I (by rw [e]; exact True.intro) hs he (dk_new hl hd (rel.put k rv) dd')
  · subst ey eH
    cases (show u = Value.ref b from ry)
    obtain ⟨z, hd, xs, rel, dd⟩ := dt_of I.hok e
    have hz : xs.length ≤ sizeLine := by rw [← Paired.length rel]; exact z
    have hl : (putK kvs k v).length ≤ sizeLine := by have := length_putK kvs k v; omega
    refine wpAny_setItem_heap (hsz := hz) (tupleKind_room_in1 hu) (key_of I.hok eb) dd fun h' dd' hs => h _ ?_
    obtain ⟨q, es, ep, hq, h2, h3, h4, _, h5⟩ := dd'
    refine d_write I (by rw [e]; exact True.intro) hs ⟨q, hq⟩ ⟨hl, hd, _, (rel.put k eb rv).keeps fun c ys ec => ?_, q, es, ep, hq, h2, h3, h4, h5⟩
    rw [upd_ne (ne_of ec e (fun z => nomatch z))]
    exact ec
end

section
variable {X : Cx} {pins : List (Addr × Obj)} {σ : St} {H : Hp} {s : Shared} {a : Addr} {kvs : List (Key × V)} {k : Key} {u : Value} {A : Around} {E : Value → Shared → Prop}
end

/-! ### readings and rules -/
def NoSl (i : Expr) : Prop := ∀ ov iv, subscripted i false ov iv = operate [ov, iv] (getItem ov iv)
theorem subD_of {prog : Program} {w : World} {A : Around} {E : Value → Shared → Prop} {s : Shared} {env : Env} {value slice : Expr} {pos : Pos} {T id : String} {Q : Value → Shared → Prop}
    (hl : typeLookup (.type T) "__getitem__" = pure (some (.builtin id))) (hs : NoSl slice)
    (h : wpAny (model prog w) A (eval value env) (fun o s₁ => wpAny (model prog w) A (eval slice env) (fun i s₂ => s₂.TypeIs o T ∧ wpAny (model prog w) A (getItem o i) Q E s₂) E s₁) E s) :
    wpAny (model prog w) A (eval (.Subscript value slice pos) env) Q E s := by
  refine Subscript_ (wpAny_mono h (fun o s₁ h₁ => wpAny_mono h₁ (fun i s₂ h₂ => ?_) fun _ _ x => x) fun _ _ x => x)
  obtain ⟨hT, h₂⟩ := h₂
  unfold subscriptTail
  refine wpAny_bind ?_
  rw [getitemInPython_of_ne hT.not_modules]
  refine wpAny_bind (wpAny_specialOf hT hl ?_)
  have fin : wpAny (model prog w) A (subscripted slice false o i) (fun r s₃ => wpAny (model prog w) A (letTemporaryGo value o r >>= fun _ => pure r) Q E s₃) E s₂ := by
    rw [hs o i]
    exact wpAny_operating (wpAny_mono h₂ (fun r s₃ h₃ => wpAny_bind (wpAny_letTemporaryGo (wpAny_pure h₃))) fun _ _ x => x)
  first
    | exact wpAny_pure (wpAny_bind fin)
    | exact wpAny_bind (wpAny_pure (wpAny_bind fin))
    | exact wpAny_bind fin

theorem dict_typeIs {X : Cx} {pins : List (Addr × Obj)} {σ : St} {H : Hp} {s : Shared} {a : Addr} {y : V} {o : Option V} (I : Inv X pins σ H s) (g : DGet H a y o) : s.TypeIs (.ref a) "dict" := by
  rcases g with ⟨kvs, k, e, _, _⟩ | ⟨kvs, k, b, e, _, _, _⟩
  · obtain ⟨_, _, vs, _, dd⟩ := dk_rd I.hok e
    exact dd.typeIs
  · obtain ⟨_, _, xs, _, dd⟩ := dt_rd I.hok e
    exact dd.typeIs
section
variable {X : Cx} {o i e value : Expr} {pos pos' tpos : Pos} {td ty tv : TE}
end

/-! ### displays -/
theorem dk_empty {P : Program} {w : World} {H : Hp} (h : Heap) (hb : sysModules < h.objs.size) : ObjOk P w H (h.push { cls := .type "dict", data := .dict #[] }) h.objs.size (.dK []) :=
  ⟨Nat.zero_le _, beq_eq_false_iff_ne.mpr (Ne.symm (Nat.ne_of_lt hb)), [], .nil, Heap.DictOf.new h⟩
def tDNewK : TE := fun _ H Q => ∀ p, H p = none → Q (.ref p) (upd H p (.dK []))
section
variable {X : Cx} {pos : Pos}
theorem pe_dnewK : PE X (.Dict [] [] pos) tDNewK := fun pins s σ H Q I h =>
  wpAny_Dict_empty ⟨.ref s.heap.objs.size, _, I.laid (a := s.heap.objs.size) (o := .dK []) (t' := s.toks) (fun _ _ q => Heap.get?_push_of_some _ q) (Nat.le_refl _) (dk_empty s.heap I.big), rfl, h _ (I.hok.fresh (Nat.le_refl _))⟩
end

def tPairs : List (TE × TE) → St → Hp → (List (V × V) → Hp → Prop) → Prop
  | [], _, H, Q => Q [] H
  | (tk, tv) :: r, σ, H, Q => tk σ H fun x H1 => tv σ H1 fun y H2 => tPairs r σ H2 fun ps H3 => Q ((x, y) :: ps) H3
abbrev VV : List (V × V) → List (Value × Value) → Prop := Paired fun p q => RelV p.1 q.1 ∧ RelV p.2 q.2
def PPs (X : Cx) (pos : Pos) (keys : List (Option Expr)) (values : List Expr) (trs : List (TE × TE)) : Prop :=
  ∀ (pins : List (Addr × Obj)) (s : Shared) (σ : St) (H : Hp) (Q : List (V × V) → Hp → Prop), Inv X pins σ H s → tPairs trs σ H Q →
    wpAny (model X.prog X.w) X.A (evalPairs (pairTrees keys values X.env pos)) (fun vs s' => ∃ ps H', Inv X pins σ H' s' ∧ VV ps vs ∧ Q ps H') X.xe s
def mergeK (kvs more : List (Key × V)) : List (Key × V) := more.foldl (fun acc kv => putK acc kv.1 kv.2) kvs
/-! ### methods -/
structure M1 (X : Cx) (o : Expr) (m : Str) (apos : Pos) (e : Expr) (cpos : Pos) : Prop where
  base : attributeBase o m X.env (eval o X.env) = eval o X.env
  few : ((backTo cpos (starEach [e] X.env)).all (fun x => !x.1) && (backToKw cpos (keywordEach [] X.env)).all (fun x => x.1.isSome)
    && decide (([e] : List Expr).length + ([] : List Keyword).length + (if ([] : List Keyword).isEmpty then 0 else 1) < 30)) = true
  line : (apos.endLine == cpos.line) = true
  trees : backTo cpos (starEach [e] X.env) = [(false, eval e X.env)]
structure M2 (X : Cx) (o : Expr) (m : Str) (apos : Pos) (e f : Expr) (cpos : Pos) : Prop where
  base : attributeBase o m X.env (eval o X.env) = eval o X.env
  few : ((backTo cpos (starEach [e, f] X.env)).all (fun x => !x.1) && (backToKw cpos (keywordEach [] X.env)).all (fun x => x.1.isSome)
    && decide (([e, f] : List Expr).length + ([] : List Keyword).length + (if ([] : List Keyword).isEmpty then 0 else 1) < 30)) = true
  line : (apos.endLine == cpos.line) = true
  trees : backTo cpos (starEach [e, f] X.env) = [(false, eval e X.env), (false, eval f X.env)]

def IsD (H : Hp) (a : Addr) : Prop := (∃ kvs, Rd H a (.dK kvs)) ∨ ∃ kvs, Rd H a (.dT kvs)
theorem isD_at {X : Cx} {pins : List (Addr × Obj)} {σ : St} {H : Hp} {s : Shared} {a : Addr} (I : Inv X pins σ H s) (d : IsD H a) :
    s.TypeIs (.ref a) "dict" ∧ (∀ b, Value.ref a = .ref b → ∃ ob, s.heap.get? b = some ob ∧ ob.dict = none) ∧ (a == sysModules) = false := by
  rcases d with ⟨kvs, e⟩ | ⟨kvs, e⟩
  · obtain ⟨_, hd, vs, _, dd⟩ := dk_rd I.hok e
    refine ⟨dd.typeIs, fun b q => ?_, hd⟩
    cases q
    obtain ⟨ob, _, _, h1, h2, _⟩ := dd
    exact ⟨ob, h1, h2.2.1⟩
  · obtain ⟨_, hd, xs, _, dd⟩ := dt_rd I.hok e
    refine ⟨dd.typeIs, fun b q => ?_, hd⟩
    cases q
    obtain ⟨ob, _, _, h1, h2, _⟩ := dd
    exact ⟨ob, h1, h2.2.1⟩

section
variable {X : Cx} {pins : List (Addr × Obj)} {σ : St} {H : Hp} {s : Shared} {a : Addr} {y d : V} {u r : Value} {o : Option V} {A : Around} {E : Value → Shared → Prop}
theorem d_get2 {Q : Value → Shared → Prop} (hu : A.units + 1 < cLine) (I : Inv X pins σ H s) (g : DGet H a y o) (ry : RelV y u) (rd : RelV d r) (h : ∀ w' s', Inv X pins σ H s' → RelV (o.getD d) w' → Q w' s') :
    wpAny (model X.prog X.w) A (call (.builtin "dict.get") [.ref a, u, r]) Q E s := by
  rcases g with ⟨kvs, k, e, ey, l⟩ | ⟨kvs, k, b, e, ey, eb, l⟩
  · subst ey
    obtain ⟨z, hd, vs, rel, dd⟩ := dk_rd I.hok e
    refine call_meetsIn PySem.F.slot_dict_get dd.typeIs PySem.F.entry_dict_get (PySem.F.args_dict_get_3 _ _ _) (meets_dict_get_default (mixKind X.prog X.w) a (kV_is ry) hd r) ⟨_, dd.mapOf, h _ _ (I.tok _) ?_⟩
    rw [l]
    exact (rel.val k).getD rd
  · subst ey
    cases (show u = Value.ref b from ry)
    obtain ⟨z, hd, xs, rel, dd⟩ := dt_rd I.hok e
    refine call_meetsIn PySem.F.slot_dict_get dd.typeIs PySem.F.entry_dict_get (PySem.F.args_dict_get_3 _ _ _) (meetsH_dict_get_default (tupleKind (mixKind X.prog X.w)) a b hd r) ⟨tupleKind_room_in1 hu, k, xs, key_of I.hok eb, dd, h _ _ (I.tok _) ?_⟩
    rw [l]
    exact (rel.val k).getD rd
end

def tDGet2 (td ty tx : TE) : TE := fun σ H Q => td σ H fun x H1 => ∃ a, x = .ref a ∧ IsD H1 a ∧ ty σ H1 fun y H2 => tx σ H2 fun z H3 => ∃ o, DGet H3 a y o ∧ Q (o.getD z) H3
section
variable {X : Cx} {o e f : Expr} {apos cpos : Pos} {td ty tx : TE}
theorem pe_dget2 (hu : X.A.units + 1 < cLine) (ho : PE X o td) (he : PE X e ty) (hf : PE X f tx) (m : M2 X o "get" apos e f cpos) : PE X (.Call (.Attribute o "get" apos) [e, f] [] cpos) (tDGet2 td ty tx) := by
  intro pins s σ H Q I h
  refine wpAny_Call_method m.base m.few m.line PySem.F.plainAttrs_dict PySem.F.slot_dict_get PySem.F.type_dict_get (thn (ho pins s σ H _ I h) fun u s1 ⟨x, H1, I1, rx, a, ex, d, q1⟩ => ?_)
  subst ex
  obtain rfl : u = Value.ref a := rx
  obtain ⟨t1, t2, _⟩ := isD_at I1 d
  refine ⟨t1, t2, ?_⟩
  rw [m.trees]
  refine Calls.callWith_builtin rfl (Calls.evalArgs_plain (Calls.spliced_cons (thn (he pins s1 σ H1 _ I1 q1) fun iv s2 ⟨y, H2, I2, ry, q2⟩ =>
    Calls.spliced_cons (thn (hf pins s2 σ H2 _ I2 q2) fun fv s3 ⟨z, H3, I3, rz, ov, g, q3⟩ => Calls.spliced_nil ?_))))
  exact d_get2 hu I3 g ry rz fun w' s4 I4 rw' => ⟨_, H3, I4, rw', q3⟩
end

/-! ### dict(d): a copy -/
section
variable {X : Cx} {pins : List (Addr × Obj)} {σ : St} {H : Hp} {s : Shared} {a : Addr} {kvs : List (Key × V)} {A : Around} {E : Value → Shared → Prop}
end

section
variable {X : Cx} {pins : List (Addr × Obj)} {σ : St} {H : Hp} {s : Shared} {a : Addr} {y : V} {u : Value} {A : Around} {E : Value → Shared → Prop}
end
end L2

namespace Att
open PySem PySem.W PySem.Calls PyProof.Rows

/-! ### the script -/
theorem ints_of_wellAll {P : Params} {h : Heap} : ∀ (ns : List Int) (vs : List Value), WellAll P h vs (ns.map WData.int) → IntsAre vs ns := by
  intro ns
  induction ns with
  | nil =>
    intro vs w
    rw [List.map_nil] at w
    cases w
    exact .nil
  | cons n ns ih =>
    intro vs w
    rw [List.map_cons] at w
    cases w with
    | cons a b =>
      cases a
      exact .cons _ _ (ih _ b)

theorem script_of {l : OpenLaw} {n : Nat} (hn : l.most = some n) {P : Params} {h : Heap} {args : List WData} {vals : List Value}
    (hpre : l.row.toRowW.claim.pre args = true) (hwl : WellAll P h vals args) :
    ∃ a vs ns, vals = [Value.ref a] ∧ args = [WData.list (ns.map WData.int)] ∧ h.get? a = some { cls := .type "list", data := .seq vs.toArray } ∧ IntsAre vs ns ∧ ns.length ≤ n := by
  have hsh : WShape.hasAll [] args [.list .int] = true := (pre_splitW hpre).1
  have hc : l.pre.holds [] { args := args } = true := (pre_splitW hpre).2
  obtain ⟨d, r, rfl, h1, h2⟩ := hasAllW_cons hsh
  obtain rfl := hasAllW_nil h2
  obtain ⟨xs, rfl, h3⟩ := hasW_list h1
  obtain ⟨ns, rfl⟩ := items_int h3
  have hlen : ns.length ≤ n := by
    unfold OpenLaw.pre at hc
    have h4 : (WTm.not (.lt (.lit (.int (n : Int))) (.len (.arg 0)))).holds [] { args := [.list (ns.map .int)] } = true := by
      have h4 := (holds_andW hc).1
      rw [hn] at h4
      exact h4
    have h5 := condW_of h4 (w_not (w_lt w_lit (w_len_list (w_arg rfl))))
    rw [List.length_map] at h5
    refine Nat.le_of_not_lt fun q => ?_
    have q' : (n : Int) < ((ns.length : Nat) : Int) := by omega
    first
      | (rw [decide_eq_true q'] at h5; exact absurd h5 (by decide))
      | (simp at h5; omega)
  cases hwl with
  | cons w1 w2 =>
    cases w2
    cases w1 with
    | list ho hall => exact ⟨_, _, ns, rfl, rfl, ho, ints_of_wellAll ns _ hall, hlen⟩

theorem post_true (l : OpenLaw) (args : List WData) : l.row.toRowW.claim.post args (.bool true) args = true :=
  postW_of (r := l.row.toRowW) (X := (true == true))
    (show WShape.has [] (.bool true) .bool = true by first | rfl | decide | simp [WShape.has, WShape.arms, WShape.armsAll])
    (show (WTm.eq .res (.lit (.bool true))).value [] { args := args, res := some (.bool true), after := args } = some (.bool (true == true)) from w_eq_bool (w_res rfl) w_lit) rfl

/-! ### the attachment: holds_open's last premise (the goal 'hc' behind k_head) from a wpAny of the law's body -/
theorem attach_call {l : OpenLaw} {n : Nat} {q : Program} {loose : List Str} {XP : (Str → Option Value) → Heap → Prop} {YP : World → Heap → Prop} {d : DefRec}
    (hn : l.most = some n) (hdf : d.params.defaults = [])
    (call : ∀ (w : World) (s₀ s₁ : Shared) (mg mb : Str → Option Value) (fa : Addr) (o : Obj) (pm cd doc : Value) (a : Addr) (vs : List Value) (ns : List Int),
      Ground q loose [] XP w s₀ mg mb s₁.heap → YP w s₁.heap →
      s₁.heap.get? fa = some o → o.data = .func (docDef d.name d.params d.body d.scope pm cd doc) → s₁.heap.CodeRec cd d.name → mg d.name = some (.ref fa) →
      s₁.heap.get? a = some { cls := .type "list", data := .seq vs.toArray } → IntsAre vs ns → ns.length ≤ n → s₁.gens = #[] →
      codeAny (model l.prog w) callerA (.call (.ref fa) ⟨[.ref a], []⟩) (fun r s' => r = .ok (.ret (.bool true)) ∧ OldK s₁.heap s'.heap ∧ s'.os = s₁.os ∧ AllBare s'.gens) s₁) :
    WalkO q loose XP YP l.row.toRowW d [] (fun f vs => PySem.call f vs) := by
  intro w s₀ s₁ mg mb G Y fa o pm cd doc dV kV ho hd hcd hD hmg hg args vals as hpre hlay hrd hwl hlo
  obtain rfl : dV = .none := Dflts.none hD hdf
  obtain rfl : kV = .none := Dflts.noKw hD
  obtain ⟨a, vs, ns, rfl, rfl, hobj, hints, hlen⟩ := script_of hn hpre hwl
  refine enter_call (codeAny_mono (call w s₀ s₁ mg mb fa o pm cd doc a vs ns G Y ho (fd_plain hd) hcd hmg hobj hints hlen hg) fun r s' hq => ?_)
  obtain ⟨rfl, h2, h3, h4⟩ := hq
  exact ⟨.inl ⟨.bool true, .bool true, [], rfl, fun _ => rfl, .bool true, post_true l _, fun _ => ⟨List.Pairwise.nil, fun _ hm => (nomatch hm)⟩⟩, h2, h3, h4⟩

/-! ### rules over ANY heap (no ledger) from facts about the written part K: the library's own take a ledger (News) for what they write -/
section
variable {prog : Program} {w : World} {A : Around} {E : Value → Shared → Prop} {s : Shared} {K : Frag}

/-! the whole heap as the ledger: makes every rule that writes through a ledger a rule over any heap -/
end
end Att

namespace L2
open PySem PySem.Spec PyProof.Rows

theorem vals_ints : ∀ {vs : List Value} {ns : List Int}, IntsAre vs ns → Vals (ns.map V.int) vs
  | _, _, .nil => .nil
  | _, _, .cons n t h => .cons ⟨t, rfl⟩ (vals_ints h)

def Only (H : Hp) : Prop := ∀ b, H b = none ∨ ∃ o xs, H b = some (.frz o (.lst xs))

theorem law_call {P : Program} {w : World} {K : PySem.W.Frag} {mg mb : Str → Option Value} {CX : CXT} {k : Nat} {fa a : Addr} {fd : FuncData} {x : Str} {sp : Sp} {s₁ : Shared} {vs : List Value} {ns : List Int}
    (KX : K.In s₁.heap) (hns : s₁.heap.Ns mainGlobals mg) (hb : s₁.heap.Ns builtinsNs mb) (hbb : ∀ x : Str, x ≠ "__name__" → mb x = bootBuiltins x) (hlim : s₁.heap.NoLimit) (hg : s₁.gens = #[])
    (ha : s₁.heap.get? a = some { cls := .type "list", data := .seq vs.toArray }) (hi : IntsAre vs ns) (hl : ns.length ≤ sizeLine) (hr : Room k callerA)
    (F : ∀ base : Heap, K.In base → base.Ns mainGlobals mg → FnOk P w K mg base CX k fa fd [x] sp) (hbind : ∀ (s : Shared) (u : Value), BindsTo s fd ⟨[u], []⟩ [(x, u)])
    (hsp : ∀ H : Hp, Only H → SqL K H a (ns.map V.int) → sp [.ref a] H (fun v _ => v = .bl true) fun _ _ _ => False)
    (hCX : ∀ H e s', CX [] H s₁ (fun _ _ _ => False) e s' → False) :
    codeAny (model P w) callerA (.call (.ref fa) ⟨[.ref a], []⟩) (fun r s' => r = .ok (.ret (.bool true)) ∧ OldK s₁.heap s'.heap ∧ s'.os = s₁.os ∧ AllBare s'.gens) s₁ := by
  have rv := vals_ints hi
  have lenV := hi.length
  -- from an abstract heap in which nothing but the script may be tracked
  have core : ∀ H : Hp, Only H → SqL K H a (ns.map V.int) → HOk P w H s₁.heap → (∀ b, H b ≠ none → b = a) → (H a ≠ none → K.lookup a = none) →
      codeAny (model P w) callerA (.call (.ref fa) ⟨[.ref a], []⟩) (fun r s' => r = .ok (.ret (.bool true)) ∧ OldK s₁.heap s'.heap ∧ s'.os = s₁.os ∧ AllBare s'.gens) s₁ := by
    intro H hO hS hok hA hK
    have base_of : ∀ {b : Addr} {o : Obj}, s₁.heap.get? b = some o → H b = none → (hidT s₁.heap H).get? b = some o := fun e n => hidT_get e n
    have noA : ∀ {b : Addr} {o : Obj} {es : Array DictEntry} {ep : Nat}, s₁.heap.get? b = some o → o.data = .dict es ep → H b = none := fun {b o es ep} e d => by
      cases q : H b with
      | none => rfl
      | some u =>
        have e' : b = a := hA b (by rw [q]; simp)
        subst e'
        rw [ha] at e; cases e
        have d' : Data.seq vs.toArray _ = Data.dict es ep := d
        cases d'
    have nsK : ∀ {b : Addr} {m : Str → Option Value}, s₁.heap.Ns b m → (hidT s₁.heap H).Ns b m := fun {b m} ⟨o, es, ep, e, d, r⟩ => ⟨o, es, ep, base_of e (noA e d), d, r⟩
    have hKb : K.In (hidT s₁.heap H) := fun b o e => base_of (KX b o e) (by
      cases q : H b with
      | none => rfl
      | some u =>
        have e' : b = a := hA b (by rw [q]; simp)
        subst e'
        rw [hK (by rw [q]; simp)] at e; cases e)
    have hM : Mod K mg (hidT s₁.heap H) := ⟨hKb, nsK hns, ⟨mb, nsK hb, hbb⟩, let ⟨mc, h1, h2⟩ := hlim; ⟨mc, nsK h1, h2⟩⟩
    have e0 : Env0 P w K mg (hidT s₁.heap H) callerA [] s₁ H := ⟨rfl, hM, fun b o e => of_hidT e, Nat.le_of_eq (hidT_size _ _), trivial, fun b hb => absurd (show b ∈ ([] : List Addr) from hb) (by simp), hok, .of_eq hg⟩
    refine codeAny_mono ((F _ hKb (nsK hns)).run callerA [] s₁ H ⟨[.ref a], []⟩ [.ref a] [.ref a] _ _ hr e0 (hbind s₁ (.ref a)) (.cons rfl .nil) (hsp H hO hS)) fun r s' h => ?_
    cases r with
    | error e => exact (hCX H e s' h).elim
    | ok fl =>
      cases fl with
      | next => exact False.elim h
      | brk => exact False.elim h
      | cont => exact False.elim h
      | ret u =>
        obtain ⟨v, H', os, bare, un, hok', r', q⟩ := h
        have q' : v = .bl true := q
        subst q'
        obtain rfl : u = Value.bool true := r'
        refine ⟨rfl, OldK.of_keep fun b o e => ?_, os, bare⟩
        cases q : H b with
        | none => exact un.keep b o e q (by intro z; exact absurd (show b ∈ ([] : List Addr) from z) (by simp)) (by simp)
        | some u =>
          rcases hO b with z | ⟨ob, xs, z⟩
          · rw [q] at z; cases z
          · have z2 := un.frzs b ob _ z
            obtain ⟨e1, _⟩ := hok b _ z
            obtain ⟨e2, _⟩ := hok' b _ z2
            rw [e] at e1; cases e1
            exact e2
  cases hk : K.lookup a with
  | some o =>
    -- the script is one of the module's own objects
    have e := KX a o hk
    rw [ha] at e
    cases e
    refine core (fun _ => none) (fun _ => .inl rfl) (.inr ⟨_, vs.toArray, _, hk, rfl, rfl, rfl, by rw [List.size_toArray, lenV]; exact hl, by simpa using rv⟩) (fun b u z => by have z' : (none : Option HO) = some u := z; cases z') (fun b z => absurd rfl z) fun z => absurd rfl z
  | none =>
    refine core (fun b => if b = a then some (.frz { cls := .type "list", data := .seq vs.toArray } (.lst (ns.map V.int))) else none) (fun b => ?_) (.inl (.inr ⟨{ cls := .type "list", data := .seq vs.toArray }, if_pos rfl⟩)) (fun b u z => ?_) (fun b z => ?_) fun _ => hk
    · by_cases hb : b = a
      · exact .inr ⟨_, _, if_pos hb⟩
      · exact .inl (if_neg hb)
    · by_cases hb : b = a
      · have z' := (if_pos hb).symm.trans z
        cases z'
        subst hb
        exact ⟨ha, by rw [List.length_map]; exact hl, vs, _, rv, ha⟩
      · have z' := (if_neg hb).symm.trans z
        cases z'
    · by_cases hb : b = a
      · exact hb
      · exact absurd (if_neg hb) z
end L2

namespace L2
open PySem PySem.Spec PyProof.Rows

theorem walk_of {l : PySem.W.OpenLaw} {n k : Nat} {q : Program} {loose : List Str} {XP : (Str → Option Value) → Heap → Prop} {YP : World → Heap → Prop} {d : DefRec} {K : Params → PySem.W.Frag} {CX : World → CXT} {sp : World → Sp} {x : Str}
    (hn : l.most = some n) (hn2 : n ≤ sizeLine) (hdf : d.params.defaults = []) (hr : Room k callerA)
    (hY : ∀ (w : World) (h : Heap), YP w h → (K w.params).In h)
    (F : ∀ (w : World) (mg : Str → Option Value) (fa : Addr) (h : Heap), (K w.params).In h → h.Ns mainGlobals mg → mg d.name = some (.ref fa) →
      ∃ fd : FuncData, (∀ (s : Shared) (u : Value), BindsTo s fd ⟨[u], []⟩ [(x, u)]) ∧
        ∀ base : Heap, (K w.params).In base → base.Ns mainGlobals mg → FnOk l.prog w (K w.params) mg base (CX w) k fa fd [x] (sp w))
    (hsp : ∀ (w : World) (H : Hp) (a : Addr) (ns : List Int), ns.length ≤ n → Only H → SqL (K w.params) H a (ns.map V.int) → sp w [.ref a] H (fun v _ => v = .bl true) fun _ _ _ => False)
    (hCX : ∀ (w : World) (H : Hp) (s : Shared) (e : Value) (s' : Shared), CX w [] H s (fun _ _ _ => False) e s' → False) :
    PySem.W.WalkO q loose XP YP l.row.toRowW d [] (fun f vs => PySem.call f vs) := by
  refine Att.attach_call hn hdf fun w s₀ s₁ mg mb fa o pm cd doc a vs ns G Y ho hd hcd hmg hobj hints hlen hg => ?_
  have KX := hY w _ Y
  obtain ⟨fd, hb, hF⟩ := F w mg fa _ KX G.T.g hmg
  exact law_call KX G.T.g G.T.b G.T.builtins G.T.nolimit hg hobj hints (Nat.le_trans hlen hn2) hr hF hb (fun H hO hS => hsp w H a ns hlen hO hS) fun H e s' => hCX w H s₁ e s'
end L2

/- THE LAST THEOREM (shape; LID, My.* are yours):
   My.Adr: a structure of the addresses that your layer names (classes, functions); My.Txt K t: a structure (Prop) of the equations over K;
   My.txt_mk : {K} {implicit addresses ..} (e1 : nsIn K mainGlobals "law" = some (some (.ref f))) (e2 : K.lookup f = some ⟨oc, od, .func (fnOf "law" "law" params body scope dV kV doc pm an cdv ct), sl⟩) (e3 : codeIn K cdv "law" = true) .. : ∃ t, My.Txt K t

set_option maxRecDepth 100000 in
set_option maxHeartbeats 0 in
theorem PySem.Challenge.cw_LID_holds : PySem.Challenge.rw_LID.Holds := by
  w_on; o_law; k_head; (case hw => w_witness2)
  k_fill
  refine L2.walk_of (l := PySem.Challenge.rw_LID) (n := 63) (k := 40) (x := "script") (CX := fun w => ..) (sp := fun _ => My.sp_law) rfl (by decide) rfl ⟨rfl, by decide, by decide⟩ (fun w h Y => PySem.W.kIn_of Y) ?F ?S ?C
  case F =>
    intro w mg fa h KX G hmg
    have T : ∃ t, My.Txt (L2.KOf KX) t := by
      dsimp only [L2.KOf]                          -- K must stand as «<heap const> w.params» for k_is
      refine' My.txt_mk ?e1 ?e2 ?e3 ..
      (case e1 => PySem.W.k_is)                    -- in the order: a name -> its address -> its object -> its parts
      (case e2 => PySem.W.k_is)
      ..
    obtain ⟨t, T⟩ := T
    have e0 := hmg.symm.trans (PySem.W.mg_of KX G T.law)
    cases e0                                       -- fa is the law's own address
    exact ⟨_, fun s u => .of_eq rfl, fun base kb nb => My.law_fn T kb nb⟩     -- if «.of_eq rfl» comes too early: refine' ⟨_, ?b, fun base kb nb => My.law_fn T kb nb⟩; exact fun s u => .of_eq rfl
  case S => exact fun w H a ns hl hO hS => ..
  case C => exact ..
(the tactic k_is has no namespace: write k_is) -/

/-! SHORT WORDS over the layer: a def of the text, its body, what a loop and a test want. -/
namespace L2
open PySem PySem.Spec PyProof.Rows

/-! ### the text by places -/
def inClass (s : Stmt) (j : Nat) : Stmt := match s with
  | .ClassDef _ _ _ body _ _ _ _ _ _ _ => body.getD j (.Pass ⟨0, 0, 0, 0⟩)
  | _ => .Pass ⟨0, 0, 0, 0⟩
def defArgs (s : Stmt) : Arguments := match s with
  | .FunctionDef _ a _ _ _ _ _ _ _ _ => a
  | _ => { posonlyargs := [], args := [], vararg := none, kwonlyargs := [], kw_defaults := [], kwarg := none, defaults := [] }
def defBody (s : Stmt) : List Stmt := match s with
  | .FunctionDef _ _ b _ _ _ _ _ _ _ => b
  | _ => []
def defScope (s : Stmt) : Scope := match s with
  | .FunctionDef _ _ _ _ _ _ sc _ _ _ => sc
  | _ => { kind := .function, names := [], isGenerator := false, isCoroutine := false }

/-! ### no exception leaves a def -/
abbrev CX0 : CXT := fun _ _ _ _ _ _ => False
abbrev E0 : XK := fun _ _ _ => False
theorem pass0 {X : Cx} : Passes CX0 X E0 := fun _ _ _ _ _ _ _ h => h.elim

/-! ### a def (or method) of the text as it stands behind the top -/
structure Fun (K : PySem.W.Frag) (x qual : Str) (st : Stmt) (f : Addr) (fd : FuncData) : Prop where
  ex : ∃ (oc : Value) (od : Option Addr) (kV doc pm : Value) (an : Option Addr) (cdv ct : Value) (osl : Array (Option Value)),
    fd = PySem.W.fnOf x qual (defArgs st) (defBody st) (defScope st) .none kV doc pm an cdv ct ∧ K.lookup f = some ⟨oc, od, .func fd, osl⟩ ∧ PySem.W.codeIn K cdv qual = true
  kp : PySem.W.keepIn K (.ref f) = true
section
variable {P : Program} {w : World} {K : PySem.W.Frag} {mg : Str → Option Value} {base : Heap}
theorem Fun.ok {x qual : Str} {st : Stmt} {f : Addr} {fd : FuncData} {N ps : List Str} {k : Nat} {sp : Sp} (F : Fun K x qual st f fd) (S : FnScope N ps (defScope st)) (len : ∀ vs H Q E, sp vs H Q E → vs.length = ps.length)
    (hbody : ∀ (cdv : Value) (A : Around) (outer : List Env) (s : Shared) (H : Hp) (vs : List V) (Q : VK) (E : XK), Room k (A.deeper (envOfC qual (defScope st) s.heap.objs.size f cdv)) → sp vs H Q E →
      ∃ t, PSs (cxOf CX0 P w K mg base N qual (defScope st) f cdv A outer s H E).nox (defBody st) t ∧ t { nx := fun _ H' => Q .non H', rt := Q } (start N vs) H) : FnOk P w K mg base CX0 (k + 1) f fd ps sp := by
  obtain ⟨oc, od, kV, doc, pm, an, cdv, ct, osl, rfl, lk, hcd⟩ := F.ex
  refine fn_of lk hcd S len fun A outer s H vs Q E hr hsp => ?_
  obtain ⟨t, h, q⟩ := hbody cdv A outer s H vs Q E hr hsp
  exact ⟨t, h.nox, q⟩
theorem Fun.binds {x qual : Str} {st : Stmt} {f : Addr} {fd : FuncData} {ps : List Str} (F : Fun K x qual st f fd)
    (h : ∀ (kV doc pm : Value) (an : Option Addr) (cdv ct : Value) (us : List Value), us.length = ps.length → bindArgs (PySem.W.fnOf x qual (defArgs st) (defBody st) (defScope st) .none kV doc pm an cdv ct) ⟨us, []⟩ = pure (ps.zip us)) : Binds K fd ps [] := by
  obtain ⟨oc, od, kV, doc, pm, an, cdv, ct, osl, rfl, lk, hcd⟩ := F.ex
  exact .all (h kV doc pm an cdv ct)
theorem fun_mk {x qual : Str} {st : Stmt} {f : Addr} {oc : Value} {od an : Option Addr} {osl : Array (Option Value)} {kV doc pm cdv ct : Value} (l : K.lookup f = some ⟨oc, od, .func (PySem.W.fnOf x qual (defArgs st) (defBody st) (defScope st) .none kV doc pm an cdv ct), osl⟩)
    (c : PySem.W.codeIn K cdv qual = true) (k : PySem.W.keepIn K (.ref f) = true) : Fun K x qual st f (PySem.W.fnOf x qual (defArgs st) (defBody st) (defScope st) .none kV doc pm an cdv ct) := ⟨⟨oc, od, kV, doc, pm, an, cdv, ct, osl, rfl, l, c⟩, k⟩
end
theorem hu_of {A : Around} {k : Nat} (hr : Room k A) : A.units + 1 < cLine := Nat.lt_of_le_of_lt (Nat.add_le_add_left (by decide : 1 ≤ 64) _) hr.units
theorem small1000 {n : Nat} (h : n ≤ 1000) : n < sizeLine := Nat.lt_of_le_of_lt h (by decide)

/-! ### expressions in short: the name that stands in the i-th slot -/
section
variable {X : Cx}
theorem pv (i : Nat) {x : Str} {pos : Pos} (hN : X.N[i]? = some x := by rfl) (hv : Vis X.env.scope x := by first | exact Or.inl rfl | exact Or.inr (Or.inl rfl) | exact Or.inr (Or.inr rfl)) (hd : (x == ("__debug__" : Str)) = false := by decide)
    (hcd : (x == ("__classdict__" : Str)) = false := by decide) : PE X (.Name x pos) (tVar i) := pe_var hN hv hd hcd
end

/-! ### tests -/
theorem iteF {A B : Prop} (h : B) : if false = true then A else B := by
  rw [if_neg Bool.false_ne_true]
  exact h
theorem iteT {A B : Prop} (h : A) : if true = true then A else B := by
  rw [if_pos rfl]
  exact h
theorem ite2 {c A B : Prop} [Decidable c] (h1 : c → A) (h2 : ¬ c → B) : if c then A else B := by
  by_cases h : c
  · rw [if_pos h]
    exact h1 h
  · rw [if_neg h]
    exact h2 h
/-! ### heaps -/
def Same (H H' : Hp) : Prop := ∀ b o, H b = some o → H' b = some o
theorem Same.trans {H H1 H2 : Hp} (a : Same H H1) (b : Same H1 H2) : Same H H2 := fun c o h => b c o (a c o h)
theorem Same.free {H H' : Hp} (e : Same H H') {l : Addr} (h : H' l = Option.none) : H l = Option.none := by
  cases q : H l with
  | none => rfl
  | some o =>
    rw [e l o q] at h
    cases h
section
variable {X : Cx}
end
/-! ### a dict's pairs: keys that differ -/
section
variable {κ : Type} [DecidableEq κ]
end
end L2

set_option Elab.async false
set_option linter.all false
set_option maxRecDepth 100000
set_option maxHeartbeats 4000000
/-! our own rules over the hand layer -/
namespace L2
open PySem PySem.Spec PyProof.Rows

/-! ### values as data, over the abstract heap -/
mutual
inductive Rp (K : PySem.W.Frag) (H : Hp) : V → PyData → Prop
  | non : Rp K H .non .none
  | bl (b : Bool) : Rp K H (.bl b) (.bool b)
  | int (i : Int) : Rp K H (.int i) (.int i)
  | str (x : Str) : Rp K H (.str x) (.str x)
  | lst {a : Addr} {xs : List V} {ds : List PyData} : H a = some (.lst xs) → RpL K H xs ds → Rp K H (.ref a) (.list ds)
  | tup {a : Addr} {xs : List V} {ds : List PyData} : H a = some (.tup xs) → RpL K H xs ds → Rp K H (.ref a) (.tuple ds)
inductive RpL (K : PySem.W.Frag) (H : Hp) : List V → List PyData → Prop
  | nil : RpL K H [] []
  | cons {x : V} {d : PyData} {xs : List V} {ds : List PyData} : Rp K H x d → RpL K H xs ds → RpL K H (x :: xs) (d :: ds)
end
mutual
theorem Rp.mono {K : PySem.W.Frag} {H H' : Hp} (g : Same H H') : ∀ {v : V} {d : PyData}, Rp K H v d → Rp K H' v d
  | _, _, .non => .non
  | _, _, .bl b => .bl b
  | _, _, .int i => .int i
  | _, _, .str x => .str x
  | _, _, .lst h r => .lst (g _ _ h) (RpL.mono g r)
  | _, _, .tup h r => .tup (g _ _ h) (RpL.mono g r)
theorem RpL.mono {K : PySem.W.Frag} {H H' : Hp} (g : Same H H') : ∀ {vs : List V} {ds : List PyData}, RpL K H vs ds → RpL K H' vs ds
  | _, _, .nil => .nil
  | _, _, .cons h r => .cons (Rp.mono g h) (RpL.mono g r)
end
mutual
theorem Rp.reads {X : Cx} {pins : List (Addr × Obj)} {σ : St} {H : Hp} {s : Shared} (I : Inv X pins σ H s) : ∀ {v : V} {d : PyData} {u : Value}, Rp X.K H v d → RelV v u → ∃ as, Reads s.heap u d as
  | _, _, _, .non, r => by cases r; exact ⟨_, .none⟩
  | _, _, _, .bl b, r => by cases r; exact ⟨_, .bool b⟩
  | _, _, _, .int i, r => by obtain ⟨t, rfl⟩ := r; exact ⟨_, .int i t⟩
  | _, _, _, .str x, r => by obtain ⟨t, rfl⟩ := r; exact ⟨_, .str x t⟩
  | _, _, _, .lst h q, r => by
    cases r
    obtain ⟨its, rv, ⟨o, n, e, hc, hd, hs⟩, _⟩ := I.list (SqL.of h)
    obtain ⟨as, ra⟩ := RpL.reads I q rv
    exact ⟨_, .list e hc hs (by simpa using ra)⟩
  | _, _, _, .tup h q, r => by
    cases r
    obtain ⟨its, rv, ⟨o, e, hc, n, hs⟩, _⟩ := I.tuple (SqT.of h)
    obtain ⟨as, ra⟩ := RpL.reads I q rv
    exact ⟨_, .tuple e hc hs (by simpa using ra)⟩
theorem RpL.reads {X : Cx} {pins : List (Addr × Obj)} {σ : St} {H : Hp} {s : Shared} (I : Inv X pins σ H s) : ∀ {vs : List V} {ds : List PyData} {us : List Value}, RpL X.K H vs ds → Vals vs us → ∃ as, ReadsAll s.heap us ds as
  | _, _, _, .nil, .nil => ⟨_, .nil⟩
  | _, _, _, .cons h q, .cons r t => by
    obtain ⟨as, ra⟩ := Rp.reads I h r
    obtain ⟨bs, rb⟩ := RpL.reads I q t
    exact ⟨_, .cons ra rb⟩
end
theorem same_new {H : Hp} {p : Addr} (h : H p = none) (o : HO) : Same H (upd H p o) := fun b u q => by rw [upd_ne (ne_of_none q h)]; exact q

section
variable {X : Cx}
/-! ### == and != of data (lists, tuples, flat values, at any depth) -/
def rEqD (K : PySem.W.Frag) : R2 := fun x y H Q => ∃ d e, Rp K H x d ∧ Rp K H y e ∧ SeqAt.shaped d = true ∧ SeqAt.shaped e = true ∧ Q (.bl (PyData.eqv d e)) H
def rNeD (K : PySem.W.Frag) : R2 := fun x y H Q => ∃ d e, Rp K H x d ∧ Rp K H y e ∧ SeqAt.shaped d = true ∧ SeqAt.shaped e = true ∧ Q (.bl (!PyData.eqv d e)) H
theorem op_eqD (hu : X.A.units + 64 < cLine) : OpR X (compareOp .Eq) (rEqD X.K) := by
  intro pins s σ H x y v u Q I rx ry h
  obtain ⟨d, e, hx, hy, sd, se, q⟩ := h
  obtain ⟨as, ra⟩ := hx.reads I rx
  obtain ⟨bs, rb⟩ := hy.reads I ry
  exact eq_dataH ra rb sd se hu ⟨.bl _, H, I, rfl, q⟩
theorem op_neD (hu : X.A.units + 64 < cLine) : OpR X (compareOp .NotEq) (rNeD X.K) := by
  intro pins s σ H x y v u Q I rx ry h
  obtain ⟨d, e, hx, hy, sd, se, q⟩ := h
  obtain ⟨as, ra⟩ := hx.reads I rx
  obtain ⟨bs, rb⟩ := hy.reads I ry
  exact ne_dataH ra rb sd se hu ⟨.bl _, H, I, rfl, q⟩
/-! ### != of two dicts that hold the same flat pairs -/
/-! ### dict(d) -/
/-! ### isinstance(x, T), T a built-in type -/
end

/-! ### items of tracked lists and tuples -/
def rIxG : R2 := fun x y H Q => ∃ p i xs v, x = .ref p ∧ y = .int i ∧ (H p = some (.tup xs) ∨ H p = some (.lst xs)) ∧ atI xs i = some v ∧ Q v H
theorem ix_g {X : Cx} : IxR X rIxG := by
  intro value slice pins s σ H x y v u Q I rx ry h hs
  obtain ⟨p, i, xs, z, rfl, rfl, hq, he, q⟩ := h
  rcases hq with hq | hq
  · exact ix_tup value slice pins s σ H _ _ v u Q I rx ry ⟨p, xs, i, z, rfl, rfl, SqT.of hq, he, q⟩ hs
  · exact ix_list value slice pins s σ H _ _ v u Q I rx ry ⟨p, xs, i, z, rfl, rfl, SqL.of hq, he, q⟩ hs
theorem atI_0 {α : Type} {a : α} {l : List α} : atI (a :: l) 0 = some a := atI_nat (j := 0) rfl
theorem atI_1 {α : Type} {a b : α} {l : List α} : atI (a :: b :: l) 1 = some b := atI_nat (j := 1) rfl
theorem atI_2 {α : Type} {a b c : α} {l : List α} : atI (a :: b :: c :: l) 2 = some c := atI_nat (j := 2) rfl
theorem atI_3 {α : Type} {a b c d : α} {l : List α} : atI (a :: b :: c :: d :: l) 3 = some d := atI_nat (j := 3) rfl
theorem atI_4 {α : Type} {a b c d e : α} {l : List α} : atI (a :: b :: c :: d :: e :: l) 4 = some e := atI_nat (j := 4) rfl
theorem atI_in {α : Type} {xs : List α} {i : Int} (h0 : 0 ≤ i) (h1 : i < xs.length) : ∃ v, atI xs i = some v ∧ v ∈ xs ∧ xs[i.toNat]? = some v := by
  have hk : i.toNat < xs.length := by omega
  have e : ((i.toNat : Nat) : Int) = i := by omega
  refine ⟨xs[i.toNat], ?_, List.getElem_mem hk, List.getElem?_eq_getElem hk⟩
  have := atI_nat (xs := xs) (j := i.toNat) (v := xs[i.toNat]) (List.getElem?_eq_getElem hk)
  rwa [e] at this
theorem fresh_any {H : Hp} {o : HO} {R : Addr → Hp → Prop} (h : ∀ p H', H p = none → Same H H' → H' p = some o → R p H') : ∀ p, H p = none → R p (upd H p o) := fun p hp => h p _ hp (same_new hp o) upd_same
theorem sz {n : Nat} (h : n ≤ 1000) : (n ≤ sizeLine) = True := eq_true (Nat.le_of_lt (small1000 h))
theorem mn1 {n : Nat} : min 1 (n + 1) = 1 := by omega
theorem mn2 {n : Nat} : min 2 (n + 2) = 2 := by omega
theorem na2 : Int.natAbs 2 = 2 := rfl
theorem na10 : Int.natAbs 10 = 10 := rfl
theorem sz0 : (0 ≤ sizeLine) = True := sz (by decide)
theorem sz1 : (1 ≤ sizeLine) = True := sz (by decide)
theorem sz2 : (2 ≤ sizeLine) = True := sz (by decide)
theorem sz3 : (3 ≤ sizeLine) = True := sz (by decide)
theorem sz4 : (4 ≤ sizeLine) = True := sz (by decide)
theorem sz5 : (5 ≤ sizeLine) = True := sz (by decide)
theorem sz6 : (6 ≤ sizeLine) = True := sz (by decide)
theorem ofString_inj {a b : String} : (Str.ofString a = Str.ofString b) = (a = b) := by
  apply propext
  constructor
  · intro h
    rw [Str.ofString_eq_toList, Str.ofString_eq_toList] at h
    injection h with h
    have h2 : a.toList.map Char.toNat = b.toList.map Char.toNat := by simpa using congrArg Array.toList h
    have inj : ∀ c d : Char, c.toNat = d.toNat → c = d := fun c d e => Char.ext (UInt32.toNat_inj.mp e)
    exact String.toList_inj.mp (List.map_inj_right (fun c d e => inj c d e) |>.mp h2)
  · rintro rfl; rfl
/-! ### dicts, by what the key is -/
def keyOf : V → Option Key
  | .int i => some (.inl i)
  | .str x => some (.inr x)
  | _ => none
theorem kV_of {y : V} {k : Key} (h : keyOf y = some k) : y = kV k := by
  cases y <;> simp only [keyOf, Option.some.injEq, reduceCtorEq] at h <;> subst h <;> rfl
section
variable {X : Cx} {i o e value : Expr} {ty td te tv : TE} {pos pos' apos cpos : Pos}
def tDInG (ty td : TE) : TE := fun σ H Q => ty σ H fun y H1 => td σ H1 fun x H2 => ∃ a kvs k, x = .ref a ∧ H2 a = some (.dK kvs) ∧ keyOf y = some k ∧ Q (.bl (valV kvs k).isSome) H2
def tDNotInG (ty td : TE) : TE := fun σ H Q => ty σ H fun y H1 => td σ H1 fun x H2 => ∃ a kvs k, x = .ref a ∧ H2 a = some (.dK kvs) ∧ keyOf y = some k ∧ Q (.bl (!(valV kvs k).isSome)) H2
def tDGetG (td ty : TE) : TE := fun σ H Q => td σ H fun x H1 => ty σ H1 fun y H2 => ∃ a kvs k v, x = .ref a ∧ H2 a = some (.dK kvs) ∧ keyOf y = some k ∧ valV kvs k = some v ∧ Q v H2
def sDPutG (td ty tv : TE) : TS := fun D σ H => tv σ H fun v H1 => td σ H1 fun x H2 => ty σ H2 fun y H3 => ∃ a kvs k, x = .ref a ∧ H3 a = some (.dK kvs) ∧ keyOf y = some k ∧ kvs.length < sizeLine ∧ D.nx σ (upd H3 a (.dK (putK kvs k v)))
theorem pe_dgetG (hu : X.A.units + 1 < cLine) (ho : PE X o td) (hi : PE X i ty) (hs : NoSl i) : PE X (.Subscript o i pos) (tDGetG td ty) := by
  intro pins s σ H Q I h
  refine subD_of PySem.F.slot_dict_getitem.lookup hs (thn (ho pins s σ H _ I h) fun u s1 ⟨x, H1, I1, rx, q1⟩ => thn (hi pins s1 σ H1 _ I1 q1) fun iv s2 ⟨y, H2, I2, ry, a, kvs, k, v, ex, ha, ek, ev, q2⟩ => ?_)
  subst ex
  obtain rfl : u = Value.ref a := rx
  have g : DGet H2 a y (some v) := by rw [kV_of ek, ← ev]; exact DGet.k ha
  exact ⟨dict_typeIs I2 g, d_getItem hu I2 g ry fun w' s3 I3 rw' => ⟨v, H2, I3, rw', q2⟩⟩
theorem ps_dputG (hu : X.A.units + 1 < cLine) (ho : PE X o td) (hi : PE X i ty) (hv : PE X value tv) (hs : swapsWith value (some (.Subscript o i pos')) pos.line X.env = pure false := by rfl) :
    PS X (.Assign [.Subscript o i pos'] value pos) (sDPutG td ty tv) := by
  intro pins s σ H D I h
  refine wpAny_Assign_Subscript (thn (hv pins s σ H _ I h) fun r s1 ⟨v, H1, I1, rv, q1⟩ => thn (ho pins s1 σ H1 _ I1 q1) fun u s2 ⟨x, H2, I2, rx, q2⟩ => thn (hi pins s2 σ H2 _ I2 q2) fun iv s3 ⟨y, H3, I3, ry, a, kvs, k, ex, ha, ek, hz, q3⟩ => ?_) hs
  subst ex
  obtain rfl : u = Value.ref a := rx
  have g : DPut H3 a y v (upd H3 a (.dK (putK kvs k v))) := by rw [kV_of ek]; exact DPut.k ha hz
  exact d_setItem hu I3 g ry rv fun s4 I4 => ⟨σ, _, I4, q3⟩
def tApp (to te : TE) : TE := fun σ H Q => to σ H fun x H1 => ∃ l xs, x = .ref l ∧ H1 l = some (.lst xs) ∧ te σ H1 fun y H2 => rAppend (.ref l) [y] H2 Q
theorem pe_app (ho : PE X o td) (he : PE X e te)
    (hbase : attributeBase o "append" X.env (eval o X.env) = eval o X.env := by rfl)
    (hfew : ((backTo cpos (starEach [e] X.env)).all (fun x => !x.1) && (backToKw cpos (keywordEach [] X.env)).all (fun x => x.1.isSome)
      && decide ([e].length + ([] : List Keyword).length + (if ([] : List Keyword).isEmpty then 0 else 1) < 30)) = true := by rfl)
    (hline : (apos.endLine == cpos.line) = true := by rfl) (hs : starEach [e] X.env = [(false, eval e X.env)] := by rfl) :
    PE X (.Call (.Attribute o "append" apos) [e] [] cpos) (tApp td te) := by
  intro pins s σ H Q I h
  refine wpAny_Call_method_late hbase hfew hline rfl (thn (ho pins s σ H _ I h) fun v s1 ⟨x, H1, I1, r1, l, xs, ex, hl, q1⟩ => ?_)
  subst ex
  obtain ⟨h1, h2⟩ := tyV_is (T := "list") I1 r1 (Or.inl ⟨rfl, xs, SqL.of hl⟩)
  refine ⟨"list", _, PySem.F.plainAttrs_list, PySem.F.slot_list_append, PySem.F.type_list_append, h1, h2, ?_⟩
  have hA := (pa_cons he pa_nil (hs := by rw [hs]; rfl)) cpos pins s1 σ H1 (fun vs H2 => rAppend (.ref l) vs H2 Q) I1 q1
  rw [hs] at hA ⊢
  refine Calls.callWith_builtin (by rfl) (Calls.evalArgs_plain ?_)
  exact thn hA fun us s2 ⟨vs, H2, I2, r2, q2⟩ => mt_append pins s2 σ H2 _ vs v us Q I2 r1 r2 q2
end

/-! ### facts that simp uses -/
theorem scal_ss {a b : Str} : scal (.str a) (.str b) = true := rfl
theorem scal_ii {a b : Int} : scal (.int a) (.int b) = true := rfl
theorem scal_bb {a b : Bool} : scal (.bl a) (.bl b) = true := rfl
theorem scal_nn : scal .non .non = true := rfl
theorem scal_ns {b : Str} : scal .non (.str b) = true := rfl
theorem scal_sn {b : Str} : scal (.str b) .non = true := rfl
theorem scal_ni {b : Int} : scal .non (.int b) = true := rfl
theorem scal_in {b : Int} : scal (.int b) .non = true := rfl
theorem keyOf_s {a : Str} : keyOf (.str a) = some (.inr a) := rfl
theorem keyOf_i {a : Int} : keyOf (.int a) = some (.inl a) := rfl
theorem flat_s {a : Str} : flatV (.str a) = true := rfl
theorem flat_i {a : Int} : flatV (.int a) = true := rfl
theorem flat_n : flatV .non = true := rfl
theorem flat_b {a : Bool} : flatV (.bl a) = true := rfl
theorem inV_nil {x : V} : inV x [] = false := rfl
theorem inV_cons {x y : V} {l : List V} : inV x (y :: l) = (eqV y x || inV x l) := rfl
theorem eqV_ss {a b : Str} : eqV (.str a) (.str b) = decide (a = b) := by
  show (a == b) = _
  rw [Bool.eq_iff_iff]; simp
theorem eqV_ii {a b : Int} : eqV (.int a) (.int b) = decide (a = b) := by
  show (a == b) = _
  rw [Bool.eq_iff_iff]; simp
theorem cx_K {CX : CXT} {P : Program} {w : World} {K : PySem.W.Frag} {mg : Str → Option Value} {base : Heap} {N : List Str} {qual : Str} {scope : Scope} {f : Addr} {cd : Value} {A : Around} {outer : List Env} {s : Shared} {H : Hp} {E : XK} : (cxOf CX P w K mg base N qual scope f cd A outer s H E).K = K := rfl
section
variable {X : Cx}
def rInG (neg : Bool) : R2 := fun x y H Q => ∃ p xs, y = .ref p ∧ (H p = some (.tup xs) ∨ H p = some (.lst xs)) ∧ flatV x = true ∧ xs.all flatV = true ∧ Q (.bl (if neg then !inV x xs else inV x xs)) H
theorem op_inG : OpR X (compareOp .In) (rInG false) := by
  intro pins s σ H x y v u Q I rx ry h
  obtain ⟨p, xs, rfl, hq, fx, fs, q⟩ := h
  exact op_in_seq pins s σ H x _ v u Q I rx ry ⟨p, xs, rfl, hq.symm.imp SqL.of SqT.of, fx, fs, q⟩
def gTupG (n : Nat) (t : TGs) : TG := fun v σ H Q => ∃ a xs, v = .ref a ∧ H a = some (.tup xs) ∧ xs.length = n ∧ t xs σ H Q
theorem pg_tupG {es : List Expr} {k : Nat} {t : TGs} {pos : Pos} (n : Nat) (hc : X.calm = true) (h : PGs X es t)
    (hn : (assignEach es X.env).length = n := by rfl) (hst : (assignEach es X.env).findIdx? (·.1) = none := by rfl) : PG X (.Tuple es k pos) (gTupG n t) := by
  intro pins s σ H v u Q I r hw
  obtain ⟨a, xs, e1, hq, hl, hw⟩ := hw
  exact pg_tup hc h hn hst pins s σ H v u Q I r ⟨a, xs, e1, SqT.of hq, hl, hw⟩
def tM (t : TE) : TE := fun σ H Q => ∃ Q1 : VK, t σ H Q1 ∧ ∀ v H', Q1 v H' → Q v H'
theorem PE.up {e : Expr} {t : TE} (h : PE X e t) : PE X e (tM t) := by
  intro pins s σ H Q I hq
  obtain ⟨Q1, h1, h2⟩ := hq
  exact thn (h pins s σ H Q1 I h1) fun u s' ⟨v, H', I', r, q⟩ => ⟨v, H', I', r, h2 v H' q⟩
def rSlG : V → Option Int → Option Int → Hp → VK → Prop := fun x lo hi H Q => ∃ a xs, x = .ref a ∧
  ((H a = some (.tup xs) ∧ ¬ (HT.sIx xs.length 0 lo = 0 ∧ HT.sIx xs.length xs.length hi = xs.length) ∧ ∀ p H', H p = none → Same H H' → H' p = some (.tup (cutV xs lo hi)) → Q (.ref p) H') ∨
   (H a = some (.lst xs) ∧ ∀ p H', H p = none → Same H H' → H' p = some (.lst (cutV xs lo hi)) → Q (.ref p) H'))
def rSlK (K : PySem.W.Frag) : V → Option Int → Option Int → Hp → VK → Prop := fun x lo hi H Q => ∃ a xs, x = .ref a ∧ SqL K H a xs ∧ ∀ p H', H p = none → Same H H' → H' p = some (.lst (cutV xs lo hi)) → Q (.ref p) H'
theorem sl_k : SlR X (rSlK X.K) := by
  intro pins s σ H x v vl vu lo hi sl Q I rx hs pl pu h
  obtain ⟨a, xs, rfl, ha, q⟩ := h
  exact sl_list pins s σ H _ v vl vu lo hi sl Q I rx hs pl pu ⟨a, xs, rfl, ha, fresh_any q⟩
/-! ### what is made lies in some heap that has all that was there -/
def tMA (t : TA) : TA := fun σ H Q => ∃ Q1 : List V → Hp → Prop, t σ H Q1 ∧ ∀ vs H', Q1 vs H' → Q vs H'
theorem PA.up {es : List Expr} {t : TA} (h : PA X es t) : PA X es (tMA t) := by
  intro pos pins s σ H Q I hq
  obtain ⟨Q1, h1, h2⟩ := hq
  exact thn (h pos pins s σ H Q1 I h1) fun us s' ⟨vs, H', I', r, q⟩ => ⟨vs, H', I', r, h2 vs H' q⟩
def tTupG (t : TA) : TE := fun σ H Q => t σ H fun xs H1 => xs.length ≤ sizeLine ∧ ∀ p H', H1 p = none → Same H1 H' → H' p = some (.tup xs) → Q (.ref p) H'
def tLstG (t : TA) : TE := fun σ H Q => t σ H fun xs H1 => xs.length ≤ sizeLine ∧ ∀ p H', H1 p = none → Same H1 H' → H' p = some (.lst xs) → Q (.ref p) H'
theorem pe_tupG {es : List Expr} {t : TA} {pos : Pos} {x1} (h : PA X es t) : PE X (.Tuple es x1 pos) (tTupG t) := fun pins s σ H Q I hq =>
  pe_tup h.up pins s σ H Q I ⟨_, hq, fun _ _ q => ⟨q.1, fresh_any q.2⟩⟩
theorem pe_lstG {es : List Expr} {t : TA} {pos : Pos} (h : PA X es t) : PE X (.List es pos) (tLstG t) := fun pins s σ H Q I hq =>
  pe_lst h.up pins s σ H Q I ⟨_, hq, fun _ _ q => ⟨q.1, fresh_any q.2⟩⟩
def tDNewG : TE := fun _ H Q => ∀ p H', H p = none → Same H H' → H' p = some (.dK []) → Q (.ref p) H'
theorem pe_dnewG {pos : Pos} : PE X (.Dict [] [] pos) tDNewG := fun pins s σ H Q I h => pe_dnewK pins s σ H Q I (fresh_any h)
def rDictG : List V → Hp → VK → Prop := fun xs H Q => ∃ a kvs, xs = [.ref a] ∧ H a = some (.dK kvs) ∧ ∀ p H', H p = none → Same H H' → H' p = some (.dK kvs) → Q (.ref p) H'
structure Mu (H : Hp) (l : Addr) (o : HO) (H' : Hp) : Prop where
  at_ : H' l = some o
  else_ : ∀ a, a ≠ l → H' a = H a
theorem Mu.mk' {H : Hp} {l : Addr} {o : HO} : Mu H l o (upd H l o) := ⟨upd_same, fun _ h => upd_ne h⟩
theorem Mu.old {H H' : Hp} {l a : Addr} {o u : HO} (m : Mu H l o H') (h : H a = some u) (n : a ≠ l) : H' a = some u := by rw [m.else_ a n]; exact h
theorem Mu.same {H0 H H' : Hp} {l : Addr} {o : HO} (m : Mu H l o H') (g : Same H0 H) (n : H0 l = none) : Same H0 H' := fun a u h => m.old (g a u h) (ne_of_none h n)
def tAppG (to te : TE) : TE := fun σ H Q => to σ H fun x H1 => ∃ l xs, x = .ref l ∧ H1 l = some (.lst xs) ∧ te σ H1 fun y H2 => ∃ ys, H2 l = some (.lst ys) ∧ ys.length < sizeLine ∧ ∀ H3, Mu H2 l (.lst (ys ++ [y])) H3 → Q .non H3
theorem pe_appG {o e : Expr} {td te : TE} {apos cpos : Pos} (ho : PE X o td) (he : PE X e te)
    (hbase : attributeBase o "append" X.env (eval o X.env) = eval o X.env := by rfl)
    (hfew : ((backTo cpos (starEach [e] X.env)).all (fun x => !x.1) && (backToKw cpos (keywordEach [] X.env)).all (fun x => x.1.isSome)
      && decide ([e].length + ([] : List Keyword).length + (if ([] : List Keyword).isEmpty then 0 else 1) < 30)) = true := by rfl)
    (hline : (apos.endLine == cpos.line) = true := by rfl) (hs : starEach [e] X.env = [(false, eval e X.env)] := by rfl) :
    PE X (.Call (.Attribute o "append" apos) [e] [] cpos) (tAppG td te) := fun pins s σ H Q I h =>
  pe_app ho.up he.up hbase hfew hline hs pins s σ H Q I ⟨_, h, fun _ _ ⟨l, xs, e1, h1, q⟩ => ⟨l, xs, e1, h1, _, q, fun y _ ⟨ys, h2, hz, q⟩ => ⟨l, ys, y, rfl, rfl, h2, hz, q _ .mk'⟩⟩⟩
def sDPutG2 (td ty tv : TE) : TS := fun D σ H => tv σ H fun v H1 => td σ H1 fun x H2 => ty σ H2 fun y H3 => ∃ a kvs k, x = .ref a ∧ H3 a = some (.dK kvs) ∧ keyOf y = some k ∧ kvs.length < sizeLine ∧ ∀ H4, Mu H3 a (.dK (putK kvs k v)) H4 → D.nx σ H4
theorem ps_dputG2 {i o value : Expr} {ty td tv : TE} {pos pos' : Pos} (hu : X.A.units + 1 < cLine) (ho : PE X o td) (hi : PE X i ty) (hv : PE X value tv) (hs : swapsWith value (some (.Subscript o i pos')) pos.line X.env = pure false := by rfl) :
    PS X (.Assign [.Subscript o i pos'] value pos) (sDPutG2 td ty tv) := fun pins s σ H D I h =>
  ps_dputG hu ho.up hi.up hv.up hs pins s σ H D I ⟨_, h, fun _ _ q => ⟨_, q, fun _ _ q => ⟨_, q, fun _ _ ⟨a, kvs, k, e1, e2, e3, e4, q⟩ => ⟨a, kvs, k, e1, e2, e3, e4, q _ .mk'⟩⟩⟩⟩
def pairsOf : List (V × V) → Option (List (Key × V))
  | [] => some []
  | (x, y) :: r => (keyOf x).bind fun k => (pairsOf r).bind fun l => some ((k, y) :: l)
def tDispG (trs : List (TE × TE)) : TE := fun σ H Q => ∀ p H', H p = none → Same H H' → H' p = some (.dK []) → tPairs trs σ H' fun ps H2 => H2 p = some (.dK []) ∧ ∃ kvs, pairsOf ps = some kvs ∧ kvs.length ≤ 15 ∧ ∀ H3, Mu H2 p (.dK (mergeK [] kvs)) H3 → Q (.ref p) H3
/-! ### a loop over a tracked list or tuple, turn by turn -/
def turns (a : Addr) (o : HO) (g : TG) (tb : TS) (D : Ends) : List V → St → Hp → Prop
  | [], σ, H => H a = some o ∧ D.nx σ H
  | x :: r, σ, H => H a = some o ∧ g x σ H fun σ2 H2 => tb { D with nx := turns a o g tb D r, ct := turns a o g tb D r, bk := D.nx } σ2 H2
def tForT (tl : TE) (g : TG) (tb : TS) : TS := fun D σ H => tl σ H fun x H1 => ∃ a xs, x = .ref a ∧ H1 a = some (.tup xs) ∧ turns a (.tup xs) g tb D xs σ H1
def tForL (tl : TE) (g : TG) (tb : TS) : TS := fun D σ H => tl σ H fun x H1 => ∃ a xs, x = .ref a ∧ H1 a = some (.lst xs) ∧ turns a (.lst xs) g tb D xs σ H1
end

/-! ### isinstance, by what stands in the heap -/
def hoT : HO → Option String
  | .lst _ => some "list"
  | .tup _ => some "tuple"
  | .dK _ => some "dict"
  | _ => none
def tyG (H : Hp) : V → Option String
  | .non => some "NoneType"
  | .bl _ => some "bool"
  | .int _ => some "int"
  | .str _ => some "str"
  | .ref a => (H a).bind hoT
  | _ => none
theorem tyG_n {H : Hp} : tyG H .non = some "NoneType" := rfl
theorem tyG_b {H : Hp} {x : Bool} : tyG H (.bl x) = some "bool" := rfl
theorem tyG_i {H : Hp} {x : Int} : tyG H (.int x) = some "int" := rfl
theorem tyG_s {H : Hp} {x : Str} : tyG H (.str x) = some "str" := rfl
theorem tyG_r {H : Hp} {a : Addr} : tyG H (.ref a) = (H a).bind hoT := rfl
theorem hoT_l {xs : List V} : hoT (.lst xs) = some "list" := rfl
theorem hoT_t {xs : List V} : hoT (.tup xs) = some "tuple" := rfl
theorem hoT_d {xs : List (Key × V)} : hoT (.dK xs) = some "dict" := rfl
def rIsiG (K : PySem.W.Frag) : List V → Hp → VK → Prop := fun xs H Q => ∃ x T t b, xs = [x, .ty T] ∧ tyG H x = some t ∧ PySem.W.kitOne K (.type t) (.type T) = some b ∧ Q (.bl b) H
theorem kit_ii {K : PySem.W.Frag} : PySem.W.kitOne K (.type "int") (.type "int") = some true := rfl
theorem kit_it {K : PySem.W.Frag} : PySem.W.kitOne K (.type "int") (.type "tuple") = some false := rfl
theorem kit_il {K : PySem.W.Frag} : PySem.W.kitOne K (.type "int") (.type "list") = some false := rfl
theorem kit_is {K : PySem.W.Frag} : PySem.W.kitOne K (.type "int") (.type "str") = some false := rfl
theorem kit_ib {K : PySem.W.Frag} : PySem.W.kitOne K (.type "int") (.type "bool") = some false := rfl
theorem kit_id {K : PySem.W.Frag} : PySem.W.kitOne K (.type "int") (.type "dict") = some false := rfl
theorem kit_ni {K : PySem.W.Frag} : PySem.W.kitOne K (.type "NoneType") (.type "int") = some false := rfl
theorem kit_nt {K : PySem.W.Frag} : PySem.W.kitOne K (.type "NoneType") (.type "tuple") = some false := rfl
theorem kit_nl {K : PySem.W.Frag} : PySem.W.kitOne K (.type "NoneType") (.type "list") = some false := rfl
theorem kit_ns {K : PySem.W.Frag} : PySem.W.kitOne K (.type "NoneType") (.type "str") = some false := rfl
theorem kit_nb {K : PySem.W.Frag} : PySem.W.kitOne K (.type "NoneType") (.type "bool") = some false := rfl
theorem kit_nd {K : PySem.W.Frag} : PySem.W.kitOne K (.type "NoneType") (.type "dict") = some false := rfl
theorem kit_ti {K : PySem.W.Frag} : PySem.W.kitOne K (.type "tuple") (.type "int") = some false := rfl
theorem kit_tt {K : PySem.W.Frag} : PySem.W.kitOne K (.type "tuple") (.type "tuple") = some true := rfl
theorem kit_tl {K : PySem.W.Frag} : PySem.W.kitOne K (.type "tuple") (.type "list") = some false := rfl
theorem kit_ts {K : PySem.W.Frag} : PySem.W.kitOne K (.type "tuple") (.type "str") = some false := rfl
theorem kit_tb {K : PySem.W.Frag} : PySem.W.kitOne K (.type "tuple") (.type "bool") = some false := rfl
theorem kit_td {K : PySem.W.Frag} : PySem.W.kitOne K (.type "tuple") (.type "dict") = some false := rfl
theorem kit_li {K : PySem.W.Frag} : PySem.W.kitOne K (.type "list") (.type "int") = some false := rfl
theorem kit_lt {K : PySem.W.Frag} : PySem.W.kitOne K (.type "list") (.type "tuple") = some false := rfl
theorem kit_ll {K : PySem.W.Frag} : PySem.W.kitOne K (.type "list") (.type "list") = some true := rfl
theorem kit_ls {K : PySem.W.Frag} : PySem.W.kitOne K (.type "list") (.type "str") = some false := rfl
theorem kit_lb {K : PySem.W.Frag} : PySem.W.kitOne K (.type "list") (.type "bool") = some false := rfl
theorem kit_ld {K : PySem.W.Frag} : PySem.W.kitOne K (.type "list") (.type "dict") = some false := rfl
theorem kit_si {K : PySem.W.Frag} : PySem.W.kitOne K (.type "str") (.type "int") = some false := rfl
theorem kit_st {K : PySem.W.Frag} : PySem.W.kitOne K (.type "str") (.type "tuple") = some false := rfl
theorem kit_sl {K : PySem.W.Frag} : PySem.W.kitOne K (.type "str") (.type "list") = some false := rfl
theorem kit_ss {K : PySem.W.Frag} : PySem.W.kitOne K (.type "str") (.type "str") = some true := rfl
theorem kit_sb {K : PySem.W.Frag} : PySem.W.kitOne K (.type "str") (.type "bool") = some false := rfl
theorem kit_sd {K : PySem.W.Frag} : PySem.W.kitOne K (.type "str") (.type "dict") = some false := rfl
theorem kit_bi {K : PySem.W.Frag} : PySem.W.kitOne K (.type "bool") (.type "int") = some true := rfl
theorem kit_bt {K : PySem.W.Frag} : PySem.W.kitOne K (.type "bool") (.type "tuple") = some false := rfl
theorem kit_bl {K : PySem.W.Frag} : PySem.W.kitOne K (.type "bool") (.type "list") = some false := rfl
theorem kit_bs {K : PySem.W.Frag} : PySem.W.kitOne K (.type "bool") (.type "str") = some false := rfl
theorem kit_bb {K : PySem.W.Frag} : PySem.W.kitOne K (.type "bool") (.type "bool") = some true := rfl
theorem kit_bd {K : PySem.W.Frag} : PySem.W.kitOne K (.type "bool") (.type "dict") = some false := rfl
theorem kit_di {K : PySem.W.Frag} : PySem.W.kitOne K (.type "dict") (.type "int") = some false := rfl
theorem kit_dt {K : PySem.W.Frag} : PySem.W.kitOne K (.type "dict") (.type "tuple") = some false := rfl
theorem kit_dl {K : PySem.W.Frag} : PySem.W.kitOne K (.type "dict") (.type "list") = some false := rfl
theorem kit_ds {K : PySem.W.Frag} : PySem.W.kitOne K (.type "dict") (.type "str") = some false := rfl
theorem kit_db {K : PySem.W.Frag} : PySem.W.kitOne K (.type "dict") (.type "bool") = some false := rfl
theorem kit_dd {K : PySem.W.Frag} : PySem.W.kitOne K (.type "dict") (.type "dict") = some true := rfl
/-! ### arguments without a star, for any frame -/
def notStar : Expr → Bool
  | .Starred _ _ => false
  | _ => true
theorem star_of {e : Expr} {es : List Expr} {env : Env} (h : notStar e = true) : starEach (e :: es) env = (false, eval e env) :: starEach es env := by
  cases e with
  | Starred v q => exact absurd (show false = true from h) Bool.false_ne_true
  | _ => rfl
theorem star_all {pos : Pos} {env : Env} : ∀ {es : List Expr}, es.all notStar = true → (backTo pos (starEach es env)).any (·.1) = false
  | [], _ => rfl
  | e :: es, h => by
    rw [List.all_cons, Bool.and_eq_true] at h
    rw [star_of h.1]
    show (false || (backTo pos (starEach es env)).any (·.1)) = false
    rw [star_all h.2]
    rfl
section
variable {X : Cx} {e : Expr} {es : List Expr} {te : TE} {t : TA} {x : Str} {p pos : Pos} {id T : String} {r : List V → Hp → VK → Prop}
theorem pa_c (ha : PE X e te) (hr : PA X es t) (hn : notStar e = true := by rfl) : PA X (e :: es) (tCons te t) := pa_cons ha hr (star_of hn)
theorem pe_cB (hc : CallR X (.builtin id) r) (hg : Gl X x) (hm : X.mg x = none) (hv : bootBuiltins x = some (.builtin id)) (ha : PA X (e :: es) t) (hn : x ≠ "__name__" := by decide) (hdb : (x == ("__debug__" : Str)) = false := by decide)
    (hs : (e :: es).all notStar = true := by rfl) : PE X (.Call (.Name x p) (e :: es) [] pos) (tCB r t) :=
  pe_callB hc hg hm hv ha hn hdb (star_of (Bool.and_eq_true_iff.mp hs).1) (star_all (Bool.and_eq_true_iff.mp hs).2)
theorem pe_cTy (hc : CallR X (.type T) r) (hg : Gl X x) (hm : X.mg x = none) (hv : bootBuiltins x = some (.type T)) (ha : PA X (e :: es) t) (hn : x ≠ "__name__" := by decide) (hdb : (x == ("__debug__" : Str)) = false := by decide)
    (hs : (e :: es).all notStar = true := by rfl) : PE X (.Call (.Name x p) (e :: es) [] pos) (tCB r t) :=
  pe_callTy hc hg hm hv ha hn hdb (star_of (Bool.and_eq_true_iff.mp hs).1) (star_all (Bool.and_eq_true_iff.mp hs).2)
end

/-! ### a def by its name -/
structure DefAt (K : PySem.W.Frag) (mg : Str → Option Value) (x : Str) (st : Stmt) (ps : List Str) : Prop where
  ex : ∃ f fd, mg x = some (.ref f) ∧ Fun K x x st f fd ∧ Binds K fd ps []
structure OkD (P : Program) (w : World) (K : PySem.W.Frag) (mg : Str → Option Value) (base : Heap) (n : Nat) (x : Str) (ps : List Str) (sp : Sp) : Prop where
  ex : ∃ f fd, mg x = some (.ref f) ∧ PySem.W.keepIn K (.ref f) = true ∧ Binds K fd ps [] ∧ FnOk P w K mg base CX0 n f fd ps sp
def tDef (sp : Sp) (t : TA) : TE := fun σ H Q => t σ H fun vs H1 => sp vs H1 Q E0
section
variable {P : Program} {w : World} {K : PySem.W.Frag} {mg : Str → Option Value} {base : Heap} {x : Str} {st : Stmt} {N ps : List Str} {k : Nat} {sp : Sp}
theorem DefAt.ok (D : DefAt K mg x st ps) (S : FnScope N ps (defScope st)) (len : ∀ vs H Q E, sp vs H Q E → vs.length = ps.length)
    (hbody : ∀ (f : Addr) (cdv : Value) (A : Around) (outer : List Env) (s : Shared) (H : Hp) (vs : List V) (Q : VK) (E : XK), Room k (A.deeper (envOfC x (defScope st) s.heap.objs.size f cdv)) → sp vs H Q E →
      ∃ t, PSs (cxOf CX0 P w K mg base N x (defScope st) f cdv A outer s H E).nox (defBody st) t ∧ t { nx := fun _ H' => Q .non H', rt := Q } (start N vs) H) : OkD P w K mg base (k + 1) x ps sp := by
  obtain ⟨f, fd, hm, F, hb⟩ := D.ex
  exact ⟨f, fd, hm, F.kp, hb, F.ok S len (hbody f)⟩
theorem DefAt.mk' {h : Heap} {f : Addr} {oc : Value} {od an : Option Addr} {osl : Array (Option Value)} {kV doc pm cdv ct : Value} (X : K.In h) (G : h.Ns mainGlobals mg) (a : PySem.W.nsIn K mainGlobals x = some (some (.ref f)))
    (l : K.lookup f = some ⟨oc, od, .func (PySem.W.fnOf x x (defArgs st) (defBody st) (defScope st) .none kV doc pm an cdv ct), osl⟩) (c : PySem.W.codeIn K cdv x = true) (k : PySem.W.keepIn K (.ref f) = true)
    (b : ∀ (kV doc pm : Value) (an : Option Addr) (cdv ct : Value) (us : List Value), us.length = ps.length → bindArgs (PySem.W.fnOf x x (defArgs st) (defBody st) (defScope st) .none kV doc pm an cdv ct) ⟨us, []⟩ = pure (ps.zip us)) : DefAt K mg x st ps :=
  have F := fun_mk (st := st) l c k
  ⟨f, _, PySem.W.mg_of X G a, F, F.binds b⟩
end
section
variable {X : Cx} {k n : Nat} {ps : List Str} {sp : Sp} {x : Str} {p pos : Pos} {e : Expr} {es : List Expr} {t : TA}
theorem pe_def (G : OkD X.prog X.w X.K X.mg X.base k x ps sp) (hr : Room n X.A) (hg : Gl X x) (ha : PA X (e :: es) t) (hk : k ≤ n := by omega) (hdb : (x == ("__debug__" : Str)) = false := by decide)
    (hs : (e :: es).all notStar = true := by rfl) : PE X (.Call (.Name x p) (e :: es) [] pos) (tDef sp t) := by
  obtain ⟨f, fd, hm, kp, hb, F⟩ := G.ex
  intro pins s σ H Q I h
  refine pe_call F (hr.mono hk) hg hm kp hb .nil pass0 ha hdb (star_of (Bool.and_eq_true_iff.mp hs).1) (star_all (Bool.and_eq_true_iff.mp hs).2) pins s σ H Q I ?_
  have e : (fun vs H1 => sp (vs ++ []) H1 Q E0) = fun vs H1 => sp vs H1 Q E0 := by funext vs H1; rw [List.append_nil]
  show t σ H fun vs H1 => sp (vs ++ []) H1 Q E0
  rw [e]
  exact h
end
def spLaw (K : PySem.W.Frag) : Sp := fun vs H Q _ => ∃ (a : Addr) (ns : List Int), vs = [.ref a] ∧ SqL K H a (ns.map V.int) ∧ ns.length ≤ 63 ∧ ∀ H', Q (.bl true) H'
end L2

set_option Elab.async false
set_option linter.all false
set_option maxRecDepth 100000
set_option maxHeartbeats 4000000
/-! our own rules: exceptions of own classes, raised, passed on, caught -/
namespace L2
open PySem PySem.Spec PyProof.Rows

structure Fly (h : Heap) (x T : Addr) (cls fl : Value) : Prop where
  ex : ∃ oe vs oT ts, h.get? x = some oe ∧ oe.cls = cls ∧ oe.dict = none ∧ oe.data = .fields vs ∧ vs[1]? = some (.ref T) ∧ T ≠ x ∧ h.get? T = some oT ∧ oT.data = .fields ts ∧ ts[3]? = some fl
def CXr (P : Program) (w : World) : CXT := fun outer H s E e s' => ∃ (x T : Addr) (cls : Value) (H' : Hp), e = .ref x ∧ s'.os = s.os ∧ AllBare s'.gens ∧ Un (frs outer) [] H H' s.heap s'.heap ∧ HOk P w H' s'.heap ∧
  Fly s'.heap x T cls .none ∧ s.heap.get? x = none ∧ s.heap.get? T = none ∧ H' x = none ∧ H' T = none ∧ E cls none H'

structure Kept (x : Addr) (ts fr : List Addr) (h h' : Heap) : Prop where
  keep : ∀ b o, h.get? b = some o → b ≠ x → b ∉ ts → b ∉ fr → h'.get? b = some o
  slot : ∀ b o, h.get? b = some o → b ≠ x → b ∉ ts → ∃ sl, h'.get? b = some { o with slots := sl }
section
variable {M : Model} {A : Around} {E : Value → Shared → Prop} {s : Shared} {base : Heap} {env : Env} {outer : List Env} {L x : Addr} {oe : Obj} {vs : Array Value} {Q : Unit → Shared → Prop}
end

section
variable {X : Cx} {pins : List (Addr × Obj)} {σ : St} {H1 : Hp} {s1 : Shared}
end

section
variable {P : Program} {w : World} {K : PySem.W.Frag} {mg : Str → Option Value} {base : Heap} {N : List Str} {qual : Str} {scope : Scope} {f : Addr} {cd : Value} {A : Around} {outer : List Env} {s : Shared} {H : Hp} {E : XK}
end
/-! ### own classes of ValueError's line -/
def veM : List Value := [.type "ValueError", .type "Exception", .type "BaseException", .type "object"]
structure ExcAt (K : PySem.W.Frag) (mg : Str → Option Value) (x : Str) (C : Addr) : Prop where
  gl : mg x = some (.ref C)
  ok : PySem.W.excIn K C veM "ValueError.__new__" = true
def tRaise (C : Addr) (t : TA) (E : XK) : TS := fun _ σ H => t σ H fun vs H1 => vs.length ≤ sizeLine ∧ E (.ref C) none H1
section
variable {X : Cx} {E : XK} {x : Str} {C : Addr} {np cpos pos : Pos} {e : Expr} {es : List Expr} {t : TA}
end
section
variable {P : Program} {w : World} {K : PySem.W.Frag} {mg : Str → Option Value} {base : Heap} {N : List Str} {qual : Str} {scope : Scope} {f : Addr} {cd : Value} {A : Around} {outer : List Env} {s : Shared} {H : Hp} {E : XK}
end

/-! ### a def that may raise, by its name -/
structure OkR (P : Program) (w : World) (K : PySem.W.Frag) (mg : Str → Option Value) (base : Heap) (n : Nat) (x : Str) (ps : List Str) (sp : Sp) : Prop where
  ex : ∃ f fd, mg x = some (.ref f) ∧ PySem.W.keepIn K (.ref f) = true ∧ Binds K fd ps [] ∧ FnOk P w K mg base (CXr P w) n f fd ps sp
def tDefR (sp : Sp) (E : XK) (t : TA) : TE := fun σ H Q => t σ H fun vs H1 => sp vs H1 Q E
section
variable {P : Program} {w : World} {K : PySem.W.Frag} {mg : Str → Option Value} {base : Heap} {x : Str} {st : Stmt} {N ps : List Str} {k : Nat} {sp : Sp}
end
section
variable {X : Cx} {E : XK} {k n : Nat} {ps : List Str} {sp : Sp} {x : Str} {p pos : Pos} {e : Expr} {es : List Expr} {t : TA}
end

/-! ### caught -/
section
variable {X : Cx} {pins : List (Addr × Obj)} {σ : St} {H : Hp} {s : Shared}
structure Far (X : Cx) (pins : List (Addr × Obj)) (b : Addr) : Prop where
  old : X.s₀.heap.get? b = none
  loc : b ≠ X.env.locals
  cel : ∀ y c, X.env.cells.lookup y = some c → c ≠ b
  pin : ∀ p ∈ X.pn ++ pins, p.1 ≠ b
end

/-! ### a caught exception as a value -/
def ExcIs (x C : Addr) (h : Heap) : Prop := ∃ ox, PySem.W.InstAt h x ox C none
def excO (x C : Addr) : HO := .ext (ExcIs x C)
section
open PySem.W
end
structure PlainX (K : PySem.W.Frag) (C : Addr) : Prop where
  ga : PySem.W.findIn K (.ref C) "__getattribute__" = some (some (.builtin "BaseException.__getattribute__"))
  gt : PySem.W.findIn K (.ref C) "__getattr__" = some none
  mroB : PySem.W.mroIn K C (.type "BaseException") = some true
  cls : (PySem.W.clsIn K C).isSome = true
  fnd : PySem.W.findIn K (.ref C) "__class__" = some (some (.builtin "object.__class__"))
  spc : PySem.W.specialIn K (.builtin "object.__class__") "__get__" = some (some (.builtin "getset_descriptor.__get__"))
  tak : PySem.W.takesIn K (.builtin "object.__class__") = some true
  mro : PySem.W.mroIn K C (.type "object") = some true
def rIsiX (K : PySem.W.Frag) : List V → Hp → VK → Prop := fun xs H Q => ∃ x C c cv b, xs = [.ref x, c] ∧ H x = some (excO x C) ∧ PlainX K C ∧ (c = .ref cv ∧ PySem.W.kitOne K (.ref C) (.ref cv) = some b ∧ Q (.bl b) H)
def rIsiXT (K : PySem.W.Frag) : List V → Hp → VK → Prop := fun xs H Q => ∃ x C T b, xs = [.ref x, .ty T] ∧ H x = some (excO x C) ∧ PlainX K C ∧ PySem.W.kitOne K (.ref C) (.type T) = some b ∧ Q (.bl b) H
/-! ### try: f(..) -/
abbrev TX := St → Hp → VK → XK → Prop
def tCallX (sp : Sp) (t : TA) : TX := fun σ H Q E => t σ H fun vs H1 => sp vs H1 Q E
section
variable {X : Cx} {k n : Nat} {ps : List Str} {sp : Sp} {x : Str} {p pos : Pos} {e : Expr} {es : List Expr} {t : TA}
end
def tTry1 (K : PySem.W.Frag) (B : Addr) (i : Nat) (t : TX) (th : TS) : TS := fun D σ H => t σ H (fun _ H1 => D.nx σ H1) fun cls _ H1 => ∃ C, cls = .ref C ∧ PySem.W.exmOne K (.ref C) (.ref B) = some true ∧
  ∀ x H2, H1 x = none → Same H1 H2 → H2 x = some (excO x C) → th { nx := fun σ' H' => D.nx (σ'.set i none) H', rt := D.rt, bk := fun σ' H' => D.bk (σ'.set i none) H', ct := fun σ' H' => D.ct (σ'.set i none) H' } (σ.set i (some (.ref x))) H2
section
variable {X : Cx} {B : Addr} {i : Nat} {n cx : Str} {e : Expr} {b0 : Stmt} {suite : List Stmt} {ep np hpos pos : Pos} {t : TX} {th : TS}
end
end L2

set_option Elab.async false
set_option linter.all false
set_option maxRecDepth 100000
set_option maxHeartbeats 4000000
/-! our own rules: [elt for x in iter if c], nothing raised inside -/
namespace L2
open PySem PySem.Spec PyProof.Rows
abbrev Cx.comp (X : Cx) (scope : Scope) (cl : List (Str × Addr)) (N : List Str) (C : Addr) (fp : List Addr) (s₀ : Shared) (H₀ : Hp) : Cx :=
  { X with N := N, s₀ := s₀, H₀ := H₀, env := compEnvC scope cl C X.env, outer := X.stack, ex := fp, fn := fun _ => false, pn := [], xe := fun _ _ => False }
structure CompScope (X : Cx) (scope : Scope) (cl : List (Str × Addr)) (N : List Str) (cap : List Nat) : Prop where
  kind : scope.kind = .function
  clos : X.Ok → closureFor scope X.env = pure cl
  ncell : ∀ y ∈ scope.names, y.2 ≠ .cell
  names : ∀ y ∈ scope.names, y.2 = .local → scope.names.lookup y.1 = some .local
  nd : N.Nodup
  has : ∀ y, ((relabel scope X.env).names.lookup y = some .cell ∨ (relabel scope X.env).names.lookup y = some .free) → ∃ c, cl.lookup y = some c
  sub : X.Ok → ∀ y c, cl.lookup y = some c → X.env.cells.lookup y = some c
  len : N.length = cap.length + 1
  cap : ∀ (j i : Nat) (y : Str), N[j + 1]? = some y → cap[j]? = some i → X.N[i]? = some y ∧ Vis X.env.scope y ∧ X.env.kindOf y ≠ some .local ∧ ((relabel scope X.env).names.lookup y = some .cell ∨ (relabel scope X.env).names.lookup y = some .free)
def capOf (σ : St) (cap : List Nat) : St := cap.map fun i => (σ[i]?).join
section
variable {X : Cx} {pins : List (Addr × Obj)} {σ : St} {H : Hp} {s : Shared} {scope : Scope} {cl : List (Str × Addr)} {N : List Str} {cap : List Nat}
end

def PTs (X : Cx) (ifs : List Expr) (t : TT) : Prop :=
  ∀ (pins : List (Addr × Obj)) (s : Shared) (σ : St) (H : Hp) (Q : Bool → Hp → Prop), Inv X pins σ H s → t σ H Q →
    wpAny (model X.prog X.w) X.A (forIn ifs true fun c r => if r = true then do let ok ← isTrue c X.env (eval c X.env); pure (ForInStep.yield ok) else pure (ForInStep.yield r)) (TP X pins σ Q) X.xe s
def tYes : TT := fun _ H Q => Q true H
theorem pts_nil {X : Cx} : PTs X [] tYes := fun _ _ _ H _ I h => wpAny_tests_nil ⟨H, I, h⟩
theorem pts_one {X : Cx} {c : Expr} {t : TT} (h : PT X c t) : PTs X [c] t := fun pins s σ H Q I q => wpAny_tests_one (h pins s σ H Q I q)
section
variable {X : Cx} {scope : Scope} {cl : List (Str × Addr)} {N : List Str} {cap : List Nat} {x : Str} {px pos : Pos} {iter elt : Expr} {ifs : List Expr} {wi : TI} {tc : TT} {te : TE}
end
end L2

set_option Elab.async false
set_option linter.all false
set_option maxRecDepth 100000
set_option maxHeartbeats 4000000
/-! our own rules: texts -/
namespace L2
open PySem PySem.Spec PyProof.Rows
/-! ### all([..]) of bools -/
def rAll : List V → Hp → VK → Prop := fun xs H Q => ∃ (p : Addr) (bs : List Bool), xs = [.ref p] ∧ H p = some (.lst (bs.map V.bl)) ∧ Q (.bl (bs.all id)) H
/-! ### int(text) -/
/-! ### a comprehension that only reads: what it gives -/
structure Over (J : It) (xs : List V) (ok : Hp → Prop) : Prop where
  go : ∀ i H, ok H → i < xs.length → J.go i H
  stop : ∀ i H, ok H → xs.length ≤ i → J.stop i H
  yld : ∀ i H x H', ok H → i < xs.length → J.yld i H x H' → H' = H ∧ xs[i]? = some x
theorem over_list {K : PySem.W.Frag} {a : Addr} {xs : List V} : Over (Itl K a) xs (fun H => H a = some (.lst xs)) where
  go := fun i H e h => ⟨xs, xs[i], SqL.of e, List.getElem?_eq_getElem h⟩
  stop := fun i H e h => ⟨xs, SqL.of e, h⟩
  yld := fun i H v H' e h y => ⟨y.1, y.2 xs (SqL.of e)⟩
/-! ### a comprehension that captures nothing -/
theorem lookup_mem {names : List (Str × NameKind)} {y : Str} {k : NameKind} (h : names.lookup y = some k) : (y, k) ∈ names := PySem.mem_of_lookup h
/-! ### f-strings of texts and ints -/
def tFmt (te : TE) : TE := fun σ H Q => te σ H fun v H1 => (∃ x, v = .str x ∧ x.length ≤ sizeLine ∧ Q (.str x) H1) ∨ ∃ i : Int, v = .int i ∧ i.natAbs.log2 < 1920 ∧ Q (.str (toString i)) H1
abbrev TJ := Str → St → Hp → (Str → Hp → Prop) → Prop
def jNil : TJ := fun out _ H Q => out.length ≤ sizeLine ∧ Q out H
def jCons (te : TE) (t : TJ) : TJ := fun out σ H Q => te σ H fun v H1 => ∃ x, v = .str x ∧ (out ++ x).length ≤ sizeLine ∧ t (out ++ x) σ H1 Q
def tJoin (t : TJ) : TE := fun σ H Q => t Str.empty σ H fun x H1 => Q (.str x) H1
end L2

set_option Elab.async false
set_option linter.all false
set_option maxRecDepth 100000
set_option maxHeartbeats 4000000
/-! our own rules: methods and slices of texts, a module's tuple -/
namespace L2
open PySem PySem.Spec PyProof.Rows
section
variable {X : Cx}
def rStarts : V → List V → Hp → VK → Prop := fun x vs H Q => ∃ a b, x = .str a ∧ vs = [.str b] ∧ Q (.bl (PySem.Txt.startswith a b)) H
def rMulS : R2 := fun x y H Q => ∃ a n, x = .str a ∧ y = .int n ∧ MulOk a n ∧ Q (.str (PySem.Txt.mul a n)) H
def rSlS : V → Option Int → Option Int → Hp → VK → Prop := fun x lo hi H Q => ∃ a, x = .str a ∧ a.length ≤ sizeLine ∧ Q (.str (PySem.Txt.slice a lo hi)) H
def rJoinS : V → List V → Hp → VK → Prop := fun x vs H Q => ∃ a l ys, x = .str a ∧ vs = [.ref l] ∧ H l = some (.lst (ys.map V.str)) ∧ JoinOk a ys = true ∧ Q (.str (PySem.Txt.join a ys)) H
def rInK (K : PySem.W.Frag) (neg : Bool) : R2 := fun x y H Q => ∃ p xs, y = .ref p ∧ (∀ H, SqT K H p xs) ∧ flatV x = true ∧ xs.all flatV = true ∧ Q (.bl (if neg then !inV x xs else inV x xs)) H
end
/-! ### comprehensions that only read, whole -/
/-! ### heap-abstract: + of lists, xs[i] = v -/
def rCatG : R2 := fun x y H Q => ∃ l b xs zs, x = .ref l ∧ y = .ref b ∧ H l = some (.lst xs) ∧ H b = some (.lst zs) ∧ xs.length + zs.length ≤ sizeLine ∧ ∀ p H', H p = none → Same H H' → H' p = some (.lst (xs ++ zs)) → Q (.ref p) H'
theorem op_catG {X : Cx} : OpR X (binaryOp .Add) rCatG := by
  intro pins s σ H x y v u Q I rx ry h
  obtain ⟨l, b, xs, zs, e1, e2, h1, h2, hz, q⟩ := h
  exact op_cat pins s σ H x y v u Q I rx ry ⟨l, b, xs, zs, e1, e2, h1, h2, hz, fresh_any q⟩
def rSetG : V → V → V → Hp → (Hp → Prop) → Prop := fun o i v H Q => ∃ p xs k j, o = .ref p ∧ i = .int k ∧ H p = some (.lst xs) ∧ ixN xs.length k = some j ∧ ∀ H', Mu H p (.lst (xs.set j v)) H' → Q H'
theorem set_listG {X : Cx} : PSet X rSetG := by
  intro pins s σ H o i v ov iv u Q I ro ri rv h
  obtain ⟨p, xs, k, j, e1, e2, h1, h2, q⟩ := h
  exact set_list pins s σ H o i v ov iv u Q I ro ri rv ⟨p, xs, k, j, e1, e2, h1, h2, q _ .mk'⟩
/-! ### a loop over anything whose items are known -/
/-! ### the state behind a statement, named -/
def tMs (t : TS) : TS := fun D σ H => ∃ Z : St → Hp → Prop, t { D with nx := Z } σ H ∧ ∀ σ' H', Z σ' H' → D.nx σ' H'
theorem ps_up {X : Cx} {st : Stmt} {t : TS} (h : PS X st t) : PS X st (tMs t) := by
  intro pins s σ H D I hq
  obtain ⟨Z, h1, h2⟩ := hq
  refine thn (h pins s σ H _ I h1) fun fl s' hs => ?_
  cases fl with
  | next => obtain ⟨σ', H', I', q⟩ := hs; exact ⟨σ', H', I', h2 _ _ q⟩
  | _ => exact hs
end L2

set_option Elab.async false
set_option linter.all false
set_option maxRecDepth 100000
set_option maxHeartbeats 4000000
/-! our own rules: enumerate, comprehensions that capture names -/
namespace L2
open PySem PySem.Spec PyProof.Rows
section
variable {X : Cx} {pins : List (Addr × Obj)} {σ : St} {H : Hp} {s : Shared} {h' : Heap}
theorem Inv.turnedL {t' : Nat} {ch : List Addr} (I : Inv X pins σ H s) (k : ∀ b o, b ∉ ch → s.heap.get? b = some o → h'.get? b = some o) (hf : ∀ b ∈ ch, FpOk X pins H b) : Inv X pins σ H { s with heap := h', toks := t' } := by
  have nit : ∀ b u, H b = some u → b ∉ ch := fun b u e z => by rw [(hf b z).1] at e; cases e
  refine I.step (g' := s.gens) (d' := s.drawn) (ch := ch) (fun b hb => ?_) (fun b o _ _ hc e _ => k b o hc e) (fun b o _ _ hc e _ => ⟨o.slots, k b o hc e⟩) (fun _ _ _ _ n => n)
    (fun b o hc e => ⟨o, k b o hc e⟩) (fun _ _ e => e) (fun _ _ _ e => e) (fun b ps e => ⟨#[], by rw [e]; simp⟩) (fun m hm => ?_) (fun b u e => ?_) I.bare
  · obtain ⟨_, f1, _, f3, f4, f5⟩ := hf b hb
    exact ⟨f3, f1, f4, f5⟩
  · obtain ⟨o, es, ep, ho, r⟩ := hm
    exact ⟨o, es, ep, k _ o (fun z => (hf _ z).2.1 rfl) ho, r⟩
  · refine (I.hok b u e).stay (fun c v hc q => k c v ?_ q) (fun _ q => q) fun _ _ q => q
    rcases hc with z | z
    · rw [z]; exact nit b u e
    · exact nit c _ z
end
/-! ### enumerate of a list -/
/-! ### a comprehension's items, by a relation -/
inductive F2 (R : V → V → Prop) : List V → List V → Prop
  | nil : F2 R [] []
  | cons {x v : V} {xs vs : List V} : R x v → F2 R xs vs → F2 R (x :: xs) (v :: vs)
/-! ### the scope of a comprehension that captures names -/
theorem forIn_yield_fold {α β : Type} {f : α → β → Sem (ForInStep β)} (g : α → β → β) : ∀ (l : List α) (b : β), (∀ x ∈ l, ∀ b, f x b = pure (.yield (g x b))) → forIn l b f = pure (l.foldl (fun b x => g x b) b)
  | [], b, _ => by rw [List.forIn_nil]; rfl
  | x :: l, b, h => by
    rw [List.forIn_cons, h x List.mem_cons_self b, pure_bind]
    exact forIn_yield_fold g l (g x b) fun y hy => h y (List.mem_cons_of_mem _ hy)
def capG (env : Env) (x : Str × NameKind) (r : List (Str × Addr)) : List (Str × Addr) := if x.2 == .free then (x.1, (env.cells.lookup x.1).getD 0) :: r else r
def clOf (env : Env) (scope : Scope) : List (Str × Addr) := scope.names.foldl (fun r x => capG env x r) []
theorem closure_of {scope : Scope} {env : Env} (h : ∀ y ∈ scope.names, y.2 = .free → ∃ c, env.cells.lookup y.1 = some c) : closureFor scope env = pure (clOf env scope) := by
  simp only [closureFor]
  rw [forIn_yield_fold (capG env) scope.names [] (fun x hx b => by
    obtain ⟨n, k⟩ := x
    cases hk : (k == NameKind.free) with
    | false => simp [capG, hk]
    | true =>
      have e : k = .free := by simpa using hk
      obtain ⟨c, hc⟩ := h _ hx e
      have hc' : env.cells.lookup n = some c := hc
      simp [capG, hk, cellOf, hc'])]
  rfl
theorem cl_sub {env : Env} : ∀ (names : List (Str × NameKind)) (acc : List (Str × Addr)), (∀ y ∈ names, y.2 = .free → ∃ c, env.cells.lookup y.1 = some c) → (∀ y c, acc.lookup y = some c → env.cells.lookup y = some c) →
    ∀ y c, (names.foldl (fun r x => capG env x r) acc).lookup y = some c → env.cells.lookup y = some c
  | [], acc, _, ha, y, c, e => ha y c e
  | (n, k) :: names, acc, h, ha, y, c, e => by
    refine cl_sub names (capG env (n, k) acc) (fun z hz => h z (List.mem_cons_of_mem _ hz)) (fun z d ez => ?_) y c e
    unfold capG at ez
    split at ez
    · rename_i hk
      have hk' : k = .free := by simpa using hk
      obtain ⟨c', hc'⟩ := h _ List.mem_cons_self hk'
      have hc' : env.cells.lookup n = some c' := hc'
      rw [List.lookup_cons] at ez
      split at ez
      · rename_i hzn
        have : z = n := by simpa using hzn
        subst this
        rw [hc'] at ez ⊢
        exact ez
      · exact ha z d ez
    · exact ha z d ez
theorem cl_has {env : Env} : ∀ (names : List (Str × NameKind)) (acc : List (Str × Addr)) (y : Str), ((y, NameKind.free) ∈ names ∨ (acc.lookup y).isSome) → ((names.foldl (fun r x => capG env x r) acc).lookup y).isSome
  | [], acc, y, h => h.elim (fun z => absurd z List.not_mem_nil) id
  | (n, k) :: names, acc, y, h => by
    refine cl_has names (capG env (n, k) acc) y ?_
    rcases h with h | h
    · rcases List.mem_cons.mp h with h | h
      · obtain ⟨rfl, rfl⟩ := Prod.mk.inj h
        right
        simp [capG]
      · exact .inl h
    · right
      unfold capG
      split
      · rw [List.lookup_cons]
        split
        · rfl
        · exact h
      · exact h
theorem lookup_relabel_free {env : Env} : ∀ {names : List (Str × NameKind)} {x : Str}, names.lookup x = some .free →
    (names.map fun (n, k) => if (k == NameKind.free && env.scope.kind == .function && env.kindOf n == some .cell) then (n, NameKind.cell) else (n, k)).lookup x = some .cell ∨
    (names.map fun (n, k) => if (k == NameKind.free && env.scope.kind == .function && env.kindOf n == some .cell) then (n, NameKind.cell) else (n, k)).lookup x = some .free
  | [], _, h => by simp at h
  | (n, k) :: r, x, h => by
    have ih := @lookup_relabel_free env r x
    rw [List.lookup_cons] at h
    rw [List.map_cons]
    cases hx : x == n with
    | true =>
      rw [hx] at h
      have hk : k = .free := by simpa using h
      subst hk
      dsimp only
      split
      · left; rw [List.lookup_cons, hx]
      · right; rw [List.lookup_cons, hx]
    | false =>
      rw [hx] at h
      dsimp only
      split
      · rw [List.lookup_cons, hx]; exact ih h
      · rw [List.lookup_cons, hx]; exact ih h
/-! ### str(x) of a text or an int; try .. except C: -/
def tTry0 (K : PySem.W.Frag) (B : Addr) (t : TX) (th : TS) : TS := fun D σ H => t σ H (fun _ H1 => D.nx σ H1) fun cls _ H1 => ∃ C, cls = .ref C ∧ PySem.W.exmOne K (.ref C) (.ref B) = some true ∧ th D σ H1
section
variable {X : Cx} {B : Addr} {cx : Str} {e : Expr} {b0 : Stmt} {suite : List Stmt} {ep np hpos pos : Pos} {t : TX} {th : TS}
end
/-! ### a loop, its iterable read first -/
def ForJ (J : It) (g : TG) (tb : TS) (D : Ends) (σ : St) (H1 : Hp) : Prop := ∃ W : Nat → Nat → St → Hp → Prop, (∃ m, W 0 m σ H1) ∧ ∀ i m σ H, W i m σ H →
  (J.stop i H ∧ D.nx σ H) ∨ (J.go i H ∧ ∃ N : St → Hp → Prop, (∀ σ' H', N σ' H' → ∃ m', m' < m ∧ W (i + 1) m' σ' H') ∧ ∀ x H', J.yld i H x H' → g x σ H' fun σ2 H2 => tb { D with nx := N, ct := N, bk := D.nx } σ2 H2)
theorem tfor_in {wi : TI} {g : TG} {tb : TS} {D : Ends} {σ : St} {H : Hp} (h : wi σ H fun J H1 => ForJ J g tb D σ H1) : tFor wi g tb D σ H := h
end L2

set_option Elab.async false
set_option linter.all false
set_option maxRecDepth 100000
set_option maxHeartbeats 4000000
/-! our own rules: for k in d (d a tracked dict), list.pop, list * int, over the abstract heap -/
namespace L2
open PySem PySem.Spec PyProof.Rows
section
variable {X : Cx} {pins : List (Addr × Obj)} {σ : St} {H : Hp} {s : Shared}
def NoFz (X : Cx) (d : Addr) : Prop := ∀ o u, X.H₀ d ≠ some (.frz o u)
theorem Inv.retag {d : Addr} {u u' : HO} (I : Inv X pins σ H s) (hd : H d = some u) (n1 : ∀ xs, u ≠ .tup xs) (n2 : NoFz X d) (n3 : ∀ ps, u ≠ .tbl ps) (n4 : ∀ x, u ≠ .own x) (new : ObjOk X.prog X.w (upd H d u') s.heap d u') : Inv X pins σ (upd H d u') s := by
  have ne : ∀ {b : Addr}, H b = none → b ≠ d := fun h z => by rw [z, hd] at h; cases h
  have sub : ∀ {b : Addr}, H b = none → upd H d u' b = none := fun {b} h => by rw [upd_ne (ne h)]; exact h
  have bs := I.base
  refine ⟨I.ok, I.os, I.bare, ⟨bs.keep, bs.slot, fun b o e n hx => sub (bs.free b o e n hx), bs.there, fun b xs e => ?_, fun b o v e => ?_, fun b ps e => ?_⟩, I.loc, I.cell, sub I.free, fun x c e => sub (I.freeC x c e), fun p hp => ?_, fun a v e => ?_, I.len⟩
  · have := bs.tups b xs e
    have nb : b ≠ d := fun z => by rw [z, hd] at this; exact n1 xs (Option.some.inj this)
    rw [upd_ne nb]; exact this
  · have nb : b ≠ d := fun z => n2 o v (by rw [← z]; exact e)
    rw [upd_ne nb]; exact bs.frzs b o v e
  · obtain ⟨more, h1⟩ := bs.tbls b ps e
    have nb : b ≠ d := fun z => by rw [z, hd] at h1; exact n3 _ (Option.some.inj h1)
    exact ⟨more, by rw [upd_ne nb]; exact h1⟩
  · obtain ⟨p1, p2, p3, p4, p5⟩ := I.pin p hp
    exact ⟨p1, sub p2, p3, p4, p5⟩
  · by_cases ha : a = d
    · subst ha
      rw [upd_same] at e
      cases e
      exact new
    · rw [upd_ne ha] at e
      refine (I.hok a v e).stay (fun _ _ _ q => q) (fun b q => ?_) fun b xs q => ?_
      · have nb : b ≠ d := fun z => by rw [z, hd] at q; exact n4 _ (Option.some.inj q)
        rw [upd_ne nb]; exact q
      · have nb : b ≠ d := fun z => by rw [z, hd] at q; exact n1 _ (Option.some.inj q)
        rw [upd_ne nb]; exact q
theorem Inv.nofz {d : Addr} {kvs : List (Key × V)} (I : Inv X pins σ H s) (hd : H d = some (.dK kvs)) : NoFz X d := fun o u e => by
  have := I.base.frzs d o u e
  rw [hd] at this; cases this
end
/-! ### for k in d -/
def Itk (d : Addr) (o : Obj) (kvs : List (Key × V)) : It :=
  ⟨fun i H => i < kvs.length ∧ H d = some (.frz o (.dK kvs)), fun i H x H' => H' = H ∧ ∃ k v, kvs[i]? = some (k, v) ∧ x = kV k, fun i H => kvs.length ≤ i ∧ H d = some (.frz o (.dK kvs))⟩
theorem relV_key {k : Key} {v : Value} (h : keyIs k v = true) : RelV (kV k) v := by
  rcases keyIs_shape h with ⟨i, t, rfl, rfl⟩ | ⟨x, t, rfl, rfl⟩
  · exact ⟨t, rfl⟩
  · exact ⟨t, rfl⟩
def iKeys (nf : Addr → Prop) (tl : TE) : TI := fun σ H R => tl σ H fun x H1 => ∃ d kvs, x = .ref d ∧ H1 d = some (.dK kvs) ∧ ∀ o, nf d → R (Itk d o kvs) (upd H1 d (.frz o (.dK kvs)))
def tForK (nf : Addr → Prop) (tl : TE) (g : TG) (tb : TS) : TS := fun D => tFor (iKeys nf tl) g tb { D with nx := fun σ' H' => ∃ d o kvs, nf d ∧ H' d = some (.frz o (.dK kvs)) ∧ D.nx σ' (upd H' d (.dK kvs)) }
def tDGetR (td ty : TE) : TE := fun σ H Q => td σ H fun x H1 => ty σ H1 fun y H2 => ∃ a kvs k v, x = .ref a ∧ Rd H2 a (.dK kvs) ∧ keyOf y = some k ∧ valV kvs k = some v ∧ Q v H2
/-! ### pop, and a list taken n times -/
section
variable {X : Cx}
def rPopG : V → List V → Hp → VK → Prop := fun x vs H Q => ∃ l xs y, x = .ref l ∧ vs = [] ∧ H l = some (.lst (xs ++ [y])) ∧ ∀ H', Mu H l (.lst xs) H' → Q y H'
def rRepG : R2 := fun x y H Q => ∃ l k xs, x = .ref l ∧ y = .int k ∧ H l = some (.lst xs) ∧ -(2 ^ 63) ≤ k ∧ k < 2 ^ 63 ∧ xs.length * k.toNat ≤ sizeLine ∧ ∀ p H', H p = none → Same H H' → H' p = some (.lst (List.replicate k.toNat xs).flatten) → Q (.ref p) H'
theorem op_repG : OpR X (binaryOp .Mult) rRepG := by
  intro pins s σ H x y v u Q I rx ry h
  obtain ⟨l, k, xs, e1, e2, h1, h2, h3, h4, q⟩ := h
  exact op_rep pins s σ H x y v u Q I rx ry ⟨l, k, xs, e1, e2, h1, h2, h3, h4, fresh_any q⟩
end
/-! ### a list unpacked -/
section
variable {prog : Program} {w : World} {A : Around} {E : Value → Shared → Prop} {s : Shared}
end
def gLstG (n : Nat) (t : TGs) : TG := fun v σ H Q => ∃ a xs, v = .ref a ∧ H a = some (.lst xs) ∧ xs.length = n ∧ t xs σ H Q
end L2

set_option Elab.async false
set_option linter.all false
set_option maxRecDepth 100000
set_option maxHeartbeats 4000000
/-! our own rules: sum, sorted, list.insert, dict.pop, list(..), comprehensions with any target, over the abstract heap -/
namespace L2
open PySem PySem.Spec PyProof.Rows
def rSum : List V → Hp → VK → Prop := fun xs H Q => ∃ (p : Addr) (ns : List Int), xs = [.ref p] ∧ H p = some (.lst (ns.map V.int)) ∧ Q (.int ns.sum) H
def rSort : List V → Hp → VK → Prop := fun xs H Q => ∃ (p : Addr) (ns : List Int), xs = [.ref p] ∧ (H p = some (.lst (ns.map V.int)) ∨ ∃ kvs : List (Key × V), H p = some (.dK kvs) ∧ kvs.map (·.1) = ns.map Sum.inl) ∧ ns.length < 64 ∧
  ∀ D H' ms, H D = none → Same H H' → H' D = some (.lst (ms.map V.int)) → List.Perm ms ns → List.Pairwise (fun x y => x ≤ y) ms → Q (.ref D) H'
/-! ### list(..), list.insert, dict.pop -/
def rListG (K : PySem.W.Frag) : List V → Hp → VK → Prop := fun xs H Q => ∃ p ys, xs = [.ref p] ∧ (H p = some (.lst ys) ∨ H p = some (.tup ys)) ∧ ∀ l H', H l = none → Same H H' → H' l = some (.lst ys) → Q (.ref l) H'
theorem call_listG {X : Cx} : CallR X (.type "list") (rListG X.K) := by
  intro pins s σ H xs us Q I r h
  obtain ⟨p, ys, e, hp, q⟩ := h
  exact call_list_of pins s σ H xs us Q I r ⟨p, ys, e, hp.elim (fun h => .inl (SqL.of h)) (fun h => .inr (.inl (.inl h))), fresh_any q⟩
def insL (xs : List V) (k : Nat) (y : V) : List V := xs.take k ++ y :: xs.drop k
def rInsG : V → List V → Hp → VK → Prop := fun x vs H Q => ∃ l xs k y, x = .ref l ∧ vs = [.int k, y] ∧ H l = some (.lst xs) ∧ 0 ≤ k ∧ k ≤ xs.length ∧ xs.length < 1000 ∧ ∀ H', Mu H l (.lst (insL xs k.toNat y)) H' → Q .non H'
def tDPopG (td ty : TE) : TE := fun σ H Q => td σ H fun x H1 => ∃ a, x = .ref a ∧ (∃ kvs, H1 a = some (.dK kvs)) ∧ ty σ H1 fun y H2 => ∃ kvs k v, H2 a = some (.dK kvs) ∧ keyOf y = some k ∧ valV kvs k = some v ∧ ∀ H', Mu H2 a (.dK (dropK kvs k)) H' → Q v H'
/-! ### comprehensions with any target -/
section
variable {prog : Program} {w : World} {A : Around} {s : Shared}
theorem cl_loop {elt target iter : PySem.Expr} {ifs : List PySem.Expr} {scope : Scope} {pos : Pos} {it acc : Value} {env : Env} {R : Result → Shared → Prop} (I : Nat → Shared → Prop)
    (turn : ∀ n s, I n s → wpAny (model prog w) A (pyNext it) (fun r s₁ => match r with
      | none => R (.ok .next) s₁
      | some v => wpAny (model prog w) A (letOwnedTupleGo target it v) (fun _ s₀ => wpAny (model prog w) A (assign target env v) (fun _ s₂ =>
          wpAny (model prog w) A (forIn ifs true fun c r => if r = true then do let ok ← isTrue c env (eval c env); pure (ForInStep.yield ok) else pure (ForInStep.yield r)) (fun ok s₃ => if ok = true then wpAny (model prog w) A (eval elt env) (fun x s₄ =>
            wpAny (model prog w) A (call (.builtin "list.append") [acc, x]) (fun _ s₅ => ∃ m, m < n ∧ I m s₅) (notedBy (model prog w) A env fun e s' => R (.error e) s') s₄) (notedBy (model prog w) A env fun e s' => R (.error e) s') s₃
            else ∃ m, m < n ∧ I m s₃) (notedBy (model prog w) A env fun e s' => R (.error e) s') s₂)
          (notedBy (model prog w) A env fun e s' => R (.error e) s') s₀) (notedBy (model prog w) A env fun e s' => R (.error e) s') s₁) (notedBy (model prog w) A env fun e s' => R (.error e) s') s)
    (n : Nat) (h : I n s) : codeAny (model prog w) A (.compLoop (.ListComp elt [⟨target, iter, ifs, 0⟩] scope pos) 0 it acc env) R s := by
  refine codeAny_loop rfl I (fun n s hI => ?_) n h
  refine (show wpAny _ A ((compTurn (.ListComp elt [⟨target, iter, ifs, 0⟩] scope pos) 0 it acc env).onRaise _) _ _ s from wpAny_noted ?_)
  rw [compTurn_list]
  refine wpAny_bind (wpAny_standAt (wpAny_bind (wpAny_mono (turn n s hI) (fun r s1 q1 => ?_) fun _ _ z => z)))
  cases r with
  | none => exact wpAny_pure q1
  | some v =>
    refine wpAny_bind (wpAny_mono q1 (fun _ s2 q2 => wpAny_bind (wpAny_mono q2 (fun _ s3 q3 => wpAny_bind (wpAny_mono q3 (fun b s4 q4 => ?_) fun _ _ z => z)) fun _ _ z => z)) fun _ _ z => z)
    cases b with
    | false => exact wpAny_pure ⟨rfl, q4⟩
    | true => exact wpAny_bind (wpAny_bind (wpAny_mono q4 (fun x s5 q5 => wpAny_bind (wpAny_mono q5 (fun _ s6 q6 => wpAny_pure (wpAny_pure ⟨rfl, q6⟩)) fun _ _ z => z)) fun _ _ z => z))
end
structure CompScopeN (X : Cx) (scope : Scope) (cl : List (Str × Addr)) (N : List Str) (cap : List Nat) (k : Nat) : Prop where
  kind : scope.kind = .function
  clos : X.Ok → closureFor scope X.env = pure cl
  ncell : ∀ y ∈ scope.names, y.2 ≠ .cell
  names : ∀ y ∈ scope.names, y.2 = .local → scope.names.lookup y.1 = some .local
  nd : N.Nodup
  has : ∀ y, ((relabel scope X.env).names.lookup y = some .cell ∨ (relabel scope X.env).names.lookup y = some .free) → ∃ c, cl.lookup y = some c
  sub : X.Ok → ∀ y c, cl.lookup y = some c → X.env.cells.lookup y = some c
  len : N.length = cap.length + k
  cap : ∀ (j i : Nat) (y : Str), N[j + k]? = some y → cap[j]? = some i → X.N[i]? = some y ∧ Vis X.env.scope y ∧ X.env.kindOf y ≠ some .local ∧ ((relabel scope X.env).names.lookup y = some .cell ∨ (relabel scope X.env).names.lookup y = some .free)
def frameN (k : Nat) (σ : St) (cap : List Nat) : St := List.replicate k none ++ capOf σ cap
def tCompN (k : Nat) (cap : List Nat) (wi : TI) (g : TG) (tc : TT) (te : TE) : TE := fun σ H Q => wi σ H fun J H1 => ∀ D, H1 D = none → ∃ W : Nat → Nat → St → Hp → Prop, (∃ m, W 0 m (frameN k σ cap) (upd H1 D (.lst []))) ∧ ∀ i m σ1 H, W i m σ1 H →
  (J.stop i H ∧ Q (.ref D) H) ∨ (J.go i H ∧ ∀ x H', J.yld i H x H' → g x σ1 H' fun σ2 H1 => tc σ2 H1 fun b H2 => if b = true then te σ2 H2 fun v H3 => ∃ ys, H3 D = some (.lst ys) ∧ ys.length < sizeLine ∧ ∃ m', m' < m ∧ W (i + 1) m' σ2 (upd H3 D (.lst (ys ++ [v])))
    else ∃ m', m' < m ∧ W (i + 1) m' σ2 H2)
section
variable {X : Cx} {pins : List (Addr × Obj)} {σ : St} {H : Hp} {s : Shared} {scope : Scope} {cl : List (Str × Addr)} {N : List Str} {cap : List Nat} {k : Nat}
theorem Inv.enterN {fp : List Addr} {h' : Heap} {tk : Nat} (S : CompScopeN X scope cl N cap k) (I : Inv X pins σ H s) (f : ∀ b ∈ fp, FpOk X pins H b ∧ b < s.heap.objs.size) (hn : h'.Ns s.heap.objs.size fun _ => none)
    (kp : ∀ b o, s.heap.get? b = some o → h'.get? b = some o) : Inv (X.comp scope cl N s.heap.objs.size fp s H) [] (frameN k σ cap) H { s with heap := h', toks := tk } := by
  have nC : ∀ b o, s.heap.get? b = some o → b ≠ s.heap.objs.size := fun b o e => Nat.ne_of_lt (Heap.lt_size e)
  have ok := I.ok
  have cellOut : ∀ y c, cl.lookup y = some c → ∃ v, s.heap.IsCell c v := fun y c e => I.cell y c (S.sub I.ok y c e)
  refine ⟨⟨ok.mod, ?_, ok.glob, ok.blt, Nat.le_refl _, fun x y c a b => ok.inj x y c (S.sub I.ok x c a) (S.sub I.ok y c b), S.has, fun _ _ z => absurd z Bool.false_ne_true, ok.hd, ok.frames, .inl rfl, fun b hb => ⟨Nat.ne_of_lt (f b hb).2, fun y c e => (f b hb).1.2.2.2.2.1 y c (S.sub I.ok y c e)⟩, I.bs, Nat.le_trans ok.bsz I.sz, fun b o e hb => ?_, fun b hb z => ?_, I.stack, I.stkFree⟩,
    rfl, I.bare, Un.kept kp, ⟨_, hn, fun i y v a b c => ?_⟩, fun y c e => ?_, I.hok.fresh (Nat.le_refl _), fun y c e => I.freeC y c (S.sub I.ok y c e), fun p hp => by simp at hp, I.hok.kept kp, ?_⟩
  · exact S.kind
  · have := (f b hb).1.2.2.2.1
    rcases this with z | z
    · exact ok.noex b o e z
    · have l1 := Heap.lt_size e
      exact absurd (Nat.lt_of_lt_of_le l1 (Nat.le_trans ok.bsz z)) (Nat.lt_irrefl _)
  · rcases List.mem_cons.mp (I.stkSub b z) with q | q
    · exact (f b hb).1.2.1 q
    · exact (f b hb).1.2.2.1 q
  · unfold frameN at b
    by_cases hik : i < k
    · rw [List.getElem?_append_left (by rw [List.length_replicate]; exact hik)] at b
      simp [hik] at b
    · obtain ⟨j, rfl⟩ : ∃ j, i = j + k := ⟨i - k, by omega⟩
      rw [List.getElem?_append_right (by rw [List.length_replicate]; omega), List.length_replicate, Nat.add_sub_cancel] at b
      unfold capOf at b
      rw [List.getElem?_map] at b
      cases e : cap[j]? with
      | none => rw [e] at b; cases b
      | some i =>
        rw [e] at b
        have b : (σ[i]?).join = some v := by simpa using b
        obtain ⟨p1, p2, p3, p4⟩ := S.cap j i y a e
        have b' : σ[i]? = some (some v) := by
          cases q : σ[i]? with
          | none => rw [q] at b; cases b
          | some w => rw [q] at b; exact congrArg some b
        obtain ⟨m, hm, hl⟩ := I.loc
        obtain ⟨u, ru, l⟩ := hl i y v p1 b' p2
        refine ⟨u, ru, .inr ⟨p4, ?_⟩⟩
        rcases l with l | ⟨l, c0, e0, o', q', hd'⟩
        · exact absurd l.1 p3
        · obtain ⟨c, ec⟩ := S.has y p4
          have := S.sub I.ok y c ec
          rw [e0] at this
          cases this
          exact ⟨c0, ec, o', kp _ _ q', hd'⟩
  · obtain ⟨v, o, q, hd⟩ := cellOut y c e
    exact ⟨v, o, kp _ _ q, hd⟩
  · show (frameN k σ cap).length = N.length
    unfold frameN capOf
    rw [S.len, List.length_append, List.length_replicate, List.length_map]
    omega
end

section
variable {X : Cx} {scope : Scope} {cl : List (Str × Addr)} {N : List Str} {cap : List Nat} {k : Nat} {tg : Expr} {g : TG} {pos : Pos} {iter elt : Expr} {ifs : List Expr} {wi : TI} {tc : TT} {te : TE}
theorem comp_coreN {use : Option (Value → Sem Unit)} {Qv : Value → Shared → Prop} {pins : List (Addr × Obj)} {s : Shared} {σ : St} {H : Hp} {Q : VK} {pos' : Pos} (S : CompScopeN X scope cl N cap k) (hc : X.calm = true) (hi : PI X tg iter wi) (hg : ∀ C fp s₀ H₀, PG (X.comp scope cl N C fp s₀ H₀) tg g)
    (ht : ∀ C fp s₀ H₀, PTs (X.comp scope cl N C fp s₀ H₀) ifs tc) (he : ∀ C fp s₀ H₀, PE (X.comp scope cl N C fp s₀ H₀) elt te) (hs : ∀ x, foldedSetIterable iter X.env x = pure x)
    (I : Inv X pins σ H s) (h : tCompN k cap wi g tc te σ H Q)
    (fin : ∀ (D C : Addr) (H6 : Hp) (s6 : Shared) (m : Str → Option Value), Inv X pins σ H6 s6 → FpOk X pins H6 C → s6.heap.Ns C m → Q (.ref D) H6 → compPost (model X.prog X.w) X.A X.xe use Qv (.ref D) C (.ok .next) s6) :
    wpAny (model X.prog X.w) X.A (comprehension (.ListComp elt [⟨tg, iter, ifs, 0⟩] scope pos) scope X.env pos' (newList []) false (eval iter X.env) use) Qv X.xe s := by
  refine wpAny_comprehension_free (use := use) rfl hs (S.clos I.ok) S.kind S.names (thn (hi pins s σ H _ I h) fun v s1 h1 => thn h1 fun itv s2 h2 => ?_)
  obtain ⟨it, fp, tn, J, H2, rfl, I2, T, st2, f2, q⟩ := h2
  obtain ⟨W, ⟨m0, w0⟩, turn⟩ := q s2.heap.objs.size (I2.hok.fresh (Nat.le_refl _))
  have I3 : Inv X pins σ (upd H2 s2.heap.objs.size (.lst [])) { s2 with heap := s2.heap.push { cls := .type "list", dict := none, data := .seq ([] : List Value).toArray } } :=
    I2.laid (t' := s2.toks) (fun b u e => Heap.get?_push_of_some _ e) (Nat.le_refl _) ⟨Nat.zero_le _, [], 0, .nil, Heap.get?_push_size _ rfl⟩
  refine wpAny_newObj_type (wpAny_newFunctionEnv S.ncell (by intro y hy; simp at hy) (fun h4 hns hsb => ?_) S.kind)
  generalize hs3 : ({ s2 with heap := s2.heap.push { cls := .type "list", dict := none, data := .seq ([] : List Value).toArray } } : Shared) = s3 at I3 hns hsb ⊢
  have f3 : ∀ b ∈ fp, FpOk X pins (upd H2 s2.heap.objs.size (.lst [])) b ∧ b < s3.heap.objs.size := fun b hb => by
    obtain ⟨o, ho, _⟩ := T.obj _ _ st2 b hb
    have l1 : b < s2.heap.objs.size := Heap.lt_size ho
    refine ⟨⟨?_, (f2 b hb).2⟩, ?_⟩
    · rw [upd_ne (Nat.ne_of_lt l1)]; exact (f2 b hb).1
    · rw [← hs3, Heap.size_push]; exact Nat.lt_succ_of_lt l1
  have nsN : h4.Ns s3.heap.objs.size fun _ => none := by
    have := hns
    simpa using this
  have keep4 : ∀ b o, s3.heap.get? b = some o → h4.get? b = some o := fun b o e => (hsb.2 b (Nat.ne_of_lt (Heap.lt_size e))).trans (Heap.get?_push_of_some _ e)
  have Ic := I3.enterN (tk := s3.toks + ([] : List (Str × Value)).length) S f3 nsN keep4
  have st4 : tn 0 h4 := T.keep _ _ _ st2 fun b hb o e => keep4 b o (by rw [← hs3]; exact Heap.get?_push_of_some _ e)
  have stat : ∀ {H' : Hp}, (∀ b ∈ fp, H' b = none) → ∀ b ∈ fp, FpOk (X.comp scope cl N s3.heap.objs.size fp s3 (upd H2 s2.heap.objs.size (.lst []))) [] H' b := fun hn b hb =>
    ⟨hn b hb, Nat.ne_of_lt (f3 b hb).2, fun z => (List.mem_cons.mp (I3.stkSub b z)).elim (fun q => (f3 b hb).1.2.1 q) fun q => (f3 b hb).1.2.2.1 q, .inl hb, fun y c e => (f3 b hb).1.2.2.2.2.1 y c (S.sub I.ok y c e), fun p hp => by simp at hp⟩
  have out : ∀ {σx : St} {H6 : Hp} {s6 : Shared}, Inv (X.comp scope cl N s3.heap.objs.size fp s3 (upd H2 s2.heap.objs.size (.lst []))) [] σx H6 s6 → Q (.ref s2.heap.objs.size) H6 →
      compPost (model X.prog X.w) X.A X.xe use Qv (Value.ref s2.heap.objs.size) s3.heap.objs.size (.ok .next) s6 := fun {σx H6 s6} I6 q6 => by
    obtain ⟨m, hm, _⟩ := I6.loc
    have Io : Inv X pins σ H6 s6 := I3.call' I6.os I6.base I6.hok I6.bare fun b hb => ⟨(f3 b hb).1.2.2.2.1, (f3 b hb).1.2.1, (f3 b hb).1.2.2.2.2.1, (f3 b hb).1.2.2.2.2.2⟩
    exact fin _ _ _ _ m Io (I3.fpOk (b := s3.heap.objs.size) (H' := H6) (Nat.le_refl _) I6.free) hm q6
  have loop : codeAny (model X.prog X.w) X.A (.compLoop (.ListComp elt [⟨tg, iter, ifs, 0⟩] scope pos) 0 (.ref it) (.ref s2.heap.objs.size) (compEnvC scope cl s3.heap.objs.size X.env))
      (compPost (model X.prog X.w) X.A X.xe use Qv (Value.ref s2.heap.objs.size) s3.heap.objs.size) { s3 with heap := h4, toks := s3.toks + ([] : List (Str × Value)).length } := by
    refine cl_loop (fun n s' => ∃ i σx H', Inv (X.comp scope cl N s3.heap.objs.size fp s3 (upd H2 s2.heap.objs.size (.lst []))) [] σx H' s' ∧ tn i s'.heap ∧ (∀ b ∈ fp, H' b = none) ∧ W i n σx H') ?_ m0 ⟨0, _, _, Ic, st4, fun b hb => (f3 b hb).1.1, w0⟩
    rintro n s5 ⟨i, σx, H5, I5, st5, fr5, w5⟩
    rcases turn i n σx H5 w5 with ⟨stop, qd⟩ | ⟨go, step⟩
    · refine wpAny_mono (T.done (X.comp scope cl N s3.heap.objs.size fp s3 (upd H2 s2.heap.objs.size (.lst []))) rfl rfl rfl hc i [] s5 _ H5 (fun _ _ => False) I5 (stat fr5) st5 stop) (fun r s6 ⟨hr, I6⟩ => ?_) fun _ _ z => z.elim
      subst hr
      exact out I6 qd
    · refine wpAny_mono (T.item (X.comp scope cl N s3.heap.objs.size fp s3 (upd H2 s2.heap.objs.size (.lst []))) rfl rfl rfl hc i [] s5 _ H5 (fun _ _ => False) I5 (stat fr5) st5 go) (fun r s6 ⟨u, hr, h6⟩ => ?_) fun _ _ z => z.elim
      subst hr
      refine wpAny_mono h6 (fun _ s7 ⟨v, H7, I7, r7, y7, st7, fr7⟩ => ?_) fun _ _ z => z.elim
      have I7' := I7.pinned (stat fr7) (T.obj _ _ st7)
      have again : ∀ {σ9 : St} {H9 : Hp} {s9 : Shared}, Inv (X.comp scope cl N s3.heap.objs.size fp s3 (upd H2 s2.heap.objs.size (.lst []))) ([] ++ pinsAt fp s7.heap) σ9 H9 s9 → (∃ m', m' < n ∧ W (i + 1) m' σ9 H9) →
          ∃ m', m' < n ∧ ∃ i σx H', Inv (X.comp scope cl N s3.heap.objs.size fp s3 (upd H2 s2.heap.objs.size (.lst []))) [] σx H' s9 ∧ tn i s9.heap ∧ (∀ b ∈ fp, H' b = none) ∧ W i m' σx H' := fun {σ9 H9 s9} I9 ⟨m', lt, w'⟩ => by
        refine ⟨m', lt, i + 1, σ9, H9, I9.unpinned, T.keep _ _ _ st7 fun b hb o e => (I9.pin (b, o) (List.mem_append_right _ (List.mem_append_right _ (mem_pinsAt hb e)))).1, fun b hb => ?_, w'⟩
        obtain ⟨o, e, d⟩ := T.obj _ _ st7 b hb
        exact (I9.pin (b, o) (List.mem_append_right _ (List.mem_append_right _ (mem_pinsAt hb e)))).2.1
      refine wpAny_mono (hg _ _ _ _ _ s7 σx H7 v u _ I7' r7 (step v H7 y7)) (fun _ s8 ⟨σ8, H8, I8, q8⟩ => ?_) fun _ _ z => z.elim
      refine wpAny_mono (ht _ _ _ _ _ s8 _ H8 _ I8 q8) (fun b s9 ⟨H9, I9, q9⟩ => ?_) fun _ _ z => z.elim
      cases b with
      | false => exact again I9 q9
      | true =>
        refine wpAny_mono (he _ _ _ _ _ s9 _ H9 _ I9 q9) (fun u' s10 ⟨v', H10, I10, r10, ys, hD, hz, q10⟩ => ?_) fun _ _ z => z.elim
        refine wpAny_mono (mt_append (X := X.comp scope cl N s3.heap.objs.size fp s3 (upd H2 s2.heap.objs.size (.lst []))) _ s10 _ H10 (.ref s2.heap.objs.size) [v'] (.ref s2.heap.objs.size) [u'] (fun _ H' => ∃ m', m' < n ∧ W (i + 1) m' σ8 H') I10 rfl (.cons r10 .nil) ⟨_, ys, v', rfl, rfl, hD, hz, q10⟩) (fun _ s11 ⟨_, H11, I11, _, q11⟩ => again I11 q11) fun _ _ z => z.elim
  exact codeAny_compStart_list loop (T.self _ 0 _ _ _ st4 loop)
theorem pe_compN (S : CompScopeN X scope cl N cap k) (hc : X.calm = true) (hi : PI X tg iter wi) (hg : ∀ C fp s₀ H₀, PG (X.comp scope cl N C fp s₀ H₀) tg g)
    (ht : ∀ C fp s₀ H₀, PTs (X.comp scope cl N C fp s₀ H₀) ifs tc) (he : ∀ C fp s₀ H₀, PE (X.comp scope cl N C fp s₀ H₀) elt te) (hs : ∀ x, foldedSetIterable iter X.env x = pure x := by intro _; rfl) :
    PE X (.ListComp elt [⟨tg, iter, ifs, 0⟩] scope pos) (tCompN k cap wi g tc te) := by
  intro pins s σ H Q I h
  rw [eval_ListComp]
  refine comp_coreN S hc hi hg ht he hs I h fun D C H6 s6 m Io Cf hm q6 => ?_
  exact ⟨m, hm, fun h' sb => ⟨.ref D, H6, Io.turned (it := C) (t' := s6.toks) (fun b o n e => (sb.2 b n).trans e) Cf.1 Cf.2.1 Cf.2.2.2.1 Cf.2.2.2.2.1 Cf.2.2.2.2.2, rfl, q6⟩⟩
end
theorem comp_scopeN (k : Nat) {X : Cx} {scope : Scope} {N : List Str} {cap : List Nat} (hk : scope.kind = .function) (h1 : scope.names.all (fun y => y.2 != .cell) = true) (h2 : scope.names.all (fun y => y.2 != .local || scope.names.lookup y.1 == some .local) = true)
    (h3 : scope.names.all (fun y => y.2 != .free || X.env.scope.names.lookup y.1 == some .cell || X.env.scope.names.lookup y.1 == some .free) = true)
    (nd : N.Nodup) (hl : N.length = cap.length + k) (hc : (N.drop k).map some = cap.map (fun i => X.N[i]?)) (hf : (N.drop k).all (fun y => scope.names.lookup y == some .free) = true) : CompScopeN X scope (clOf X.env scope) N cap k := by
  have fr : ∀ y : Str, (y, NameKind.free) ∈ scope.names → X.env.scope.names.lookup y = some .cell ∨ X.env.scope.names.lookup y = some .free := fun y hy => by
    have := List.all_eq_true.mp h3 _ hy
    simpa using this
  have nc : ∀ y ∈ scope.names, y.2 ≠ .cell := fun y hy => by
    have := List.all_eq_true.mp h1 y hy
    simpa using this
  have fr2 : X.Ok → ∀ y ∈ scope.names, y.2 = .free → ∃ c, X.env.cells.lookup y.1 = some c := fun ok y hy e => by
    obtain ⟨n, k⟩ := y
    have e : k = .free := e
    subst e
    exact ok.has n (fr n hy)
  refine ⟨hk, fun ok => closure_of (fr2 ok), nc, fun y hy e => ?_, nd, fun y hy => ?_, fun ok y c e => cl_sub scope.names [] (fr2 ok) (fun _ _ z => by simp at z) y c e, hl, fun j i y a b => ?_⟩
  · have := List.all_eq_true.mp h2 y hy
    simpa [e] using this
  · have hm : (y, NameKind.free) ∈ scope.names := by
      have : ∃ k', (k' = NameKind.cell ∨ k' = NameKind.free) ∧ (y, k') ∈ (relabel scope X.env).names := by
        rcases hy with hy | hy
        · exact ⟨_, .inl rfl, lookup_mem hy⟩
        · exact ⟨_, .inr rfl, lookup_mem hy⟩
      obtain ⟨k', hk', hm⟩ := this
      obtain ⟨⟨n, k⟩, hz, e⟩ := List.mem_map.mp hm
      dsimp only at e
      split at e
      · rename_i hcond
        obtain ⟨rfl, rfl⟩ := Prod.mk.inj e
        simp only [Bool.and_eq_true] at hcond
        have : k = .free := by simpa using hcond.1.1
        subst this
        exact hz
      · obtain ⟨rfl, rfl⟩ := Prod.mk.inj e
        rcases hk' with rfl | rfl
        · exact absurd rfl (nc _ hz)
        · exact hz
    have := cl_has (env := X.env) scope.names [] y (.inl hm)
    exact Option.isSome_iff_exists.mp this
  · have hy : y ∈ N.drop k := by
      refine List.mem_of_getElem? (i := j) ?_
      rw [List.getElem?_drop, Nat.add_comm]
      exact a
    have e1 : X.N[i]? = some y := by
      have := congrArg (fun l => l[j]?) hc
      simp only [List.getElem?_map, List.getElem?_drop, Nat.add_comm k j, a, b, Option.map_some] at this
      exact (Option.some.inj this).symm
    have e2 : scope.names.lookup y = some .free := by
      have := List.all_eq_true.mp hf y hy
      simpa using this
    have e3 := fr y (lookup_mem e2)
    refine ⟨e1, e3.elim (fun z => .inr (.inl z)) fun z => .inr (.inr z), ?_, lookup_relabel_free e2⟩
    intro z
    have z : X.env.scope.names.lookup y = some .local := z
    rcases e3 with e3 | e3 <;> rw [e3] at z <;> cases z
def CompJ (J : It) (g : TG) (tc : TT) (te : TE) (cs : St) (H1 : Hp) (Q : VK) : Prop := ∀ D, H1 D = none → ∃ W : Nat → Nat → St → Hp → Prop, (∃ m, W 0 m cs (upd H1 D (.lst []))) ∧ ∀ i m σ1 H, W i m σ1 H →
  (J.stop i H ∧ Q (.ref D) H) ∨ (J.go i H ∧ ∀ x H', J.yld i H x H' → g x σ1 H' fun σ2 H1 => tc σ2 H1 fun b H2 => if b = true then te σ2 H2 fun v H3 => ∃ ys, H3 D = some (.lst ys) ∧ ys.length < sizeLine ∧ ∃ m', m' < m ∧ W (i + 1) m' σ2 (upd H3 D (.lst (ys ++ [v])))
    else ∃ m', m' < m ∧ W (i + 1) m' σ2 H2)
theorem tcomp_in {k : Nat} {cap : List Nat} {wi : TI} {g : TG} {tc : TT} {te : TE} {σ : St} {H : Hp} {Q : VK} (h : wi σ H fun J H1 => CompJ J g tc te (frameN k σ cap) H1 Q) : tCompN k cap wi g tc te σ H Q := h
def CW (xs : List V) (H1 : Hp) (D : Addr) (Pv : Nat → List V → St → Hp → Prop) (i m : Nat) (σ1 : St) (H : Hp) : Prop := m = xs.length - i ∧ i ≤ xs.length ∧ Same H1 H ∧ ∃ ys, H D = some (.lst ys) ∧ ys.length ≤ i ∧ Pv i ys σ1 H
def Put (xs : List V) (H1 : Hp) (D : Addr) (Pv : Nat → List V → St → Hp → Prop) (i : Nat) (σ2 : St) (v : V) (H3 : Hp) : Prop := ∃ ys, H3 D = some (.lst ys) ∧ ys.length < sizeLine ∧ ∃ m', m' < xs.length - i ∧ CW xs H1 D Pv (i + 1) m' σ2 (upd H3 D (.lst (ys ++ [v])))
def Skip (xs : List V) (H1 : Hp) (D : Addr) (Pv : Nat → List V → St → Hp → Prop) (i : Nat) (σ2 : St) (H2 : Hp) : Prop := ∃ m', m' < xs.length - i ∧ CW xs H1 D Pv (i + 1) m' σ2 H2
structure At (xs : List V) (H1 : Hp) (D : Addr) (i : Nat) (ys : List V) (H : Hp) : Prop where
  new : H1 D = none
  lt : i < xs.length
  sz : xs.length < sizeLine
  same : Same H1 H
  lst : H D = some (.lst ys)
  le : ys.length ≤ i
theorem At.put {xs : List V} {H1 : Hp} {D : Addr} {i : Nat} {ys : List V} {H H4 : Hp} {Pv : Nat → List V → St → Hp → Prop} {σ2 : St} {v : V} (a : At xs H1 D i ys H) (g : Same H H4) (p : ∀ H5, Mu H4 D (.lst (ys ++ [v])) H5 → Pv (i + 1) (ys ++ [v]) σ2 H5) : Put xs H1 D Pv i σ2 v H4 :=
  ⟨ys, g _ _ a.lst, by have := a.le; have := a.lt; have := a.sz; omega, xs.length - (i + 1), by have := a.lt; omega, rfl, a.lt, Mu.mk'.same (a.same.trans g) a.new, _, upd_same, by have := a.le; rw [List.length_append, List.length_singleton]; omega, p _ Mu.mk'⟩
theorem At.skip {xs : List V} {H1 : Hp} {D : Addr} {i : Nat} {ys : List V} {H H4 : Hp} {Pv : Nat → List V → St → Hp → Prop} {σ2 : St} (a : At xs H1 D i ys H) (g : Same H H4) (p : Pv (i + 1) ys σ2 H4) : Skip xs H1 D Pv i σ2 H4 :=
  ⟨xs.length - (i + 1), by have := a.lt; omega, rfl, a.lt, a.same.trans g, ys, g _ _ a.lst, Nat.le_succ_of_le a.le, p⟩
/-! ### what is new in a heap -/
end L2

set_option Elab.async false
set_option linter.all false
set_option maxRecDepth 100000
set_option maxHeartbeats 4000000
/-! our own rules: comprehensions whose invariant knows the list that grows -/
namespace L2
open PySem PySem.Spec PyProof.Rows
def hide (D : Addr) (H : Hp) : Hp := fun c => if c = D then none else H c
theorem hide_of {D c : Addr} {H : Hp} {u : HO} (n : c ≠ D) (h : H c = some u) : hide D H c = some u := by unfold hide; rw [if_neg n]; exact h
theorem hide_inv {D c : Addr} {H : Hp} {u : HO} (h : hide D H c = some u) : c ≠ D ∧ H c = some u := by
  unfold hide at h
  by_cases e : c = D
  · rw [if_pos e] at h; cases h
  · rw [if_neg e] at h; exact ⟨e, h⟩
theorem hide_le {D : Addr} {H : Hp} : Same (hide D H) H := fun c u h => (hide_inv h).2
theorem hide_same {D : Addr} {H H' : Hp} (g : Same H H') : Same (hide D H) (hide D H') := fun c u h => hide_of (hide_inv h).1 (g _ _ (hide_inv h).2)
theorem hide_mu {D : Addr} {H H' : Hp} {o : HO} (mu : Mu H D o H') : Same (hide D H) (hide D H') := fun c u h => hide_of (hide_inv h).1 (mu.old (hide_inv h).2 (hide_inv h).1)
theorem compJD {J : It} {xs : List V} {ok : Hp → Prop} (O : Over J xs ok) {g : TG} {tc : TT} {te : TE} {cs : St} {H1 : Hp} {Q : VK} (hok : ∀ H, Same H1 H → ok H) (sz : xs.length < sizeLine) (Pv : Addr → Nat → List V → St → Hp → Prop)
    (h0 : ∀ D H', H1 D = none → Same H1 H' → H' D = some (.lst []) → Pv D 0 [] cs H')
    (hs : ∀ D i x ys σ1 H', xs[i]? = some x → At xs H1 D i ys H' → Pv D i ys σ1 H' → g x σ1 H' fun σ2 H2 => tc σ2 H2 fun b H3 => if b = true then te σ2 H3 fun v H4 => Put xs H1 D (Pv D) i σ2 v H4 else Skip xs H1 D (Pv D) i σ2 H3)
    (hd : ∀ D ys σ1 H', H1 D = none → Same H1 H' → H' D = some (.lst ys) → ys.length ≤ xs.length → Pv D xs.length ys σ1 H' → Q (.ref D) H') : CompJ J g tc te cs H1 Q := by
  intro D hD
  refine ⟨CW xs H1 D (Pv D), ⟨_, rfl, Nat.zero_le _, same_new hD _, [], upd_same, Nat.le_refl _, h0 D _ hD (same_new hD _) upd_same⟩, ?_⟩
  rintro i m σ1 H ⟨rfl, hi, sm, ys, hy, ly, p⟩
  by_cases hlt : i < xs.length
  · refine .inr ⟨O.go i _ (hok _ sm) hlt, fun x H' y => ?_⟩
    obtain ⟨rfl, hx⟩ := O.yld i _ x H' (hok _ sm) hlt y
    exact hs D i x ys σ1 H' hx ⟨hD, hlt, sz, sm, hy, ly⟩ p
  · have e : i = xs.length := by omega
    subst e
    exact .inl ⟨O.stop _ _ (hok _ sm) (Nat.le_refl _), hd D ys σ1 _ hD sm hy ly p⟩
theorem compJD_list {K : PySem.W.Frag} {a : Addr} {xs : List V} {g : TG} {tc : TT} {te : TE} {cs : St} {H1 : Hp} {Q : VK} (ha : H1 a = some (.lst xs)) (sz : xs.length < sizeLine) (Pv : Addr → Nat → List V → St → Hp → Prop)
    (h0 : ∀ D H', H1 D = none → Same H1 H' → H' D = some (.lst []) → Pv D 0 [] cs H')
    (hs : ∀ D i x ys σ1 H', xs[i]? = some x → At xs H1 D i ys H' → Pv D i ys σ1 H' → g x σ1 H' fun σ2 H2 => tc σ2 H2 fun b H3 => if b = true then te σ2 H3 fun v H4 => Put xs H1 D (Pv D) i σ2 v H4 else Skip xs H1 D (Pv D) i σ2 H3)
    (hd : ∀ D ys σ1 H', H1 D = none → Same H1 H' → H' D = some (.lst ys) → ys.length ≤ xs.length → Pv D xs.length ys σ1 H' → Q (.ref D) H') : CompJ (Itl K a) g tc te cs H1 Q :=
  compJD over_list (fun H g => g _ _ ha) sz Pv h0 hs hd
end L2

set_option Elab.async false
set_option linter.all false
set_option maxRecDepth 100000
set_option maxHeartbeats 4000000
/-! our own rules: list.pop(i), range(n) as a value, list(range(n)), xs[::-1], over the abstract heap -/
namespace L2
open PySem PySem.Spec PyProof.Rows
section
variable {X : Cx}
def rPopAtG : V → List V → Hp → VK → Prop := fun x vs H Q => ∃ l xs i y, x = .ref l ∧ vs = [.int i] ∧ H l = some (.lst xs) ∧ 0 ≤ i ∧ i < xs.length ∧ xs.length < 100000 ∧ xs[i.toNat]? = some y ∧ ∀ H', Mu H l (.lst (xs.eraseIdx i.toNat)) H' → Q y H'
theorem mt_popAtG : MtR X "list.pop" rPopAtG := by
  intro pins s σ H x vs v us Q I rx rv h
  obtain ⟨l, xs, i, y, e1, e2, hH, h0, h1, h2, hy, q⟩ := h
  exact mt_popAt pins s σ H x vs v us Q I rx rv ⟨l, xs, i, i.toNat, y, e1, e2, hH, by omega, by omega, PySem.StrLaws.seqIndex_nonneg h0 h1, hy, q _ .mk'⟩
def tRng1 (ta : TA) : TE := fun σ H Q => ta σ H fun vs H1 => ∃ j : Int, vs = [.int j] ∧ ∀ p H', H1 p = none → Same H1 H' → H' p = some (.rng 0 j) → Q (.ref p) H'
def rListRng : List V → Hp → VK → Prop := fun xs H Q => ∃ p, ∃ n : Nat, xs = [.ref p] ∧ H p = some (.rng 0 n) ∧ n < 100000 ∧ ∀ l H', H l = none → Same H H' → H' l = some (.lst (((List.range n).map fun k => ((k : Nat) : Int)).map V.int)) → Q (.ref l) H'
def tRev (te : TE) (ts : TO) : TE := fun σ H Q => te σ H fun x H1 => ts σ H1 fun o H2 => o = some (-1) ∧ ∃ a xs, x = .ref a ∧ H2 a = some (.lst xs) ∧ ∀ p H', H2 p = none → Same H2 H' → H' p = some (.lst xs.reverse) → Q (.ref p) H'
end
end L2

set_option Elab.async false
set_option linter.all false
set_option maxRecDepth 100000
set_option maxHeartbeats 4000000
/-! our own rules: min of a list, list.index, over the abstract heap -/
namespace L2
open PySem PySem.Spec PyProof.Rows
section
variable {X : Cx}
def rMinL : List V → Hp → VK → Prop := fun xs H Q => ∃ (p : Addr) (ns : List Int), xs = [.ref p] ∧ H p = some (.lst (ns.map V.int)) ∧ 0 < ns.length ∧ ∀ M : Int, M ∈ ns → (∀ a ∈ ns, M ≤ a) → Q (.int M) H
def rIdxG : V → List V → Hp → VK → Prop := fun x vs H Q => ∃ (l : Addr) (ns : List Int) (k : Int), x = .ref l ∧ vs = [.int k] ∧ H l = some (.lst (ns.map V.int)) ∧ k ∈ ns ∧ ns.length < 100000 ∧ Q (.int (ns.idxOf k : Nat)) H
end
end L2

set_option Elab.async false
set_option linter.all false
set_option maxRecDepth 100000
set_option maxHeartbeats 4000000
/-! our own rules: instances of own classes over the abstract heap: attributes, methods, making -/
namespace L2
open PySem PySem.Spec PyProof.Rows
theorem lookup_n {f : Str} : List.lookup f ([] : List (Str × V)) = none := rfl
theorem lookup_c {f g : Str} {v : V} {r : List (Str × V)} : List.lookup f ((g, v) :: r) = if f = g then some v else List.lookup f r := by
  by_cases h : f = g
  · have hb : (f == g) = true := beq_iff_eq.mpr h
    simp only [List.lookup, hb, if_pos h]
  · have hb : (f == g) = false := beq_eq_false_iff_ne.mpr h
    simp only [List.lookup, hb, if_neg h]
theorem putF_n {f : Str} {v : V} : putF f v [] = [(f, v)] := rfl
theorem putF_c {f g : Str} {v x : V} {r : List (Str × V)} : putF f v ((g, x) :: r) = if g = f then (g, v) :: r else (g, x) :: putF f v r := rfl
structure MethAt (K : PySem.W.Frag) (C : Addr) (m q : Str) (st : Stmt) (ps : List Str) : Prop where
  ex : ∃ f fd, Meth K C m f ∧ Fun K m q st f fd ∧ Binds K fd ps []
structure OkM (P : Program) (w : World) (K : PySem.W.Frag) (mg : Str → Option Value) (base : Heap) (n : Nat) (C : Addr) (m : Str) (ps : List Str) (sp : Sp) : Prop where
  ex : ∃ f fd, Meth K C m f ∧ Binds K fd ps [] ∧ FnOk P w K mg base CX0 n f fd ps sp
  cl : Cls K C
structure MakeAt (K : PySem.W.Frag) (mg : Str → Option Value) (x : Str) (C : Addr) (q : Str) (st : Stmt) (ps : List Str) : Prop where
  ex : ∃ f fd, mg x = some (.ref C) ∧ Mk K C f ∧ Fun K "__init__" q st f fd ∧ Binds K fd ps []
structure OkC (P : Program) (w : World) (K : PySem.W.Frag) (mg : Str → Option Value) (base : Heap) (n : Nat) (x : Str) (C : Addr) (ps : List Str) (sp : Sp) : Prop where
  ex : ∃ f fd, mg x = some (.ref C) ∧ Mk K C f ∧ Binds K fd ps [] ∧ FnOk P w K mg base CX0 n f fd ps sp
section
variable {P : Program} {w : World} {K : PySem.W.Frag} {mg : Str → Option Value} {base : Heap} {x m q : Str} {st : Stmt} {N ps : List Str} {k : Nat} {sp : Sp} {C : Addr}
theorem MethAt.ok (D : MethAt K C m q st ps) (cl : Cls K C) (S : FnScope N ps (defScope st)) (len : ∀ vs H Q E, sp vs H Q E → vs.length = ps.length)
    (hbody : ∀ (f : Addr) (cdv : Value) (A : Around) (outer : List Env) (s : Shared) (H : Hp) (vs : List V) (Q : VK) (E : XK), Room k (A.deeper (envOfC q (defScope st) s.heap.objs.size f cdv)) → sp vs H Q E →
      ∃ t, PSs (cxOf CX0 P w K mg base N q (defScope st) f cdv A outer s H E).nox (defBody st) t ∧ t { nx := fun _ H' => Q .non H', rt := Q } (start N vs) H) : OkM P w K mg base (k + 1) C m ps sp := by
  obtain ⟨f, fd, hm, F, hb⟩ := D.ex
  exact ⟨⟨f, fd, hm, hb, F.ok S len (hbody f)⟩, cl⟩
theorem MakeAt.ok (D : MakeAt K mg x C q st ps) (S : FnScope N ps (defScope st)) (len : ∀ vs H Q E, sp vs H Q E → vs.length = ps.length)
    (hbody : ∀ (f : Addr) (cdv : Value) (A : Around) (outer : List Env) (s : Shared) (H : Hp) (vs : List V) (Q : VK) (E : XK), Room k (A.deeper (envOfC q (defScope st) s.heap.objs.size f cdv)) → sp vs H Q E →
      ∃ t, PSs (cxOf CX0 P w K mg base N q (defScope st) f cdv A outer s H E).nox (defBody st) t ∧ t { nx := fun _ H' => Q .non H', rt := Q } (start N vs) H) : OkC P w K mg base (k + 1) x C ps sp := by
  obtain ⟨f, fd, hg, hm, F, hb⟩ := D.ex
  exact ⟨f, fd, hg, hm, hb, F.ok S len (hbody f)⟩
theorem MethAt.mk' {f : Addr} {oc : Value} {od an : Option Addr} {osl : Array (Option Value)} {kV doc pm cdv ct : Value} (a : PySem.W.findIn K (.ref C) m = some (some (.ref f))) (i : PySem.W.isFn K (.ref f) = true)
    (l : K.lookup f = some ⟨oc, od, .func (PySem.W.fnOf m q (defArgs st) (defBody st) (defScope st) .none kV doc pm an cdv ct), osl⟩) (c : PySem.W.codeIn K cdv q = true) (k : PySem.W.keepIn K (.ref f) = true)
    (b : ∀ (kV doc pm : Value) (an : Option Addr) (cdv ct : Value) (us : List Value), us.length = ps.length → bindArgs (PySem.W.fnOf m q (defArgs st) (defBody st) (defScope st) .none kV doc pm an cdv ct) ⟨us, []⟩ = pure (ps.zip us)) : MethAt K C m q st ps :=
  have F := fun_mk (st := st) l c k
  ⟨f, _, ⟨a, i, k⟩, F, F.binds b⟩
theorem MakeAt.mk' {h : Heap} {f : Addr} {oc : Value} {od an : Option Addr} {osl : Array (Option Value)} {kV doc pm cdv ct : Value} (X : K.In h) (G : h.Ns mainGlobals mg) (g : PySem.W.nsIn K mainGlobals x = some (some (.ref C)))
    (mk : PySem.W.makesIn K C = true) (kc : PySem.W.keepIn K (.ref C) = true) (a : PySem.W.findIn K (.ref C) "__init__" = some (some (.ref f))) (i : PySem.W.isFn K (.ref f) = true)
    (l : K.lookup f = some ⟨oc, od, .func (PySem.W.fnOf "__init__" q (defArgs st) (defBody st) (defScope st) .none kV doc pm an cdv ct), osl⟩) (c : PySem.W.codeIn K cdv q = true) (k : PySem.W.keepIn K (.ref f) = true)
    (b : ∀ (kV doc pm : Value) (an : Option Addr) (cdv ct : Value) (us : List Value), us.length = ps.length → bindArgs (PySem.W.fnOf "__init__" q (defArgs st) (defBody st) (defScope st) .none kV doc pm an cdv ct) ⟨us, []⟩ = pure (ps.zip us)) : MakeAt K mg x C q st ps :=
  have F := fun_mk (st := st) l c k
  ⟨f, _, PySem.W.mg_of X G g, ⟨mk, a, i, kc⟩, F, F.binds b⟩
end
def tFldG (C : Addr) (f : Str) (ta : TE) : TE := fun σ H Q => ta σ H fun x H1 => ∃ a dx fs v, x = .ref a ∧ H1 a = some (.ins C dx fs) ∧ fs.lookup f = some v ∧ Q v H1
def sFldG (C : Addr) (f : Str) (ta tv : TE) : TS := fun D σ H => tv σ H fun y H1 => ta σ H1 fun x H2 => ∃ a dx fs, x = .ref a ∧ H2 a = some (.ins C dx fs) ∧ fs.length < 1000 ∧ ∀ H', Mu H2 a (.ins C dx (putF f y fs)) H' → D.nx σ H'
def tMethG (C : Addr) (m : Str) (sp : Sp) (ta : TE) (t : TA) : TE := fun σ H Q => ta σ H fun x H1 => ∃ a dx fs, x = .ref a ∧ H1 a = some (.ins C dx fs) ∧ fs.lookup m = none ∧ t σ H1 fun vs H2 => sp (x :: vs) H2 Q E0
def tMakeG (C : Addr) (sp : Sp) (t : TA) : TE := fun σ H Q => t σ H fun vs H1 => ∀ x dx H', H1 x = none → H1 dx = none → Same H1 H' → H' x = some (.ins C dx []) → H' dx = some (.own x) → sp (.ref x :: vs) H' (fun v H2 => v = .non ∧ Q (.ref x) H2) E0
section
variable {X : Cx} {k n : Nat} {ps : List Str} {sp : Sp} {x m f : Str} {p pos pos' apos : Pos} {o e value : Expr} {es : List Expr} {t : TA} {ta tv : TE} {C : Addr}
theorem pe_fldG (c : Cls X.K C) (nn : NoAttr X.K C f) (he : PE X e ta) (hb : attributeBase e f X.env (eval e X.env) = eval e X.env := by rfl) : PE X (.Attribute e f pos) (tFldG C f ta) := by
  intro pins s σ H Q I h
  refine attr_of hb (thn (he pins s σ H _ I h) fun u s1 ⟨x, H1, I1, rx, a, dx, fs, v, ex, ea, l, q⟩ => ?_)
  subst ex
  obtain rfl : u = Value.ref a := rx
  exact getattr_ok I1 ea c nn l fun u' s2 I2 ru => ⟨v, H1, I2, ru, q⟩
theorem ps_fldG (c : Cls X.K C) (nn : NoAttr X.K C f) (ha : PE X o ta) (hv : PE X value tv) (hs : swapsWith value (some (.Attribute o f pos')) pos.line X.env = pure false := by rfl) : PS X (.Assign [.Attribute o f pos'] value pos) (sFldG C f ta tv) := by
  intro pins s σ H D I h
  refine plainObj_wpAny_Assign_Attribute (thn (hv pins s σ H _ I h) fun u s1 ⟨y, H1, I1, ry, q⟩ => thn (ha pins s1 σ H1 _ I1 q) fun ov s2 ⟨x, H2, I2, rx, a, dx, fs, ex, ea, l, q2⟩ => ?_) hs
  subst ex
  obtain rfl : ov = Value.ref a := rx
  exact setattr_ok I2 ea c nn l ry fun s3 I3 => ⟨σ, _, I3, q2 _ .mk'⟩
theorem pe_methG {pl : Sem Bool} (G : OkM X.prog X.w X.K X.mg X.base k C m ps sp) (hr : Room n X.A) (he : PE X o ta) (ha : PA X (e :: es) t) (hk : k ≤ n := by omega) (hs : (e :: es).all notStar = true := by rfl)
    (ht : eval (.Call (.Attribute o m apos) (e :: es) [] pos) X.env = (do
      let ov ← eval o X.env
      standAt apos.atName
      let (f, first) ← holding [ov] (getMethod ov m pl)
      callWith pos f first (backTo pos (starEach (e :: es) X.env)) (backToKw pos (keywordEach [] X.env))) := by rfl) : PE X (.Call (.Attribute o m apos) (e :: es) [] pos) (tMethG C m sp ta t) := by
  obtain ⟨⟨f, fd, hm, hb, F⟩, cl⟩ := G
  intro pins s σ H Q I h
  refine pe_meth (C := C) (dvs := []) (E := E0) he cl hm F (hr.mono hk) hb .nil pass0 ha (star_of (Bool.and_eq_true_iff.mp hs).1) (star_all (Bool.and_eq_true_iff.mp hs).2) ht pins s σ H Q I ?_
  have e : ∀ y, (fun vs H1 => sp (y :: (vs ++ [])) H1 Q E0) = fun vs H1 => sp (y :: vs) H1 Q E0 := fun y => by funext vs H1; rw [List.append_nil]
  show ta σ H fun y H1 => ∃ a dx fs, y = .ref a ∧ H1 a = some (.ins C dx fs) ∧ fs.lookup m = none ∧ t σ H1 fun vs H2 => sp (y :: (vs ++ [])) H2 Q E0
  simp only [e]
  exact h
theorem pe_meth0G {pl : Sem Bool} (G : OkM X.prog X.w X.K X.mg X.base k C m ps sp) (hr : Room n X.A) (he : PE X o ta) (hk : k ≤ n := by omega)
    (ht : eval (.Call (.Attribute o m apos) [] [] pos) X.env = (do
      let ov ← eval o X.env
      standAt apos.atName
      let (f, first) ← holding [ov] (getMethod ov m pl)
      callWith pos f first (backTo pos (starEach [] X.env)) (backToKw pos (keywordEach [] X.env))) := by rfl) : PE X (.Call (.Attribute o m apos) [] [] pos) (tMethG C m sp ta tNil) := by
  obtain ⟨⟨f, fd, hm, hb, F⟩, cl⟩ := G
  exact pe_meth0 (C := C) (dvs := []) (E := E0) he cl hm F (hr.mono hk) hb .nil pass0 ht
theorem make_any {H1 : Hp} {Q : VK} {vs : List V} (h : ∀ x dx H', H1 x = none → H1 dx = none → Same H1 H' → H' x = some (.ins C dx []) → H' dx = some (.own x) → sp (.ref x :: vs) H' (fun v H2 => v = .non ∧ Q (.ref x) H2) E0) :
    ∀ x dx, H1 x = none → H1 dx = none → dx ≠ x → sp (.ref x :: (vs ++ [])) (upd (upd H1 dx (.own x)) x (.ins C dx [])) (fun v H2 => v = .non ∧ Q (.ref x) H2) E0 := fun x dx hx hdx ne => by
  rw [List.append_nil]
  exact h x dx _ hx hdx (fun c u hc => by rw [upd_ne (ne_of_none hc hx), upd_ne (ne_of_none hc hdx)]; exact hc) upd_same (by rw [upd_ne ne, upd_same])
theorem pe_makeG (G : OkC X.prog X.w X.K X.mg X.base k x C ps sp) (hr : Room n X.A) (hg : Gl X x) (ha : PA X (e :: es) t) (hk : k + 1 ≤ n := by omega) (hdb : (x == ("__debug__" : Str)) = false := by decide) (hs : (e :: es).all notStar = true := by rfl) :
    PE X (.Call (.Name x p) (e :: es) [] pos) (tMakeG C sp t) := by
  obtain ⟨f, fd, hm, M, hb, F⟩ := G.ex
  intro pins s σ H Q I h
  refine wpAny_Call_Name_kw (ld_glob I hg hm ?_ hdb)
  refine PySem.W.callWith_K (h₀ := X.base) I.ok.mod.kin M.kp (thn (ha pos pins s σ H _ I h) fun us s1 ⟨vs, H1, I1, r, q⟩ => ⟨I1.kIn, ?_⟩) (star_of (Bool.and_eq_true_iff.mp hs).1) (star_all (Bool.and_eq_true_iff.mp hs).2)
  exact run_make (dvs := []) (ds := []) M F (hr.mono hk) hb .nil pass0 I1 r (make_any q)
end
end L2

set_option Elab.async false
set_option linter.all false
set_option maxRecDepth 100000
set_option maxHeartbeats 4000000
/-! our own rules: d.values(), d.items() walked, d.get(k, x), over the abstract heap -/
namespace L2
open PySem PySem.Spec PyProof.Rows
theorem kv_get : ∀ {kvs : List (Key × V)} {vs : List (Key × Value)}, KV kvs vs → ∀ {i : Nat} {k : Key} {x : V}, kvs[i]? = some (k, x) → ∃ u, vs[i]? = some (k, u) ∧ RelV x u
  | [], _, _, i, k, x, e => by simp at e
  | p :: kvs, [], r, i, k, x, e => by cases r
  | p :: kvs, (k', u) :: vs, r, i, k, x, e => by
    cases r with
    | cons h r =>
      cases i with
      | zero =>
        simp at e
        subst e
        have h1 : k = k' := h.1
        exact ⟨u, by simp [h1], h.2⟩
      | succ i => simpa using kv_get (kvs := kvs) (vs := vs) r (i := i) (k := k) (x := x) (by simpa using e)
def Itv (d : Addr) (o : Obj) (kvs : List (Key × V)) : It :=
  ⟨fun i H => i < kvs.length ∧ H d = some (.frz o (.dK kvs)), fun i H x H' => H' = H ∧ ∃ k, kvs[i]? = some (k, x), fun i H => kvs.length ≤ i ∧ H d = some (.frz o (.dK kvs))⟩
def Iti (d : Addr) (o : Obj) (kvs : List (Key × V)) : It :=
  ⟨fun i H => i < kvs.length ∧ H d = some (.frz o (.dK kvs)), fun i H v H' => ∃ p k x, v = .ref p ∧ H p = none ∧ Same H H' ∧ H' p = some (.tup [kV k, x]) ∧ kvs[i]? = some (k, x), fun i H => kvs.length ≤ i ∧ H d = some (.frz o (.dK kvs))⟩
theorem turn_vals {P : Program} {w : World} {K : PySem.W.Frag} {tg : Expr} (d it : Addr) (o : Obj) (kvs : List (Key × V)) (vs : List (Key × Value)) (ep : Nat) (hne : d ≠ it) (rel : KV kvs vs) (D0 : ∀ h : Heap, h.get? d = some o → h.DictAt (mixKind P w) d vs ep) :
    Turn P w K tg (Itv d o kvs) [it] it (fun i h => h.IsValIter it d i vs.length ep) where
  mem := List.mem_singleton_self _
  obj := fun i h st b hb => by
    obtain rfl := List.mem_singleton.mp hb
    obtain ⟨o, e, c, dd⟩ := st
    exact ⟨o, e, fun v z => by rw [dd] at z; cases z⟩
  keep := fun i h h' st k => st.at fun o e => k it (List.mem_singleton_self _) o e
  item := by
    intro X hP hw hK hc i pins s σ H E I hf st hg
    subst hP hw hK
    obtain ⟨hi, hd⟩ := hg
    obtain ⟨f0, f1, f2, f3, f4, f5⟩ := hf it (List.mem_singleton_self _)
    obtain ⟨ho, _⟩ := (show ObjOk X.prog X.w H s.heap d (.frz o (.dK kvs)) from I.hok d _ hd)
    obtain ⟨u, hx, ru⟩ := kv_get rel (k := kvs[i].1) (x := kvs[i].2) (List.getElem?_eq_getElem hi)
    refine wpAny_pyNext_values_item st (D0 _ ho) hx fun h' st' sb => ?_
    have I1 : Inv X pins σ H { s with heap := h' } := I.turned (t' := s.toks) (fun b o hb e => (sb.2 b hb).trans e) f0 f1 f3 f4 f5
    obtain ⟨oi, e, c, dd⟩ := id st'
    exact ⟨u, rfl, go_of (s := { s with heap := h' }) e c dd (by decide) ⟨kvs[i].2, H, I1, ru, ⟨rfl, kvs[i].1, List.getElem?_eq_getElem hi⟩, st', fun b hb => (hf b hb).1⟩⟩
  done := by
    intro X hP hw hK hc i pins s σ H E I hf st hg
    subst hP hw hK
    obtain ⟨hi, hd⟩ := hg
    obtain ⟨f0, f1, f2, f3, f4, f5⟩ := hf it (List.mem_singleton_self _)
    obtain ⟨ho, _⟩ := (show ObjOk X.prog X.w H s.heap d (.frz o (.dK kvs)) from I.hok d _ hd)
    have hl : kvs.length = vs.length := rel.length
    exact wpAny_pyNext_values_end (I.ok.hd hc) st (D0 _ ho) (List.getElem?_eq_none (by omega)) fun h' eb => ⟨rfl, I.turned (t' := s.toks) (fun b o hb e => eb b o hb e) f0 f1 f3 f4 f5⟩
  self := fun _ _ _ _ _ st h => wpAny_pyIter_valiter st h
theorem turn_items {P : Program} {w : World} {K : PySem.W.Frag} {elts : List Expr} {kk : Nat} {tpos : Pos} (d it : Addr) (o : Obj) (kvs : List (Key × V)) (vs : List (Key × Value)) (ep : Nat) (hne : d ≠ it) (rel : KV kvs vs) (D0 : ∀ h : Heap, h.get? d = some o → h.DictAt (mixKind P w) d vs ep) :
    Turn P w K (.Tuple elts kk tpos) (Iti d o kvs) [it] it (fun i h => ∃ ok ov, IsItemIter h it d i vs.length ep ok ov) where
  mem := List.mem_singleton_self _
  obj := fun i h st b hb => by
    obtain rfl := List.mem_singleton.mp hb
    obtain ⟨ok, ov, e⟩ := st
    exact ⟨_, e, fun v z => by
      have z' : Data.fields _ = Data.cell v := z
      cases z'⟩
  keep := fun i h h' ⟨ok, ov, e⟩ k => ⟨ok, ov, k it (List.mem_singleton_self _) _ e⟩
  item := by
    intro X hP hw hK hc i pins s σ H E I hf st hg
    subst hP hw hK
    obtain ⟨hi, hd⟩ := hg
    obtain ⟨ok, ov, he⟩ := st
    obtain ⟨ho, _⟩ := (show ObjOk X.prog X.w H s.heap d (.frz o (.dK kvs)) from I.hok d _ hd)
    obtain ⟨u, hx, ru⟩ := kv_get rel (k := kvs[i].1) (x := kvs[i].2) (List.getElem?_eq_getElem hi)
    refine wpAny_pyNext_items_item he (D0 _ ho) hx fun key h' hkey hout hT hsz hk => ?_
    refine ⟨_, rfl, wpAny_letOwnedTupleGo_items hout fun h'' he'' hs => ?_⟩
    have helt : it < s.heap.objs.size := Heap.lt_size he
    have I1 : Inv X pins σ (upd H s.heap.objs.size (.tup [kV kvs[i].1, kvs[i].2])) { s with heap := s.heap.push { cls := .type "tuple", data := .seq #[key, u] }, toks := s.toks } :=
      I.laid (fun b o q => Heap.get?_push_of_some _ q) (Nat.le_refl _) ⟨by show 2 ≤ sizeLine; decide, [key, u], .cons (relV_key hkey) (.cons ru .nil), ⟨_, Heap.get?_push_size _ rfl, rfl, _, rfl⟩⟩
    have hf' : ∀ b ∈ [it], FpOk X pins (upd H s.heap.objs.size (.tup [kV kvs[i].1, kvs[i].2])) b := fun b hb => by
      obtain rfl := List.mem_singleton.mp hb
      refine ⟨?_, (hf b (List.mem_singleton_self _)).2⟩
      rw [upd_ne (Nat.ne_of_lt helt)]
      exact (hf b (List.mem_singleton_self _)).1
    have I2 : Inv X pins σ (upd H s.heap.objs.size (.tup [kV kvs[i].1, kvs[i].2])) { s with heap := h'', toks := s.toks } := I1.turnedL (t' := s.toks) (fun b o hb q => by
      have n1 : b ≠ it := fun z => hb (by simp [z])
      refine (hs.2 b n1).trans ?_
      by_cases hbT : b = s.heap.objs.size
      · subst hbT
        have q' : (s.heap.push { cls := .type "tuple", data := .seq #[key, u] }).get? s.heap.objs.size = some o := q
        rw [Heap.get?_push_size _ rfl] at q'
        cases q'
        exact hT
      · have q' : (s.heap.push { cls := .type "tuple", data := .seq #[key, u] }).get? b = some o := q
        rw [Heap.get?_push_ne _ _ _ hbT] at q'
        exact hk b o n1 q') hf'
    exact ⟨.ref s.heap.objs.size, _, I2, rfl, ⟨_, kvs[i].1, kvs[i].2, rfl, I.hok.fresh (Nat.le_refl _), same_new (I.hok.fresh (Nat.le_refl _)) _, upd_same, List.getElem?_eq_getElem hi⟩, ⟨_, _, he''⟩, fun b hb => (hf' b hb).1⟩
  done := by
    intro X hP hw hK hc i pins s σ H E I hf st hg
    subst hP hw hK
    obtain ⟨hi, hd⟩ := hg
    obtain ⟨ok, ov, he⟩ := st
    obtain ⟨f0, f1, f2, f3, f4, f5⟩ := hf it (List.mem_singleton_self _)
    obtain ⟨ho, _⟩ := (show ObjOk X.prog X.w H s.heap d (.frz o (.dK kvs)) from I.hok d _ hd)
    have hl : kvs.length = vs.length := rel.length
    exact wpAny_pyNext_items_end (I.ok.hd hc) he (D0 _ ho) (List.getElem?_eq_none (by omega)) fun h' eb => ⟨rfl, I.turned (t' := s.toks) (fun b o hb e => eb b o hb e) f0 f1 f3 f4 f5⟩
  self := fun _ _ _ _ _ st h => by
    obtain ⟨ok, ov, he⟩ := st
    exact PySem.W.kcp_self he h
def iVals (nf : Addr → Prop) (tl : TE) : TI := fun σ H R => tl σ H fun x H1 => ∃ d kvs, x = .ref d ∧ H1 d = some (.dK kvs) ∧ ∀ o, nf d → R (Itv d o kvs) (upd H1 d (.frz o (.dK kvs)))
def iItems (nf : Addr → Prop) (tl : TE) : TI := fun σ H R => tl σ H fun x H1 => ∃ d kvs, x = .ref d ∧ H1 d = some (.dK kvs) ∧ ∀ o, nf d → R (Iti d o kvs) (upd H1 d (.frz o (.dK kvs)))
theorem pi_vals {X : Cx} {tg l : Expr} {tl : TE} {apos cpos : Pos} (hl : PE X l tl) (hbase : attributeBase l "values" X.env (eval l X.env) = eval l X.env := by rfl) (hline : (apos.endLine == cpos.line) = true := by rfl) :
    PI X tg (.Call (.Attribute l "values" apos) [] [] cpos) (iVals (NoFz X) tl) := by
  intro pins s σ H R I h
  refine wpAny_Call_method0_late hbase hline (thn (hl pins s σ H _ I h) fun v s1 ⟨x, H1, I1, r1, q1⟩ => ?_)
  obtain ⟨d, kvs, e, hd, q⟩ := q1
  subst e
  cases r1
  obtain ⟨z1, z2, vs, rel, o, es, ep, ho, r⟩ := dk_of I1.hok hd
  have D0 : ∀ h : Heap, h.get? d = some o → h.DictAt (mixKind X.prog X.w) d vs ep := fun h e => ⟨o, es, e, r⟩
  have nf := I1.nofz hd
  have If : Inv X pins σ (upd H1 d (.frz o (.dK kvs))) s1 := I1.retag hd (fun _ z => by cases z) nf (fun _ z => by cases z) (fun _ z => by cases z) ⟨ho, z1, z2, vs, rel, o, es, ep, ho, r⟩
  obtain ⟨h1, h2⟩ := tyV_is (T := "dict") I1 (show RelV (.ref d) (.ref d) from rfl) (.inr (.inr (.inl ⟨rfl, .inl ⟨_, hd⟩⟩)))
  refine ⟨"dict", "dict.values", PySem.F.plainAttrs_dict, PySem.F.slot_dict_values, PySem.F.type_dict_values, h1, h2, Calls.callWith_builtin rfl (PySem.evalArgs_none ?_)⟩
  refine call_meetsIn PySem.F.slot_dict_values h1 PySem.F.entry_dict_values (PySem.F.args_dict_values_1 _) (meets_dict_values (mixKind X.prog X.w) d z2) ⟨⟨vs, (D0 _ ho).dictOf⟩, ?_⟩
  have I2 := If.kept (t' := s1.toks) (h' := s1.heap.push { cls := .type "dict_values", data := .fields #[.ref d] }) fun b o e => Heap.get?_push_of_some _ e
  have ho2 : (s1.heap.push { cls := .type "dict_values", data := .fields #[.ref d] }).get? d = some o := Heap.get?_push_of_some _ ho
  refine wpAny_pyIter_values ⟨_, Heap.get?_push_size _ rfl, rfl, rfl⟩ (D0 _ ho2) ?_
  refine ⟨_, [_], _, _, _, rfl, I2.kept (t' := s1.toks) fun b o e => Heap.get?_push_of_some _ e, turn_vals d _ o kvs vs ep (Nat.ne_of_lt (Heap.lt_size ho2)) rel D0, ⟨_, Heap.get?_push_size _ rfl, rfl, rfl⟩, fun b hb => ?_, q o nf⟩
  obtain rfl := List.mem_singleton.mp hb
  exact I2.fpOk (Nat.le_refl _) (I2.hok.fresh (Nat.le_refl _))
theorem pi_items {X : Cx} {elts : List Expr} {kk : Nat} {tpos : Pos} {l : Expr} {tl : TE} {apos cpos : Pos} (hl : PE X l tl) (hbase : attributeBase l "items" X.env (eval l X.env) = eval l X.env := by rfl) (hline : (apos.endLine == cpos.line) = true := by rfl) :
    PI X (.Tuple elts kk tpos) (.Call (.Attribute l "items" apos) [] [] cpos) (iItems (NoFz X) tl) := by
  intro pins s σ H R I h
  refine wpAny_Call_method0_late hbase hline (thn (hl pins s σ H _ I h) fun v s1 ⟨x, H1, I1, r1, q1⟩ => ?_)
  obtain ⟨d, kvs, e, hd, q⟩ := q1
  subst e
  cases r1
  obtain ⟨z1, z2, vs, rel, o, es, ep, ho, r⟩ := dk_of I1.hok hd
  have D0 : ∀ h : Heap, h.get? d = some o → h.DictAt (mixKind X.prog X.w) d vs ep := fun h e => ⟨o, es, e, r⟩
  have nf := I1.nofz hd
  have If : Inv X pins σ (upd H1 d (.frz o (.dK kvs))) s1 := I1.retag hd (fun _ z => by cases z) nf (fun _ z => by cases z) (fun _ z => by cases z) ⟨ho, z1, z2, vs, rel, o, es, ep, ho, r⟩
  obtain ⟨h1, h2⟩ := tyV_is (T := "dict") I1 (show RelV (.ref d) (.ref d) from rfl) (.inr (.inr (.inl ⟨rfl, .inl ⟨_, hd⟩⟩)))
  refine ⟨"dict", "dict.items", PySem.F.plainAttrs_dict, PySem.F.slot_dict_items, PySem.F.type_dict_items, h1, h2, Calls.callWith_builtin rfl (PySem.evalArgs_none ?_)⟩
  refine call_meetsIn PySem.F.slot_dict_items h1 PySem.F.entry_dict_items (PySem.F.args_dict_items_1 _) (meets_dict_items (mixKind X.prog X.w) d z2) ⟨⟨vs, (D0 _ ho).dictOf⟩, ?_⟩
  have I2 := If.kept (t' := s1.toks) (h' := s1.heap.push { cls := .type "dict_items", data := .fields #[.ref d] }) fun b o e => Heap.get?_push_of_some _ e
  have ho2 : (s1.heap.push { cls := .type "dict_items", data := .fields #[.ref d] }).get? d = some o := Heap.get?_push_of_some _ ho
  refine wpAny_pyIter_items ⟨_, Heap.get?_push_size _ rfl, rfl, rfl⟩ (D0 _ ho2) ?_
  refine ⟨_, [_], _, _, _, rfl, I2.kept (t' := s1.toks) fun b o e => Heap.get?_push_of_some _ e, turn_items d _ o kvs vs ep (Nat.ne_of_lt (Heap.lt_size ho2)) rel D0, ⟨_, _, Heap.get?_push_size _ rfl⟩, fun b hb => ?_, q o nf⟩
  obtain rfl := List.mem_singleton.mp hb
  exact I2.fpOk (Nat.le_refl _) (I2.hok.fresh (Nat.le_refl _))
def tUnf (nf : Addr → Prop) (t : TE) : TE := fun σ H Q => t σ H fun v H' => ∃ d o kvs, nf d ∧ H' d = some (.frz o (.dK kvs)) ∧ Q v (upd H' d (.dK kvs))
theorem pe_unf {X : Cx} {e : Expr} {t : TE} (h : PE X e t) : PE X e (tUnf (NoFz X) t) := by
  intro pins s σ H Q I hw
  refine thn (h pins s σ H _ I hw) fun u s1 ⟨v, H', I', r', d, o, kvs, nf, hd, q⟩ => ?_
  obtain ⟨_, z⟩ := (show ObjOk X.prog X.w H' s1.heap d (.frz o (.dK kvs)) from I'.hok d _ hd)
  refine ⟨v, _, I'.retag (u' := .dK kvs) hd (fun _ z => by cases z) nf (fun _ z => by cases z) (fun _ z => by cases z) ?_, r', q⟩
  exact z
def tDGetDG (td ty tx : TE) : TE := fun σ H Q => td σ H fun x H1 => ∃ a, x = .ref a ∧ (∃ kvs, H1 a = some (.dK kvs)) ∧ ty σ H1 fun y H2 => tx σ H2 fun z H3 => ∃ kvs k, H3 a = some (.dK kvs) ∧ keyOf y = some k ∧ Q ((valV kvs k).getD z) H3
theorem pe_dgetDG {X : Cx} {o e f : Expr} {apos cpos : Pos} {td ty tx : TE} (hu : X.A.units + 1 < cLine) (ho : PE X o td) (he : PE X e ty) (hf : PE X f tx) (m : M2 X o "get" apos e f cpos) : PE X (.Call (.Attribute o "get" apos) [e, f] [] cpos) (tDGetDG td ty tx) := by
  intro pins s σ H Q I h
  exact pe_dget2 hu ho.up he.up hf.up m pins s σ H Q I ⟨_, h, fun x H1 ⟨a, e, ⟨kvs, hk⟩, q⟩ => ⟨a, e, .inl ⟨kvs, Rd.of hk⟩, _, q, fun y H2 q => ⟨_, q, fun z H3 ⟨kvs, k, h3, ek, q⟩ => ⟨_, by rw [kV_of ek]; exact DGet.k h3, q⟩⟩⟩⟩
end L2

set_option Elab.async false
set_option linter.all false
set_option maxRecDepth 100000
set_option maxHeartbeats 4000000
/-! our own rules: dict(list of pairs) over the abstract heap -/
namespace L2
open PySem PySem.Spec PyProof.Rows
theorem keys_miss : typeLookup (.type "list") "keys" = pure none := by rw [typeLookup_type, builtinLookup_eq_fast]; kernel_rfl
theorem keys_none {prog : Program} {w : World} {A : Around} {E : Value → Shared → Prop} {s : Shared} {a : Addr} {xs : Array Value} {k : Nat} {Q : Option Value → Shared → Prop}
    (hx : s.heap.get? a = some { cls := .type "list", dict := none, data := .seq xs k, slots := #[] }) (hA : A.handled = none)
    (h : ∀ h' tk, (∀ b o, s.heap.get? b = some o → h'.get? b = some o) → Q none { s with heap := h', toks := tk }) : wpAny (model prog w) A (getAttr? (.ref a) "keys") Q E s := by
  obtain ⟨hp, g, d, tk, os⟩ := s
  have hT : ∀ tk', (⟨hp, g, d, tk', os⟩ : Shared).TypeIs (.ref a) "list" := fun _ => ⟨_, hx, rfl⟩
  have f1 := sub_AttributeError
  have f3 := F.slot_list_getattribute.lookup
  have f4 := F.slot_list_getattribute.bind (.ref a)
  have f5 := am_list_getattr_none
  unfold getAttr? getAttrBy? getAttrBy
  repeat (any_goals (first | assumption | exact hT _ | ((with_reducible show wpAny _ _ (call (Value.builtin "list.__getattribute__") _ _) _ _ _); refine call_meets F.slot_list_getattribute (hT _) am_entry_list_getattribute (F.args_list_getattribute_2 _ _) (meets_getattribute_miss_list a xs k #[] "keys" _ keys_miss (by decide +kernel)) ⟨hx, hA, fun h' tk' e hx' => ?_⟩) | wp_step))
  obtain ⟨t', u', he⟩ := hx'.there
  show wpAny _ _ (getattributeRaised _ _ _ _ _ _ _) _ _ _
  unfold getattributeRaised
  have hE : ∀ tk', (⟨h', g, d, tk', os⟩ : Shared).TypeIs (.ref e) "AttributeError" := fun _ => ⟨_, he, rfl⟩
  repeat (any_goals (first | assumption | exact hE _ | exact h _ _ hx'.keeps | wp_step))
theorem entry_upd_loop : entryFor table "dict.update.loop" = some Builtin.«dict.update.loop» := entryFor_of_tree (by kernel_rfl)
section
variable {prog : Program} {w : World}
inductive ItP (prog : Program) (w : World) (h : Heap) (d it : Addr) : List Value → List (Key × Value) → Prop
  | nil : ItP prog w h d it [] []
  | cons {a : Addr} {o : Obj} {key v : Value} {k : Key} {n : Nat} {xs : List Value} {ps : List (Key × Value)} : h.get? a = some o → o.cls = .type "tuple" → o.data = .seq #[key, v] n → (mixKind prog w).is k key = true → a ≠ d → a ≠ it → ItP prog w h d it xs ps → ItP prog w h d it (.ref a :: xs) ((k, v) :: ps)
theorem ItP.keep {h h' : Heap} {d it : Addr} (g : ∀ b o, b ≠ d → b ≠ it → h.get? b = some o → h'.get? b = some o) : ∀ {xs : List Value} {ps : List (Key × Value)}, ItP prog w h d it xs ps → ItP prog w h' d it xs ps
  | _, _, .nil => .nil
  | _, _, .cons h1 h2 h3 h4 h5 h6 r => .cons (g _ _ h5 h6 h1) h2 h3 h4 h5 h6 (r.keep g)
theorem upd_loop {A : Around} {R : Result → Shared → Prop} (hh : A.handled = none) {d it l : Addr} {items : Array Value} (ndi : d ≠ it) (ndl : d ≠ l) (nil : it ≠ l) : ∀ (rest : List (Key × Value)) (i : Nat) (s : Shared) (cur : List (Key × Value)), s.heap.IsListIter it l i → s.heap.IsList l items → ItP prog w s.heap d it (items.toList.drop i) rest →
    s.heap.DictOf (mixKind prog w) d cur → cur.length + rest.length ≤ 1000 →
    (∀ h' tk, h'.DictOf (mixKind prog w) d (rest.foldl (fun c p => stored c p.1 p.2) cur) → (∀ b o, b ≠ d → b ≠ it → s.heap.get? b = some o → h'.get? b = some o) → R (.ok (.ret .none)) { s with heap := h', toks := tk }) →
    codeAny (model prog w) A (.builtin "dict.update.loop" ⟨[.ref d, .ref it, rawInt i, .none], []⟩) R s
  | [], i, s, cur, hit, hl, hp, hm, hsz, hR => by
    refine codeAny_builtin entry_upd_loop ?_
    unfold Builtin.«dict.update.loop»
    have e0 : items[i]? = none := by
      cases h : items.toList.drop i with
      | nil =>
        rw [Array.getElem?_eq_none]
        have := List.drop_eq_nil_iff.mp h
        simpa using this
      | cons x xs => rw [h] at hp; cases hp
    show wpAny _ _ (pyNext (.ref it) >>= _) _ _ s
    refine wpAny_bind (wpAny_pyNext_list_end hh hit hl e0 fun h' eb => ?_)
    show wpAny _ _ (Builtin.Dict.addKeywords d [] >>= _) _ _ _
    refine wpAny_bind (wpAny_pure (wpAny_pure ?_))
    exact hR h' s.toks (hm.extBut eb ndi) fun b o nb nb' e => eb b o nb' e
  | (k, v) :: rest, i, s, cur, hit, hl, hp, hm, hsz, hR => by
    refine codeAny_builtin entry_upd_loop ?_
    unfold Builtin.«dict.update.loop»
    obtain ⟨x, xs, ed⟩ : ∃ x xs, items.toList.drop i = x :: xs := by
      cases h : items.toList.drop i with
      | nil => rw [h] at hp; cases hp
      | cons x xs => exact ⟨x, xs, rfl⟩
    have hi : i < items.size := by
      rcases Nat.lt_or_ge i items.size with h | h
      · exact h
      · rw [List.drop_of_length_le (by simpa using h)] at ed; cases ed
    have e0 : items[i]? = some x := by
      have := congrArg (fun l => l[0]?) ed
      simp only [List.getElem?_drop, Nat.add_zero, List.getElem?_cons_zero, Array.getElem?_toList] at this
      exact this
    have e1 : items.toList.drop (i + 1) = xs := by
      rw [← List.drop_drop, ed]; rfl
    rw [ed] at hp
    cases hp with
    | @cons a o key _ _ n _ _ h1 h2 h3 h4 h5 h6 r =>
    show wpAny _ _ (pyNext (.ref it) >>= _) _ _ s
    refine wpAny_bind (wpAny_pyNext_list_item hit hl e0 fun h' hit' sb => ?_)
    have k1 : ∀ b o, b ≠ it → s.heap.get? b = some o → h'.get? b = some o := fun b o nb e => (sb.2 b nb).trans e
    have ha := k1 a o h6 h1
    have hT : ({ s with heap := h' } : Shared).TypeIs (.ref a) "tuple" := ⟨o, ha, h2⟩
    refine wpAny_bind (wpAny_holding (wpAny_bind (wpAny_tryCatch ?_)))
    unfold Builtin.Dict.pairItems
    refine wpAny_bind (wpAny_typeOf hT ?_)
    rw [if_pos (by decide)]
    refine wpAny_bind (wpAny_seqItems (s := { s with heap := h' }) ha h3 (wpAny_pure ?_))
    show wpAny _ _ (holding [key, v] (dictSet d key v)) _ _ _
    refine wpAny_holding (wpAny_dictSet_pairs h4 (hm.sameBut sb ndi) (fun h'' hm'' sb'' => ?_) (by unfold sizeLine; simp only [List.length_cons] at hsz; omega))
    have k2 : ∀ b o, b ≠ d → b ≠ it → s.heap.get? b = some o → h''.get? b = some o := fun b o nb nb' e => (sb''.2 b nb).trans (k1 b o nb' e)
    refine wpAny_pure ⟨Code.quiet_builtin _ (by decide +kernel), ?_⟩
    have hlen := stored_length_le cur k v
    have ih := upd_loop hh ndi ndl nil rest (i + 1) { s with heap := h'', toks := s.toks + 1 } (stored cur k v) (hit'.at fun o e => (sb''.2 it (Ne.symm ndi)).trans e) (hl.at fun o e => (sb''.2 l (Ne.symm ndl)).trans (k1 l o (Ne.symm nil) e)) (by rw [e1]; exact r.keep k2) hm'' (by simp only [List.length_cons] at hsz; omega) fun h3 tk hm3 k3 => hR h3 tk hm3 fun b o nb nb' e => k3 b o nb nb' (k2 b o nb nb' e)
    have er : rawInt ((i : Int) + 1) = rawInt ((i + 1 : Nat) : Int) := by rw [show ((i + 1 : Nat) : Int) = (i : Int) + 1 by omega]
    show codeAny _ A (.builtin "dict.update.loop" ⟨[.ref d, .ref it, rawInt ((i : Int) + 1), .none], []⟩) R _
    rw [er]
    exact ih
end
inductive PrK (H : Hp) : List V → List (Key × V) → Prop
  | nil : PrK H [] []
  | cons {a : Addr} {k : Key} {v : V} {xs : List V} {ps : List (Key × V)} : H a = some (.tup [kV k, v]) → PrK H xs ps → PrK H (.ref a :: xs) ((k, v) :: ps)
def putAll (ps : List (Key × V)) : List (Key × V) := ps.foldl (fun c p => putK c p.1 p.2) []
def rDictP : List V → Hp → VK → Prop := fun xs H Q => ∃ (p : Addr) (ys : List V) (ps : List (Key × V)), xs = [.ref p] ∧ H p = some (.lst ys) ∧ PrK H ys ps ∧ ps.length < 1000 ∧ ∀ l H', H l = none → Same H H' → H' l = some (.dK (putAll ps)) → Q (.ref l) H'
theorem prk_at {X : Cx} {pins : List (Addr × Obj)} {σ : St} {H : Hp} {s : Shared} (I : Inv X pins σ H s) {d it : Addr} (hd : s.heap.objs.size ≤ d) (hi : s.heap.objs.size ≤ it) : ∀ {ys : List V} {ps : List (Key × V)} {its : List Value}, PrK H ys ps → Vals ys its → ∃ us, ItP X.prog X.w s.heap d it its us ∧ KV ps us
  | _, _, _, .nil, .nil => ⟨[], .nil, .nil⟩
  | _, _, _, @PrK.cons _ a k v xs ps h r, .cons rv rr => by
    obtain ⟨us, h1, h2⟩ := prk_at I hd hi r rr
    cases rv
    obtain ⟨_, its, rt, o, e1, e2, n, e3⟩ := (show ObjOk X.prog X.w H s.heap a (.tup [kV k, v]) from I.hok a _ h)
    obtain ⟨key, u, rfl, ra, rb⟩ := rt.two
    have lt := Heap.lt_size e1
    exact ⟨(k, u) :: us, .cons e1 e2 e3 (kV_is ra) (Nat.ne_of_lt (Nat.lt_of_lt_of_le lt hd)) (Nat.ne_of_lt (Nat.lt_of_lt_of_le lt hi)) h1, .cons ⟨rfl, rb⟩ h2⟩
theorem kv_all : ∀ {ps : List (Key × V)} {us : List (Key × Value)} {cs : List (Key × V)} {ds : List (Key × Value)}, KV ps us → KV cs ds → KV (ps.foldl (fun c p => putK c p.1 p.2) cs) (us.foldl (fun c p => stored c p.1 p.2) ds)
  | [], [], _, _, _, h => h
  | [], _ :: _, _, _, h, _ => by cases h
  | _ :: _, [], _, _, h, _ => by cases h
  | (k, x) :: ps, (k', u) :: us, cs, ds, h, h' => by
    cases h with
    | cons h1 h2 =>
      have e : k = k' := h1.1
      subst e
      exact kv_all (ps := ps) (us := us) h2 (h'.put k h1.2)
theorem putAll_le (ps : List (Key × V)) : (putAll ps).length ≤ ps.length := by
  have : ∀ (ps : List (Key × V)) (c : List (Key × V)), (ps.foldl (fun c p => putK c p.1 p.2) c).length ≤ c.length + ps.length := fun ps => by
    induction ps with
    | nil => intro c; exact Nat.le_refl _
    | cons p ps ih =>
      intro c
      have h1 := ih (putK c p.1 p.2)
      have h2 := length_putK c p.1 p.2
      rw [List.foldl_cons, List.length_cons]
      omega
  have := this ps []
  unfold putAll
  simpa using this
theorem call_dictP {X : Cx} (hc : X.calm = true := by rfl) : CallR X (.type "dict") rDictP := by
  intro pins s σ H xs us Q I r h
  obtain ⟨p, ys, ps, rfl, hp, pk, hsz, q⟩ := h
  obtain ⟨u, rfl, ru⟩ := vals1 r
  cases ru
  obtain ⟨hz, its, n0, rv, e0⟩ := (show ObjOk X.prog X.w H s.heap p (.lst ys) from I.hok p _ hp)
  have hh : X.A.handled = none := I.ok.hd hc
  refine callType_codes (Q₁ := fun obj s₁ => obj = .ref s.heap.objs.size ∧ s₁ = { s with heap := s.heap.push { cls := .type "dict", data := .dict #[] } }) F.kt_called_dict (F.kt_typeCall_dict_1 _) F.entry_dict_init (kt_code_dict_new _ ⟨rfl, rfl⟩) ?_
  rintro obj s₁ ⟨rfl, rfl⟩
  have hnew : (s.heap.push { cls := .type "dict", data := .dict #[] }).DictOf (mixKind X.prog X.w) s.heap.objs.size [] := Heap.DictOf.new s.heap
  have e1 : (s.heap.push { cls := .type "dict", data := .dict #[] }).get? p = some { cls := .type "list", data := .seq its.toArray n0 } := Heap.get?_push_of_some _ e0
  have hT : ({ s with heap := s.heap.push { cls := .type "dict", data := .dict #[] } } : Shared).TypeIs (.ref p) "list" := ⟨_, e1, rfl⟩
  refine ⟨hnew.typeIs, F.args_dict_init_2 _ _, ?_⟩
  unfold Builtin.«dict.__init__»
  refine wpAny_bind ?_
  unfold Builtin.Dict.selfAndRest
  refine wpAny_bind (wpAny_notOrdered_dict hnew.typeIs ?_)
  show wpAny _ _ (pure (s.heap.objs.size, [Value.ref p])) _ _ _
  refine wpAny_pure ?_
  show wpAny _ _ (Builtin.Dict.updateFrom "dict.__init__" s.heap.objs.size (.ref p) [] .none) _ _ _
  unfold Builtin.Dict.updateFrom
  refine wpAny_bind (wpAny_typeOf hT ?_)
  rw [if_pos (by decide)]
  refine wpAny_bind (keys_none e1 hh fun h1 tk1 k1 => ?_)
  have ln : ∀ b o, s.heap.get? b = some o → h1.get? b = some o := fun b o e => k1 _ _ (Heap.get?_push_of_some _ e)
  have hm1 : h1.DictOf (mixKind X.prog X.w) s.heap.objs.size [] := by
    obtain ⟨o, es, ep, ho, r⟩ := hnew
    exact ⟨o, es, ep, k1 _ _ ho, r⟩
  have hl1 : h1.IsList p its.toArray := ⟨_, k1 _ _ e1, rfl, n0, rfl⟩
  have lt1 : s.heap.objs.size < h1.objs.size := by
    obtain ⟨o, es, ep, ho, r⟩ := hm1
    exact Heap.lt_size ho
  have ltp : p < s.heap.objs.size := Heap.lt_size e0
  simp only [Option.isNone_none, if_true]
  refine wpAny_bind (wpAny_rule ?_)
  refine wpAny_bind (wpAny_pyIter_list (s := { s with heap := h1, toks := tk1 }) hl1 ?_)
  refine wpAny_pure ⟨Code.quiet_builtin _ (by decide +kernel), ?_⟩
  obtain ⟨us, hI, hK⟩ := prk_at I (d := s.heap.objs.size) (it := h1.objs.size) (Nat.le_refl _) (Nat.le_of_lt lt1) pk rv
  have hlu : us.length = ps.length := (KV.length hK).symm
  refine upd_loop (prog := X.prog) (w := X.w) (A := X.A.in1) hh (l := p) (Nat.ne_of_lt lt1) (Nat.ne_of_gt ltp) (Nat.ne_of_gt (Nat.lt_trans ltp lt1)) us 0 _ [] ⟨_, Heap.get?_push_size _ rfl, rfl, rfl⟩ (hl1.at fun o e => Heap.get?_push_of_some _ e) ?_ (hm1.push _) (by simp only [List.length_nil]; omega) fun h2 tk2 hm2 k2 => ?_
  · show ItP X.prog X.w _ _ _ (its.toArray.toList.drop 0) us
    rw [List.drop_zero]
    exact hI.keep fun b o _ _ e => Heap.get?_push_of_some _ (ln b o e)
  · refine ⟨rfl, ?_⟩
    have kp : ∀ b o, s.heap.get? b = some o → h2.get? b = some o := fun b o e => by
      have lb := Heap.lt_size e
      exact k2 b o (Nat.ne_of_lt lb) (Nat.ne_of_lt (Nat.lt_trans lb lt1)) (Heap.get?_push_of_some _ (ln b o e))
    have fr : H s.heap.objs.size = none := I.hok.fresh (Nat.le_refl _)
    have hs : (s.heap.objs.size == sysModules) = false := beq_eq_false_iff_ne.mpr (Nat.ne_of_gt I.big)
    have kv : KV (putAll ps) (us.foldl (fun c p => stored c p.1 p.2) []) := kv_all hK .nil
    have le := putAll_le ps
    have I2 := I.laid (a := s.heap.objs.size) (o := .dK (putAll ps)) (t' := tk2) kp (Nat.le_refl _) (show ObjOk X.prog X.w _ h2 _ (.dK (putAll ps)) from ⟨by unfold sizeLine; omega, hs, _, kv, hm2⟩)
    exact ⟨.ref s.heap.objs.size, _, I2, rfl, q _ _ fr (same_new fr _) upd_same⟩
end L2

set_option Elab.async false
set_option linter.all false
set_option maxRecDepth 100000
set_option maxHeartbeats 4000000
/-! our own rules: sorted of pairs of whole numbers: some order of the same -/
namespace L2
open PySem PySem.Spec PyProof.Rows PySem.W
def Gd {α : Type} (N : Nat) (R : α → Prop) : KasT α → Prop
  | .ret a => R a
  | .ask i j k => i < N ∧ j < N ∧ ∀ b, Gd N R (k b)
def Ord (n : Nat) (p : Array Nat) : Prop := p.Perm (List.toArray (List.range n))
theorem Ord.size {n : Nat} {p : Array Nat} (h : Ord n p) : p.size = n := by have := h.size_eq; simpa using this
theorem Ord.get {n : Nat} {p : Array Nat} (h : Ord n p) (hn : 0 < n) (i : Nat) : p.getD i 0 < n := by
  by_cases c : i < p.size
  · have e : p.getD i 0 = p[i] := by simp [Array.getD, c]
    rw [e]
    have hm : p[i] ∈ p.toList := by simp
    have := (Array.perm_iff_toList_perm.mp h).mem_iff.mp hm
    simpa using this
  · have e : p.getD i 0 = 0 := by simp [Array.getD, c]
    rw [e]; exact hn
theorem Ord.rev {n : Nat} {p : Array Nat} (h : Ord n p) (i j : Nat) : Ord n (kas_rev p i j) := (mirror_perm p i j _).trans h
theorem Ord.bub {n : Nat} {p : Array Nat} (h : Ord n p) (i j : Nat) : Ord n (bubble p i j) := (bubble_perm p i j).trans h
section
variable {N : Nat} (hN : 0 < N)
include hN
end
section
variable {prog : Program} {w : World} {A : Around} {E : Value → Shared → Prop} {s : Shared}
end
def rSortT : List V → Hp → VK → Prop := fun xs H Q => ∃ (p : Addr) (ys : List V), xs = [.ref p] ∧ H p = some (.lst ys) ∧ (∀ y ∈ ys, ∃ a i j, y = .ref a ∧ H a = some (.tup [.int i, .int j])) ∧ ys.length < 64 ∧
  ∀ D H' zs, H D = none → Same H H' → H' D = some (.lst zs) → zs.Perm ys → Q (.ref D) H'
end L2

set_option Elab.async false
set_option linter.all false
set_option maxRecDepth 100000
set_option maxHeartbeats 4000000
/-! our own rules: is True, comprehensions over a dict's values and items, comprehensions whose items change the heap -/
namespace L2
open PySem PySem.Spec PyProof.Rows
theorem over_vals {d : Addr} {o : Obj} {kvs : List (Key × V)} : Over (Itv d o kvs) (kvs.map (·.2)) (fun H => H d = some (.frz o (.dK kvs))) where
  go := fun i H h lt => ⟨by simpa using lt, h⟩
  stop := fun i H h le => ⟨by simpa using le, h⟩
  yld := fun i H x H' h lt y => by
    obtain ⟨rfl, k, e⟩ := y
    exact ⟨rfl, by rw [List.getElem?_map, e]; rfl⟩
theorem compJ_items {d : Addr} {o : Obj} {kvs : List (Key × V)} {g : TG} {tc : TT} {te : TE} {cs : St} {H1 : Hp} {Q : VK} (hd1 : H1 d = some (.frz o (.dK kvs))) (sz : kvs.length < sizeLine) (Pv : Addr → Nat → List V → St → Hp → Prop)
    (h0 : ∀ D H', H1 D = none → Same H1 H' → H' D = some (.lst []) → Pv D 0 [] cs H')
    (hs : ∀ D i k x ys σ1 H' p H'', kvs[i]? = some (k, x) → At (kvs.map (·.2)) H1 D i ys H' → Pv D i ys σ1 H' → H' p = none → Same H' H'' → H'' p = some (.tup [kV k, x]) → g (.ref p) σ1 H'' fun σ2 H2 => tc σ2 H2 fun b H3 => if b = true then te σ2 H3 fun v H4 => Put (kvs.map (·.2)) H1 D (Pv D) i σ2 v H4 else Skip (kvs.map (·.2)) H1 D (Pv D) i σ2 H3)
    (hd : ∀ D ys σ1 H', H1 D = none → Same H1 H' → H' D = some (.lst ys) → ys.length ≤ kvs.length → Pv D kvs.length ys σ1 H' → Q (.ref D) H') : CompJ (Iti d o kvs) g tc te cs H1 Q := by
  have el : (kvs.map (·.2)).length = kvs.length := by rw [List.length_map]
  intro D hD
  refine ⟨CW (kvs.map (·.2)) H1 D (Pv D), ⟨_, rfl, Nat.zero_le _, same_new hD _, [], upd_same, Nat.le_refl _, h0 D _ hD (same_new hD _) upd_same⟩, ?_⟩
  rintro i m σ1 H ⟨rfl, hi, sm, ys, hy, ly, p⟩
  by_cases hlt : i < kvs.length
  · refine .inr ⟨⟨hlt, sm _ _ hd1⟩, fun v H' y => ?_⟩
    obtain ⟨pp, k, x, rfl, hn, sm2, hp, hx⟩ := y
    exact hs D i k x ys σ1 H pp H' hx ⟨hD, by rw [el]; exact hlt, by rw [el]; exact sz, sm, hy, ly⟩ p hn sm2 hp
  · have e : i = kvs.length := by rw [el] at hi; omega
    subst e
    exact .inl ⟨⟨Nat.le_refl _, sm _ _ hd1⟩, hd D ys σ1 _ hD sm hy ly p⟩
end L2

set_option Elab.async false
set_option linter.all false
set_option maxRecDepth 100000
set_option maxHeartbeats 4000000
/-! our own rules: list(a dict), a pair of numbers in a list of such pairs, over the abstract heap -/
namespace L2
open PySem PySem.Spec PyProof.Rows
section
variable {X : Cx}
def rListK : List V → Hp → VK → Prop := fun xs H Q => ∃ (d : Addr) (kvs : List (Key × V)), xs = [.ref d] ∧ H d = some (.dK kvs) ∧ kvs.length < 1000 ∧ ∀ l H', H l = none → Same H H' → H' l = some (.lst (kvs.map fun kv => kV kv.1)) → Q (.ref l) H'
theorem vals_of : ∀ (xs : List V) (vs : List Value), vs.length = xs.length → (∀ (j : Nat) (v : Value), vs[j]? = some v → ∃ x, xs[j]? = some x ∧ RelV x v) → Vals xs vs
  | [], [], _, _ => .nil
  | x :: xs, v :: vs, hl, h => by
    obtain ⟨y, e, r⟩ := h 0 v rfl
    cases e
    exact .cons r (vals_of xs vs (by simpa using hl) fun j v e => by simpa using h (j + 1) v (by simpa using e))
  | [], _ :: _, hl, _ => by simp at hl
  | _ :: _, [], hl, _ => by simp at hl
theorem call_listK (hc : X.calm = true := by rfl) : CallR X (.type "list") rListK := by
  intro pins s σ H xs us Q I r h
  obtain ⟨d, kvs, rfl, hd, hz, q⟩ := h
  obtain ⟨u, rfl, ru⟩ := vals1 r
  cases ru
  obtain ⟨z1, z2, vs, rel, o, es, ep, ho, rr⟩ := dk_of I.hok hd
  have hl : kvs.length = vs.length := rel.length
  have big : 1000 ≤ sizeLine := by unfold sizeLine; decide
  refine PySem.W.kdl_call (PySem.W.kdl_dict (knd := mixKind X.prog X.w) (kvs := vs) (ep := ep) z2) (I.ok.hd hc) ⟨o, es, ho, rr⟩ (by omega) fun h' tk acc c' hk hS hacc => ?_
  have fr : H s.heap.objs.size = none := I.hok.fresh (Nat.le_refl _)
  have rv : Vals (kvs.map fun kv => kV kv.1) acc.toList := by
    refine vals_of _ _ (by rw [Array.length_toList, hacc.1, List.length_map, hl]) fun j v hj => ?_
    obtain ⟨k, x, e, hkey⟩ := hacc.2 j v (by rw [← Array.getElem?_toList]; exact hj)
    have h1 := congrArg (fun l => l[j]?) rel.keys
    simp only [List.getElem?_map, e, Option.map_some] at h1
    cases hk2 : kvs[j]? with
    | none => rw [hk2] at h1; cases h1
    | some kv =>
      rw [hk2] at h1
      have h1 : kv.1 = k := Option.some.inj h1
      refine ⟨kV kv.1, by rw [List.getElem?_map, hk2]; rfl, ?_⟩
      rw [h1]
      exact relV_key hkey
  have I2 := I.laid (a := s.heap.objs.size) (o := .lst (kvs.map fun kv => kV kv.1)) (t' := tk) hk (Nat.le_refl _) (show ObjOk X.prog X.w _ h' _ (.lst _) from ⟨by rw [List.length_map]; omega, acc.toList, c', rv, by simpa using hS⟩)
  exact ⟨.ref s.heap.objs.size, _, I2, rfl, q _ _ fr (same_new fr _) upd_same⟩
end
end L2
namespace L2
open PySem PySem.Spec PyProof.Rows
def pairO (i j : Int) : Option HO → Bool
  | some (.tup [.int a, .int b]) => decide (a = i) && decide (b = j)
  | _ => false
def pairV (H : Hp) (i j : Int) : V → Bool
  | .ref b => pairO i j (H b)
  | _ => false
def rInP : R2 := fun x y H Q => ∃ a p i j xs, x = .ref a ∧ y = .ref p ∧ H a = some (.tup [.int i, .int j]) ∧ H p = some (.lst xs) ∧ (∀ v ∈ xs, ∃ b i' j', v = .ref b ∧ H b = some (.tup [.int i', .int j'])) ∧ Q (.bl (xs.any (pairV H i j))) H
def rIntB : List V → Hp → VK → Prop := fun xs H Q => ∃ k, xs = [.bl k] ∧ Q (.int (if k = true then 1 else 0)) H
theorem call_intB {X : Cx} : CallR X (.type "int") rIntB := by
  intro pins s σ H xs us Q I r h
  exact call_int1 pins s σ H xs us Q I r (.inr h)
end L2

set_option Elab.async false
set_option linter.all false
set_option maxRecDepth 100000
set_option maxHeartbeats 4000000
/-! our own rules: sorted of tuples of whole numbers that are all different: rising -/
namespace L2
open PySem PySem.Spec PyProof.Rows PySem.W
def Go {α : Type} (lt : Nat → Nat → Bool) (N : Nat) (R : α → Prop) : KasT α → Prop
  | .ret a => R a
  | .ask i j k => i < N ∧ j < N ∧ Go lt N R (k (lt i j))
theorem Go.bind {α β : Type} {lt : Nat → Nat → Bool} {N : Nat} {R : α → Prop} {S : β → Prop} {f : α → KasT β} (hf : ∀ a, R a → Go lt N S (f a)) : ∀ {t : KasT α}, Go lt N R t → Go lt N S (t.bind f)
  | .ret a, h => hf a h
  | .ask i j k, ⟨h1, h2, h3⟩ => ⟨h1, h2, Go.bind hf h3⟩
theorem Go.wp {α : Type} {lt : Nat → Nat → Bool} {N : Nat} {R : α → Prop} {cmp : Nat → Nat → (Bool → Shared → Prop) → Shared → Prop} {Q : α → Shared → Prop} {s : Shared} (hc : ∀ i j, i < N → j < N → ∀ C : Bool → Shared → Prop, C (lt i j) s → cmp i j C s) (hq : ∀ a, R a → Q a s) : ∀ {t : KasT α}, Go lt N R t → t.kasWp cmp Q s
  | .ret a, h => hq a h
  | .ask i j k, ⟨h1, h2, h3⟩ => hc i j h1 h2 _ (Go.wp hc hq h3)
section
variable {lt : Nat → Nat → Bool} {N : Nat} (hN : 0 < N) (tr : ∀ i j k, lt i j = true → lt j k = true → lt i k = true) (tot : ∀ i j, i < N → j < N → i ≠ j → lt i j = true ∨ lt j i = true)
def Up (lt : Nat → Nat → Bool) (p : Array Nat) (k : Nat) : Prop := ∀ i j, i < j → j < k → lt (p.getD i 0) (p.getD j 0) = true
def Down (lt : Nat → Nat → Bool) (p : Array Nat) (k : Nat) : Prop := ∀ i j, i < j → j < k → lt (p.getD j 0) (p.getD i 0) = true
theorem Ord.ne {p : Array Nat} (h : Ord N p) {i j : Nat} (hij : i < j) (hj : j < N) : p.getD i 0 ≠ p.getD j 0 := by
  have nd : p.toList.Nodup := by
    have := (Array.perm_iff_toList_perm.mp h).nodup_iff.mpr (by simpa using List.nodup_range)
    exact this
  have hs := h.size
  have hi' : i < p.size := by omega
  have hj' : j < p.size := by omega
  simp only [Array.getD, hi', hj', dif_pos]
  intro e
  have := (List.pairwise_iff_getElem.mp nd) i j (by simpa using hi') (by simpa using hj') hij
  exact this (by simpa using e)
include tr in
theorem Up.step {p : Array Nat} {n : Nat} (h : Up lt p n) (h1 : 1 ≤ n) (hl : lt (p.getD (n - 1) 0) (p.getD n 0) = true) : Up lt p (n + 1) := fun i j hij hj => by
  by_cases e : j = n
  · subst e
    by_cases e2 : i = j - 1
    · subst e2; exact hl
    · exact tr _ _ _ (h i (j - 1) (by omega) (by omega)) hl
  · exact h i j hij (by omega)
include tr in
theorem Down.step {p : Array Nat} {n : Nat} (h : Down lt p n) (h1 : 1 ≤ n) (hl : lt (p.getD n 0) (p.getD (n - 1) 0) = true) : Down lt p (n + 1) := fun i j hij hj => by
  by_cases e : j = n
  · subst e
    by_cases e2 : i = j - 1
    · subst e2; exact hl
    · exact tr _ _ _ hl (h i (j - 1) (by omega) (by omega))
  · exact h i j hij (by omega)
include hN tr tot in
theorem go_asc {p : Array Nat} (hp : Ord N p) : ∀ f n, 1 ≤ n → n + f ≤ N → Up lt p n → Go lt N (fun m => n ≤ m ∧ m ≤ n + f ∧ Up lt p m ∧ (m < n + f → lt (p.getD m 0) (p.getD (m - 1) 0) = true)) (kas_asc p f n)
  | 0, n, h1, hl, hu => ⟨Nat.le_refl _, Nat.le_refl _, hu, fun z => absurd z (by omega)⟩
  | f + 1, n, h1, hl, hu => by
    refine ⟨hp.get hN _, hp.get hN _, ?_⟩
    cases b : lt (p.getD n 0) (p.getD (n - 1) 0) with
    | true => exact ⟨Nat.le_refl _, by omega, hu, fun _ => b⟩
    | false =>
      have hl2 : lt (p.getD (n - 1) 0) (p.getD n 0) = true := ((tot _ _ (hp.get hN _) (hp.get hN _) (hp.ne (by omega) (by omega))).resolve_right (by rw [b]; simp))
      have := go_asc hp f (n + 1) (by omega) (by omega) (hu.step tr h1 hl2)
      show Go lt N _ (kas_asc p f (n + 1))
      rw [show n + (f + 1) = n + 1 + f by omega]
      have w : ∀ {t : KasT Nat}, Go lt N (fun m => n + 1 ≤ m ∧ m ≤ n + 1 + f ∧ Up lt p m ∧ (m < n + 1 + f → lt (p.getD m 0) (p.getD (m - 1) 0) = true)) t → Go lt N (fun m => n ≤ m ∧ m ≤ n + 1 + f ∧ Up lt p m ∧ (m < n + 1 + f → lt (p.getD m 0) (p.getD (m - 1) 0) = true)) t := by
        intro t
        induction t with
        | ret a => exact fun h => ⟨by have := h.1; omega, h.2⟩
        | ask i j k ih => exact fun h => ⟨h.1, h.2.1, ih _ h.2.2⟩
      exact w this
include hN tr tot in
theorem go_desc {p : Array Nat} (hp : Ord N p) : ∀ f n, 1 ≤ n → n + f ≤ N → Down lt p n → Go lt N (fun r => r.1 = p ∧ r.2.2 = 0 ∧ Down lt p r.2.1 ∧ 1 ≤ r.2.1 ∧ r.2.1 ≤ N) (kas_desc f p n 0)
  | 0, n, h1, hl, hu => ⟨rfl, rfl, hu, h1, by omega⟩
  | f + 1, n, h1, hl, hu => by
    refine ⟨hp.get hN _, hp.get hN _, ?_⟩
    cases b : lt (p.getD n 0) (p.getD (n - 1) 0) with
    | true =>
      show Go lt N _ (if true = true then (if 0 > 0 then kas_desc f (kas_rev p (n - (0 + 1)) n) (n + 1) 0 else kas_desc f p (n + 1) 0) else _)
      rw [if_pos rfl, if_neg (by omega)]
      exact go_desc hp f (n + 1) (by omega) (by omega) (hu.step tr h1 b)
    | false =>
      show Go lt N _ (if false = true then _ else KasT.ask (p.getD (n - 1) 0) (p.getD n 0) fun d => if d = true then .ret (p, n, 0) else kas_desc f p (n + 1) (0 + 1))
      rw [if_neg (by decide)]
      have hl2 : lt (p.getD (n - 1) 0) (p.getD n 0) = true := ((tot _ _ (hp.get hN _) (hp.get hN _) (hp.ne (by omega) (by omega))).resolve_right (by rw [b]; simp))
      refine ⟨hp.get hN _, hp.get hN _, ?_⟩
      rw [hl2]
      exact ⟨rfl, rfl, hu, h1, by show n ≤ N; omega⟩
theorem rev_up {p : Array Nat} (hp : Ord N p) {n : Nat} (hn : n ≤ N) (h : Down lt p n) : Up lt (kas_rev p 0 n) n := fun i j hij hj => by
  have hs := hp.size
  have g : ∀ k, k < n → (kas_rev p 0 n).getD k 0 = p.getD (n - 1 - k) 0 := fun k hk => by
    have e := getElem?_mirror_all (xs := p) (i := 0) (j := n) (by omega) k
    rw [if_pos ⟨Nat.zero_le _, hk⟩] at e
    show (kas_rev p 0 n).getD k 0 = _
    rw [Array.getD_eq_getD_getElem?, Array.getD_eq_getD_getElem?]
    unfold kas_rev
    rw [e]
    congr 2; omega
  rw [g i (by omega), g j hj]
  exact h _ _ (by omega) (by omega)
include hN tr tot in
theorem go_count {p : Array Nat} (hp : Ord N p) (h2 : 2 ≤ N) : Go lt N (fun r => Ord N r.2 ∧ Up lt r.2 r.1 ∧ 1 ≤ r.1 ∧ r.1 ≤ N) (kas_count N p) := by
  refine (go_asc hN tr tot hp (N - 1) 1 (Nat.le_refl _) (by omega) fun i j hij hj => absurd hj (by omega)).bind fun n ⟨a1, a2, a3, a4⟩ => ?_
  by_cases c : (n == N) = true
  · rw [if_pos c]; exact ⟨hp, a3, a1, by omega⟩
  · rw [if_neg c]
    have c : n ≠ N := fun z => c (by rw [z]; exact beq_self_eq_true N)
    by_cases c2 : n > 1
    · rw [if_pos c2]
      refine ⟨hp.get hN _, hp.get hN _, ?_⟩
      rw [a3 0 (n - 1) (by omega) (by omega)]
      exact ⟨hp, a3, a1, by omega⟩
    · rw [if_neg c2]
      have e1 : n = 1 := by omega
      subst e1
      have b := a4 (by omega)
      have d2 : Down lt p 2 := fun i j hij hj => by
        have : i = 0 := by omega
        have : j = 1 := by omega
        subst i; subst j
        exact b
      refine (go_desc hN tr tot hp (N - 2) 2 (by omega) (by omega) d2).bind fun r ⟨b1, b2, b3, b4, b5⟩ => ?_
      rw [if_neg (by omega)]
      obtain ⟨r1, r2, r3⟩ := r
      cases b1
      refine (go_asc hN tr tot (hp.rev _ _) (N - r2) r2 b4 (by dsimp only at b5; omega) (rev_up hp b5 b3)).bind fun m ⟨m1, m2, m3, m4⟩ => ?_
      exact ⟨hp.rev _ _, m3, by dsimp only at b4; dsimp only; omega, by dsimp only at b5; dsimp only; omega⟩
include hN tr tot in
theorem go_place {p : Array Nat} (hp : Ord N p) {k : Nat} (hk : k < N) : ∀ f l r, l ≤ r → r ≤ k → r - l ≤ f → Up lt p k → (∀ i, i < l → lt (p.getD i 0) (p.getD k 0) = true) → (∀ i, r ≤ i → i < k → lt (p.getD k 0) (p.getD i 0) = true) → Go lt N (fun l => l ≤ k ∧ (∀ i, i < l → lt (p.getD i 0) (p.getD k 0) = true) ∧ (∀ i, l ≤ i → i < k → lt (p.getD k 0) (p.getD i 0) = true)) (kas_place p k f l r)
  | 0, l, r, h1, h2, h3, hu, h4, h5 => ⟨by omega, h4, fun i hi => h5 i (by omega)⟩
  | f + 1, l, r, h1, h2, h3, hu, h4, h5 => by
    show Go lt N _ (if l ≥ r then KasT.ret l else _)
    by_cases c : l ≥ r
    · rw [if_pos c]; exact ⟨by omega, h4, fun i hi => h5 i (by omega)⟩
    · rw [if_neg c]
      refine ⟨hp.get hN _, hp.get hN _, ?_⟩
      cases b : lt (p.getD k 0) (p.getD ((l + r) / 2) 0) with
      | true =>
        refine go_place hp hk f l ((l + r) / 2) (by omega) (by omega) (by omega) hu h4 fun i hi hik => ?_
        by_cases e : i = (l + r) / 2
        · rw [e]; exact b
        · exact tr _ _ _ b (hu _ _ (by omega) hik)
      | false =>
        have hl2 : lt (p.getD ((l + r) / 2) 0) (p.getD k 0) = true := ((tot _ _ (hp.get hN _) (hp.get hN _) (hp.ne (by omega) hk)).resolve_right (by rw [b]; simp))
        refine go_place hp hk f ((l + r) / 2 + 1) r (by omega) (by omega) (by omega) hu (fun i hi => ?_) h5
        by_cases e : i = (l + r) / 2
        · rw [e]; exact hl2
        · exact tr _ _ _ (hu _ _ (by omega) (by omega)) hl2
theorem bub_up {p : Array Nat} (hp : Ord N p) {k l : Nat} (hk : k < N) (hl : l ≤ k) (hu : Up lt p k) (h4 : ∀ i, i < l → lt (p.getD i 0) (p.getD k 0) = true) (h5 : ∀ i, l ≤ i → i < k → lt (p.getD k 0) (p.getD i 0) = true) : Up lt (bubble p k (k - l)) (k + 1) := by
  have hs := hp.size
  have g : ∀ i, (bubble p k (k - l)).getD i 0 = if i = l then p.getD k 0 else if l < i ∧ i ≤ k then p.getD (i - 1) 0 else p.getD i 0 := fun i => by
    have e := getElem?_bubble (xs := p) (src := k) (by omega) (k - l) (by omega) i
    rw [show k - (k - l) = l by omega] at e
    rw [Array.getD_eq_getD_getElem?, e]
    split
    · rw [Array.getD_eq_getD_getElem?]
    · split
      · rw [Array.getD_eq_getD_getElem?]
      · rw [Array.getD_eq_getD_getElem?]
  intro i j hij hj
  rw [g i, g j]
  by_cases c1 : i = l
  · rw [if_pos c1, if_neg (by omega), if_pos ⟨by omega, by omega⟩]
    exact h5 _ (by omega) (by omega)
  · rw [if_neg c1]
    by_cases c2 : j = l
    · rw [if_pos c2, if_neg (by omega)]
      exact h4 _ (by omega)
    · rw [if_neg c2]
      by_cases c3 : l < i
      · rw [if_pos ⟨c3, by omega⟩, if_pos ⟨by omega, by omega⟩]
        exact hu _ _ (by omega) (by omega)
      · rw [if_neg (by omega)]
        by_cases c4 : l < j
        · rw [if_pos ⟨c4, by omega⟩]
          exact hu _ _ (by omega) (by omega)
        · rw [if_neg (by omega)]
          exact hu _ _ hij (by omega)
include hN tr tot in
theorem go_bin : ∀ (f : Nat) {p : Array Nat} (k : Nat), Ord N p → k + f = N → Up lt p k → Go lt N (fun p => Ord N p ∧ Up lt p N) (kas_bin f p k)
  | 0, p, k, hp, hk, hu => ⟨hp, by rw [← hk]; exact hu⟩
  | f + 1, p, k, hp, hk, hu => (go_place hN tr tot hp (by omega) k 0 k (by omega) (by omega) (by omega) hu (fun i hi => absurd hi (by omega)) (fun i h1 h2 => absurd h2 (by omega))).bind fun l ⟨a1, a2, a3⟩ => go_bin f (k + 1) (hp.bub _ _) (by omega) (bub_up hp (by omega) a1 hu a2 a3)
include hN tr tot in
theorem go_sort (h2 : 2 ≤ N) : Go lt N (fun p => Ord N p ∧ Up lt p N) (kas_sort N) := (go_count hN tr tot (Array.Perm.refl _) h2).bind fun r ⟨a1, a2, a3, a4⟩ => by
  by_cases c : r.1 < N
  · rw [if_pos c, show max r.1 1 = r.1 by omega]
    exact go_bin hN tr tot _ _ a1 (by omega) a2
  · rw [if_neg c]
    exact ⟨a1, by rw [show N = r.1 by omega]; exact a2⟩
end

theorem lex_trans : ∀ {x y z : List Int}, HT.lexLt x y = true → HT.lexLt y z = true → HT.lexLt x z = true
  | [], [], _, h, _ => by cases h
  | [], _ :: _, [], _, h => by cases h
  | [], _ :: _, _ :: _, _, _ => rfl
  | _ :: _, [], _, h, _ => by cases h
  | _ :: _, _ :: _, [], _, h => by cases h
  | a :: x, b :: y, c :: z, h, h' => by
    rw [HT.lexLt_cons] at h h' ⊢
    by_cases e1 : a = b
    · rw [if_pos e1] at h
      by_cases e2 : b = c
      · rw [if_pos e2] at h'
        rw [if_pos (e1.trans e2)]
        exact lex_trans h h'
      · rw [if_neg e2] at h'
        rw [if_neg (by rw [e1]; exact e2), e1]
        exact h'
    · rw [if_neg e1] at h
      by_cases e2 : b = c
      · rw [if_neg (by rw [← e2]; exact e1), ← e2]
        exact h
      · rw [if_neg e2] at h'
        have h := of_decide_eq_true h
        have h' := of_decide_eq_true h'
        rw [if_neg (by omega)]
        exact decide_eq_true (by omega)
theorem lex_total : ∀ {x y : List Int}, x ≠ y → HT.lexLt x y = true ∨ HT.lexLt y x = true
  | [], [], h => absurd rfl h
  | [], _ :: _, _ => .inl rfl
  | _ :: _, [], _ => .inr rfl
  | a :: x, b :: y, h => by
    rw [HT.lexLt_cons, HT.lexLt_cons]
    by_cases e : a = b
    · rw [if_pos e, if_pos e.symm]
      exact lex_total fun z => h (by rw [e, z])
    · rw [if_neg e, if_neg (Ne.symm e)]
      rcases Int.lt_or_gt_of_ne e with z | z
      · exact .inl (decide_eq_true z)
      · exact .inr (decide_eq_true z)
def TpI (h : Heap) (v : Value) (ns : List Int) : Prop := ∃ a o us n, v = .ref a ∧ h.get? a = some o ∧ o.cls = .type "tuple" ∧ o.data = .seq (List.toArray us) n ∧ IntsAre us ns
section
variable {prog : Program} {w : World} {A : Around} {E : Value → Shared → Prop} {s : Shared}
theorem katI {b : Bool} {Q : Bool → Shared → Prop} : ∀ {us vs : List Value} {xs ys : List Int} (i : Nat), IntsAre us xs → IntsAre vs ys → xs.length = ys.length → Q (HT.lexLt xs ys) s → KatLex prog w A b false Q (us.zip vs) i s
  | _, _, _, _, i, .nil, .nil, _, h => kat_nil h
  | _, _, _, _, i, .nil, .cons _ _ _, hl, h => by cases hl
  | _, _, _, _, i, .cons _ _ _, .nil, hl, h => by cases hl
  | _, _, _, _, i, .cons m t hx, .cons n u hy, hl, h => by
    rw [List.zip_cons_cons]
    refine kat_cons (wpAny_eqBool_int ?_)
    refine kat_go (fun e => kat_yes (katI (i + 1) hx hy (by simpa using hl) ?_)) fun e => kat_no ?_
    · rw [HT.lexLt_cons, if_pos (by simpa using e)] at h
      exact h
    · rw [HT.lexLt_cons, if_neg (by simpa using e)] at h
      cases c : (b && i == 0) with
      | true => exact oneLt_int h
      | false => exact kat_one _ _ (lt_int h)
theorem tpI_lt {x y : Value} {xs ys : List Int} {Q : Bool → Shared → Prop} (hx : TpI s.heap x xs) (hy : TpI s.heap y ys) (hl : xs.length = ys.length) (h : Q (HT.lexLt xs ys) s) : wpAny (model prog w) A (keyLt' (tuples' true) x y) Q E s := by
  obtain ⟨a, o, us, n, rfl, h1, h2, h3, h4⟩ := hx
  obtain ⟨a', o', us', n', rfl, h1', h2', h3', h4'⟩ := hy
  refine kat_lt h1 h3 h1' h3' ?_
  have e : decide (us.toArray.size < us'.toArray.size) = false := by
    have a1 := h4.length
    have a2 := h4'.length
    simp; omega
  rw [e]
  simpa using katI 0 h4 h4' hl h
theorem tpI_firsts {h : Heap} : ∀ {ps : List (Addr × List Int)}, (∀ q ∈ ps, TpI h (.ref q.1) q.2 ∧ 0 < q.2.length) → ∃ fs, KatTups h (ps.map fun q => Value.ref q.1) fs ∧ fs.length = ps.length ∧ ∀ f ∈ fs, ∃ i t, f = Value.int i t
  | [], _ => ⟨[], trivial, rfl, fun f hf => absurd hf List.not_mem_nil⟩
  | q :: ps, hv => by
    obtain ⟨⟨a, o, us, n, e0, h1, h2, h3, h4⟩, h5⟩ := hv q List.mem_cons_self
    cases e0
    obtain ⟨fs, k, l, e⟩ := tpI_firsts fun u hu => hv u (List.mem_cons_of_mem _ hu)
    revert h5
    generalize hq : q.2 = q2 at h4
    cases h4 with
    | nil => exact fun h => absurd h (by decide)
    | cons i t r => exact fun _ => ⟨.int i t :: fs, .cons h1 h2 h3 rfl k, by rw [List.length_cons, List.length_cons, l], fun f hf => (List.mem_cons.mp hf).elim (fun z => ⟨i, t, z⟩) (e f)⟩
theorem list_sort_tpO {a : Addr} {ps : List (Addr × List Int)} {L n : Nat} {P : Fin → Shared → Prop} (hh : A.handled = none) (ho : s.heap.get? a = some (seqObj "list" (ps.map fun q => Value.ref q.1).toArray n)) (tv : ∀ q ∈ ps, TpI s.heap (.ref q.1) q.2 ∧ q.1 ≠ a) (hL : 0 < L) (tl : ∀ q ∈ ps, q.2.length = L) (nd : ps.Pairwise (fun q r => q.2 ≠ r.2)) (h64 : ps.length < 64)
    (h : ∀ qs : List (Addr × List Int), qs.Perm ps → qs.Pairwise (fun q r => HT.lexLt q.2 r.2 = true) → P (.done (.ret .none)) { s with heap := sortedHeap s.heap a (ps.map fun q => Value.ref q.1) (qs.map fun q => Value.ref q.1).toArray }) :
    wpAny (model prog w) A (Builtin.«list.sort» ⟨[.ref a], []⟩) P E s := by
  generalize hvs : (ps.map fun q => Value.ref q.1) = vs at ho h ⊢
  have lvs : vs.length = ps.length := by rw [← hvs, List.length_map]
  rw [list_sort_plain]
  have ha : a < s.heap.objs.size := Heap.lt_size ho
  refine wpAny_bind (listItems_at ho rfl ?_)
  refine wpAny_bind (listUpdate_at ho rfl ?_)
  obtain ⟨e1, ho1⟩ : ∃ e1, (s.heap.update a (Obj.mapSeq fun _ => #[])).get? a = some (seqObj "list" #[] e1) := ⟨_, get?_update_seq ho (fun _ => #[])⟩
  refine wpAny_bind (seqEpoch_at ho1 rfl ?_)
  refine wpAny_bind (wpAny_newTuple ?_)
  refine wpAny_bind (wpAny_newList ?_)
  refine wpAny_holding ?_
  have ho6 : (((s.heap.update a (Obj.mapSeq fun _ => #[])).push (seqObj "tuple" vs.toArray 0)).push (seqObj "list" #[] 0)).get? a = some (seqObj "list" #[] e1) := by
    rw [Heap.get?_push_ne _ _ _ (by rw [size_push', Heap.size_update]; exact Nat.ne_of_lt (Nat.lt_succ_of_lt ha)), Heap.get?_push_ne _ _ _ (by rw [Heap.size_update]; exact Nat.ne_of_lt ha)]
    exact ho1
  show wpAny (model prog w) A _ P E { s with heap := ((s.heap.update a (Obj.mapSeq fun _ => #[])).push (seqObj "tuple" vs.toArray 0)).push (seqObj "list" #[] 0) }
  dsimp only
  have hsz : vs.toArray.size = vs.length := by simp
  have tv6 : ∀ q ∈ ps, TpI (((s.heap.update a (Obj.mapSeq fun _ => #[])).push (seqObj "tuple" vs.toArray 0)).push (seqObj "list" #[] 0)) (.ref q.1) q.2 := fun q hq => by
    obtain ⟨⟨b, o, us, n, e0, h1, h2, h3, h4⟩, nb⟩ := tv q hq
    cases e0
    refine ⟨q.1, o, us, n, rfl, Heap.get?_push_of_some _ (Heap.get?_push_of_some _ ?_), h2, h3, h4⟩
    rw [Heap.get?_update_ne _ _ _ _ nb]
    exact h1
  by_cases h2 : vs.toArray.size < 2
  · rw [if_pos h2, if_pos h2]
    refine wpAny_bind (wpAny_pure ?_)
    rw [StateT.run_pure]
    refine wpAny_bind (wpAny_pure ?_)
    dsimp only
    refine wpAny_bind (seqEpoch_at ho6 rfl ?_)
    refine wpAny_bind (listUpdate_at ho6 rfl ?_ (hsz2 := by rw [Array.size_map]; show (PyProof.Rows.pairsOf vs).size ≤ _; rw [PyProof.Rows.pairsOf_size, sizeLine_eq]; omega))
    simp only [bne_self_eq_false, Bool.false_eq_true, if_false]
    refine wpAny_pure ?_
    have e : ((vs.toArray.zip vs.toArray).map (·.2)) = vs.toArray := by
      apply Array.toList_inj.mp
      rw [Array.toList_map, Array.toList_zip]
      exact List.map_snd_zip (Nat.le_refl _)
    have one : ps.Pairwise (fun q r => HT.lexLt q.2 r.2 = true) := by
      rw [hsz, lvs] at h2
      match ps, h2 with
      | [], _ => exact .nil
      | [q], _ => exact List.pairwise_singleton _ _
    have := h ps (List.Perm.refl _) one
    rw [hvs, ← e] at this
    exact this
  · rw [if_neg h2, if_neg h2]
    obtain ⟨fs, k, l, e⟩ := tpI_firsts fun q hq => ⟨tv6 q hq, by rw [tl q hq]; exact hL⟩
    rw [hvs] at k
    have h2' : 2 ≤ vs.length := by omega
    refine wpAny_bind (kat_kind k (by omega) (T := .type "int") (fun f hf => ?_) (by decide) ?_)
    · obtain ⟨i, t, rfl⟩ := e f hf
      exact PySem.W.Looks.now
    have key : ∀ i, i < vs.length → ∃ q, ps[i]? = some q ∧ vs.getD i Value.none = .ref q.1 ∧ (ps.map (·.2)).getD i [] = q.2 ∧ q ∈ ps := fun i hi => by
      have hi' : i < ps.length := by omega
      refine ⟨ps[i], List.getElem?_eq_getElem hi', ?_, ?_, List.getElem_mem hi'⟩
      · simp [← hvs, hi']
      · simp [hi']
    let lt : Nat → Nat → Bool := fun i j => HT.lexLt ((ps.map (·.2)).getD i []) ((ps.map (·.2)).getD j [])
    refine wpAny_bind (wpAny_mono (kat_run (Q := fun st' s' => ∃ p : Array Nat, (Ord vs.length p ∧ Up lt p vs.length) ∧ arrOf st' = p.map (kas_item (vs.toArray.zip vs.toArray)) ∧ failedOf st' = none ∧ s' = { s with heap := ((s.heap.update a (Obj.mapSeq fun _ => #[])).push (seqObj "tuple" vs.toArray 0)).push (seqObj "list" #[] 0) })
      (G := fun p s' => (Ord vs.length p ∧ Up lt p vs.length) ∧ s' = { s with heap := ((s.heap.update a (Obj.mapSeq fun _ => #[])).push (seqObj "tuple" vs.toArray 0)).push (seqObj "list" #[] 0) }) rfl h2' (by omega) (fun p st' s' a1 a2 a3 a4 => ⟨p, a4.1, a2, a3, a4.2⟩) ?_) ?_ fun _ _ e => e)
    · refine Go.wp (N := vs.length) (lt := lt) (fun i j hi hj C hC => ?_) (fun p hp => ⟨hp, rfl⟩) (go_sort (by omega) (fun i j k => lex_trans) (fun i j hi hj hij => lex_total ?_) h2')
      · obtain ⟨q, _, e1, e2, m1⟩ := key i hi
        obtain ⟨r, _, e3, e4, m2⟩ := key j hj
        show wpAny (model prog w) A (keyLt' (tuples' true) (vs.getD i Value.none) (vs.getD j Value.none)) C _ _
        rw [e1, e3]
        refine tpI_lt (tv6 q m1) (tv6 r m2) (by rw [tl q m1, tl r m2]) ?_
        have : lt i j = HT.lexLt q.2 r.2 := by show HT.lexLt _ _ = _; rw [e2, e4]
        rw [← this]
        exact hC
      · obtain ⟨q, g1, _, e2, _⟩ := key i hi
        obtain ⟨r, g2, _, e4, _⟩ := key j hj
        rw [e2, e4]
        have g1 := List.getElem?_eq_some_iff.mp g1
        have g2 := List.getElem?_eq_some_iff.mp g2
        obtain ⟨u1, g1⟩ := g1
        obtain ⟨u2, g2⟩ := g2
        rcases Nat.lt_or_gt_of_ne hij with z | z
        · have := List.pairwise_iff_getElem.mp nd i j u1 u2 z
          rw [g1, g2] at this; exact this
        · have := List.pairwise_iff_getElem.mp nd j i u2 u1 z
          rw [g1, g2] at this; exact this.symm
    · rintro ⟨⟨⟩, st'⟩ s' ⟨p, ⟨hp, up⟩, har, hf, rfl⟩
      dsimp only
      have hout : (arrOf st').map (·.2) = List.toArray (p.toList.map fun i => vs.getD i Value.none) := kat_snds rfl har
      have hps := hp.size
      have dflt : ∀ i ∈ p.toList, i < ps.length := fun i hi => by
        have := (Array.perm_iff_toList_perm.mp hp).mem_iff.mp hi
        have := List.mem_range.mp (by simpa using this)
        omega
      let g : Nat → Addr × List Int := fun i => ps.getD i (0, [])
      have hq : (p.toList.map fun i => vs.getD i Value.none) = (p.toList.map g).map fun q => Value.ref q.1 := by
        rw [List.map_map]
        refine List.map_congr_left fun i hi => ?_
        have := dflt i hi
        simp [g, ← hvs, this]
      have hpm : (p.toList.map g).Perm ps := by
        have h1 := (Array.perm_iff_toList_perm.mp hp).map g
        have h3 : ((List.range vs.length).map g) = ps := by
          refine List.ext_getElem (by simp [lvs]) fun i h1 h2 => ?_
          simp [g, h2]
        simp only [List.toList_toArray] at h1
        rw [h3] at h1
        exact h1
      have hord : (p.toList.map g).Pairwise (fun q r => HT.lexLt q.2 r.2 = true) := by
        rw [List.pairwise_iff_getElem]
        intro i j hi hj hij
        have hi' : i < p.size := by simpa using hi
        have hj' : j < p.size := by simpa using hj
        have := up i j hij (by omega)
        have gi : ∀ k (hk : k < p.size), p.getD k 0 = p[k] := fun k hk => by simp [Array.getD, hk]
        rw [gi i hi', gi j hj'] at this
        have ki := dflt p[i] (by simp)
        have kj := dflt p[j] (by simp)
        simpa [lt, g, ki, kj] using this
      refine wpAny_bind (seqEpoch_at ho6 rfl ?_)
      rw [hout, hq]
      refine wpAny_bind (listUpdate_at ho6 rfl ?_ (hsz2 := by rw [List.size_toArray, List.length_map, hpm.length_eq, sizeLine_eq]; omega))
      rw [show failedOf st' = none from hf]
      simp only [bne_self_eq_false, Bool.false_eq_true, if_false]
      exact wpAny_pure (h _ hpm hord)
theorem sorted_tpO {l : Addr} {ps : List (Addr × List Int)} {L : Nat} {Q : Value → Shared → Prop} (hh : A.handled = none) (hl : s.heap.IsList l (ps.map fun q => Value.ref q.1).toArray) (tv : ∀ q ∈ ps, TpI s.heap (.ref q.1) q.2) (hL : 0 < L) (tl : ∀ q ∈ ps, q.2.length = L) (nd : ps.Pairwise (fun q r => q.2 ≠ r.2)) (h64 : ps.length < 64)
    (h : ∀ qs : List (Addr × List Int), qs.Perm ps → qs.Pairwise (fun q r => HT.lexLt q.2 r.2 = true) → Q (.ref (s.heap.objs.size + 1)) { s with heap := sortedAll s.heap (ps.map fun q => Value.ref q.1) (qs.map fun q => Value.ref q.1).toArray }) :
    wpAny (model prog w) A (call (.builtin "sorted") [.ref l]) Q E s := by
  refine Calls.call_function_entry kind_sorted plain_sorted entry_sorted (args_sorted1 _) ?_
  unfold Builtin.«sorted»
  refine wpAny_bind (m := checkCount "sorted" 1 1 _) (wpAny_pure ?_)
  refine wpAny_bind (collect_list hl ?_)
  refine wpAny_bind (wpAny_newList ?_)
  generalize hvs : (ps.map fun q => Value.ref q.1) = vs at hl h ⊢
  have hsz : ((s.heap.push (seqObj "list" #[] 0)).update s.heap.objs.size (Obj.mapSeq (· ++ vs.toArray))).objs.size = s.heap.objs.size + 1 := by
    rw [Heap.size_update, size_push']
  have hoL : (((s.heap.push (seqObj "list" #[] 0)).update s.heap.objs.size (Obj.mapSeq (· ++ vs.toArray))).push (seqObj "list" vs.toArray 0)).get? (s.heap.objs.size + 1) = some (seqObj "list" vs.toArray 0) := by
    rw [← hsz]; exact Heap.get?_push_size _ rfl
  have keep : ∀ b o, s.heap.get? b = some o → (((s.heap.push (seqObj "list" #[] 0)).update s.heap.objs.size (Obj.mapSeq (· ++ vs.toArray))).push (seqObj "list" vs.toArray 0)).get? b = some o := fun b o q => by
    have hlt : b < s.heap.objs.size := Heap.lt_size q
    rw [Heap.get?_push_ne _ _ _ (by rw [hsz]; exact Nat.ne_of_lt (Nat.lt_succ_of_lt hlt)), Heap.get?_update_ne _ _ _ _ (Nat.ne_of_lt hlt), Heap.get?_push_ne _ _ _ (Nat.ne_of_lt hlt)]
    exact q
  show wpAny _ _ _ _ _ { s with heap := ((s.heap.push (seqObj "list" #[] 0)).update s.heap.objs.size (Obj.mapSeq (· ++ vs.toArray))).push (seqObj "list" vs.toArray 0) }
  rw [hsz]
  subst hvs
  refine wpAny_bind (wpAny_holding (wpAny_call_entry slot_list_sort ⟨_, hoL, rfl⟩ entry_list_sort (list_sort_tpO hh hoL (fun q hq => ?_) hL tl nd h64 fun qs hp ho => ⟨_, rfl, ?_⟩) (args_list_sort _)))
  · obtain ⟨b, o, us, n, e0, h1, h2, h3, h4⟩ := tv q hq
    cases e0
    refine ⟨⟨q.1, o, us, n, rfl, keep _ _ h1, h2, h3, h4⟩, fun e => ?_⟩
    rw [e] at h1
    exact absurd (Heap.lt_size h1) (by simp)
  · exact wpAny_pure ⟨_, rfl, h qs hp ho⟩
end
def SN : Nat := 64
def rSortO : List V → Hp → VK → Prop := fun xs H Q => ∃ (p : Addr) (ps : List (Addr × List Int)) (L : Nat), xs = [.ref p] ∧ H p = some (.lst (ps.map fun q => .ref q.1)) ∧ (∀ q ∈ ps, H q.1 = some (.tup (q.2.map V.int))) ∧ 0 < L ∧ (∀ q ∈ ps, q.2.length = L) ∧ ps.Pairwise (fun q r => q.2 ≠ r.2) ∧ ps.length < SN ∧
  ∀ (D : Addr) (H' : Hp) (qs : List (Addr × List Int)), H D = none → Same H H' → H' D = some (.lst (qs.map fun q => .ref q.1)) → qs.Perm ps → qs.Pairwise (fun q r => HT.lexLt q.2 r.2 = true) → Q (.ref D) H'
theorem refs_of : ∀ {ps : List (Addr × List Int)} {us : List Value}, Vals (ps.map fun q => V.ref q.1) us → us = ps.map fun q => Value.ref q.1
  | [], _, .nil => rfl
  | q :: ps, _, .cons h r => by
    cases h
    rw [refs_of r]; rfl
theorem refs_vals : ∀ (ps : List (Addr × List Int)), Vals (ps.map fun q => V.ref q.1) (ps.map fun q => Value.ref q.1)
  | [] => .nil
  | q :: ps => .cons rfl (refs_vals ps)
theorem call_sortedO {X : Cx} (hc : X.calm = true) : CallR X (.builtin "sorted") rSortO := by
  intro pins s σ H xs us Q I r h
  obtain ⟨p, ps, L, rfl, hp, ty, hL, tl, nd, h64, q⟩ := h
  obtain ⟨u, rfl, ru⟩ := vals1 r
  cases ru
  obtain ⟨its, rv, pl, hz⟩ := I.list (SqL.of hp)
  have ei := refs_of rv
  subst ei
  have tv : ∀ q ∈ ps, TpI s.heap (.ref q.1) q.2 := fun q hq => by
    obtain ⟨_, us, rt, o, e1, e2, n, e3⟩ := (show ObjOk X.prog X.w H s.heap q.1 (.tup (q.2.map V.int)) from I.hok q.1 _ (ty q hq))
    exact ⟨q.1, o, us, n, rfl, e1, e2, e3, intsAre_of rt⟩
  refine sorted_tpO (I.ok.hd hc) pl.isList tv hL tl nd h64 fun qs hpm ho => ?_
  obtain ⟨e, he⟩ := sortedAll_at s.heap (ps.map fun q => Value.ref q.1) (qs.map fun q => Value.ref q.1).toArray
  have fr : H (s.heap.objs.size + 1) = none := I.hok.fresh (Nat.le_succ _)
  have lz := hpm.length_eq
  have I2 := I.laid (a := s.heap.objs.size + 1) (o := .lst (qs.map fun q => .ref q.1)) (t' := s.toks) (fun b u e => sortedAll_old e) (Nat.le_succ _) (show ObjOk X.prog X.w _ (sortedAll s.heap (ps.map fun q => Value.ref q.1) (qs.map fun q => Value.ref q.1).toArray) _ (.lst (qs.map fun q => .ref q.1)) from ⟨by rw [List.length_map, lz]; rw [List.length_map] at hz; exact hz, _, e, refs_vals qs, he⟩)
  exact ⟨.ref (s.heap.objs.size + 1), _, I2, rfl, q _ _ _ fr (same_new fr _) upd_same hpm ho⟩
end L2

set_option Elab.async false
set_option linter.all false
set_option maxRecDepth 100000
set_option maxHeartbeats 4000000
/-! our own reading tactic: lazy -/
theorem L2.exBl {b : Bool} {p : Bool → Prop} : (∃ c, L2.V.bl b = L2.V.bl c ∧ p c) = p b := propext ⟨fun ⟨_, e, h⟩ => (L2.V.bl.inj e) ▸ h, fun h => ⟨_, rfl, h⟩⟩
theorem L2.exIn {b : Int} {p : Int → Prop} : (∃ c, L2.V.int b = L2.V.int c ∧ p c) = p b := propext ⟨fun ⟨_, e, h⟩ => (L2.V.int.inj e) ▸ h, fun h => ⟨_, rfl, h⟩⟩
theorem L2.exIn1 {b : Int} {α : Sort _} {p : Int → α → Prop} : (∃ c x, L2.V.int b = L2.V.int c ∧ p c x) = ∃ x, p b x := propext ⟨fun ⟨_, x, e, h⟩ => ⟨x, (L2.V.int.inj e) ▸ h⟩, fun ⟨x, h⟩ => ⟨_, x, rfl, h⟩⟩
theorem L2.exRf {b : PySem.Addr} {p : PySem.Addr → Prop} : (∃ c, L2.V.ref b = L2.V.ref c ∧ p c) = p b := propext ⟨fun ⟨_, e, h⟩ => (L2.V.ref.inj e) ▸ h, fun h => ⟨_, rfl, h⟩⟩
theorem L2.exRf1 {b : PySem.Addr} {α : Sort _} {p : PySem.Addr → α → Prop} : (∃ c x, L2.V.ref b = L2.V.ref c ∧ p c x) = ∃ x, p b x := propext ⟨fun ⟨_, x, e, h⟩ => ⟨x, (L2.V.ref.inj e) ▸ h⟩, fun ⟨x, h⟩ => ⟨_, x, rfl, h⟩⟩
theorem L2.exRf2 {b : PySem.Addr} {α β : Sort _} {p : PySem.Addr → α → β → Prop} : (∃ c x y, L2.V.ref b = L2.V.ref c ∧ p c x y) = ∃ x y, p b x y := propext ⟨fun ⟨_, x, y, e, h⟩ => ⟨x, y, (L2.V.ref.inj e) ▸ h⟩, fun ⟨x, y, h⟩ => ⟨_, x, y, rfl, h⟩⟩
theorem L2.exRf3 {b : PySem.Addr} {α β γ : Sort _} {p : PySem.Addr → α → β → γ → Prop} : (∃ c x y z, L2.V.ref b = L2.V.ref c ∧ p c x y z) = ∃ x y z, p b x y z := propext ⟨fun ⟨_, x, y, z, e, h⟩ => ⟨x, y, z, (L2.V.ref.inj e) ▸ h⟩, fun ⟨x, y, z, h⟩ => ⟨_, x, y, z, rfl, h⟩⟩
theorem L2.exSt {b : PySem.Str} {p : PySem.Str → Prop} : (∃ c, L2.V.str b = L2.V.str c ∧ p c) = p b := propext ⟨fun ⟨_, e, h⟩ => (L2.V.str.inj e) ▸ h, fun h => ⟨_, rfl, h⟩⟩
theorem L2.exSo {α : Type} {b : α} {p : α → Prop} : (∃ c, some b = some c ∧ p c) = p b := propext ⟨fun ⟨_, e, h⟩ => (Option.some.inj e) ▸ h, fun h => ⟨_, rfl, h⟩⟩
theorem L2.qVar {i : Nat} {σ : L2.St} {H : L2.Hp} {Q : L2.VK} {v : L2.V} (h : σ[i]? = some (some v)) : L2.tVar i σ H Q = Q v H := propext ⟨fun ⟨_, e, q⟩ => by rw [h] at e; cases e; exact q, fun q => ⟨_, h, q⟩⟩
theorem L2.and_t {a b : Prop} (h : a = True) : (a ∧ b) = b := by rw [h, true_and]
theorem L2.and_f {a b : Prop} (h : a = False) : (a ∧ b) = False := by rw [h, false_and]
theorem L2.and_r {a b a1 a2 : Prop} (h : a = (a1 ∧ a2)) : (a ∧ b) = (a1 ∧ (a2 ∧ b)) := by rw [h, and_assoc]
theorem L2.and_l {a b a' : Prop} (h : a = a') : (a ∧ b) = (a' ∧ b) := by rw [h]
open Lean Meta Simp in
simproc_decl quickVar (L2.tVar _ _ _ _) := fun e => do
  let_expr L2.tVar i s H Q := e | return .continue
  let l ← mkAppM ``GetElem?.getElem? #[s, i]
  let w ← whnfD l
  let_expr Option.some _ o := w | return .continue
  let o' ← whnfD o
  let_expr Option.some _ v := o' | return .continue
  return .visit { expr := (mkApp2 Q v H).headBeta, proof? := some (mkApp6 (mkConst ``L2.qVar) i s H Q v (← mkEqRefl l)) }
open Lean Meta Simp in
simproc_decl lazyAnd (_ ∧ _) := fun e => do
  let_expr And a b := e | return .continue
  let r ← simp a
  let a' := r.expr
  if a'.isTrue then return .visit { expr := b, proof? := some (mkApp3 (mkConst ``L2.and_t) a b (← r.getProof)) }
  if a'.isFalse then return .done { expr := mkConst ``False, proof? := some (mkApp3 (mkConst ``L2.and_f) a b (← r.getProof)) }
  match_expr a' with
  | And a1 a2 => return .visit { expr := mkAnd a1 (mkAnd a2 b), proof? := some (mkApp5 (mkConst ``L2.and_r) a b a1 a2 (← r.getProof)) }
  | _ =>
    match r.proof? with
    | none => return .done { expr := mkAnd a' b }
    | some h => return .done { expr := mkAnd a' b, proof? := some (mkApp4 (mkConst ``L2.and_l) a b a' h) }
theorem L2.ite_c {α : Sort _} {c c' : Prop} [d : Decidable c] [d' : Decidable c'] (h : c = c') (x y : α) : ite c x y = ite c' x y := by subst h; congr
open Lean Meta Simp in
simproc_decl lazyIte (ite _ _ _) := fun e => do
  let_expr ite α c d x y := e | return .continue
  let r ← simp c
  if r.expr.isTrue || r.expr.isFalse then return .continue
  if r.expr == c then return .done { expr := e }
  let d' ← synthInstance (mkApp (mkConst ``Decidable) r.expr)
  return .done { expr := mkApp5 e.consumeMData.getAppFn α r.expr d' x y, proof? := some (mkAppN (mkConst ``L2.ite_c e.consumeMData.getAppFn.constLevels!) #[α, c, r.expr, d, d', ← r.getProof, x, y]) }
open Lean Meta Simp in
simproc_decl lazyAll (_) := fun e => do
  if e.isForall then return .done { expr := e } else return .continue
def L2.rdPost : String := "L2.rSortO L2.rLtT L2.rIntB L2.rListK L2.rInP L2.tFldG L2.sFldG L2.tMethG L2.tMakeG L2.lookup_n L2.lookup_c L2.putF_n L2.putF_c L2.HO.ins.injEq L2.tDGetDG L2.tUnf L2.rDictP L2.rSortT L2.rMinL L2.rIdxG L2.rPopAtG L2.tRng1 L2.rListRng L2.tRev L2.rIxL L2.tBreak L2.tCont L2.rSum L2.rSort L2.rListG L2.rInsG L2.tDPopG L2.frameN L2.capOf Option.join_some L2.tYes L2.tChain L2.rAll L2.tBM L2.tyV L2.rStarts L2.rInK L2.tFmt L2.tJoin L2.jCons L2.jNil L2.tDefR L2.tRaise L2.rMulS L2.rSlS L2.rJoinS L2.rCatG L2.tTry1 L2.tTry0 L2.tBM0 L2.rPopG L2.rRepG L2.tDGetR L2.gLstG L2.tCallX L2.rIsiX L2.rIsiXT L2.tMs L2.rSetG L2.gSub L2.tSeq L2.tNext L2.tIfS L2.tTest L2.tB L2.tOp L2.tUn L2.rU L2.tVar L2.tC L2.rI0 L2.rI L2.tRet L2.tRetN L2.tDrop L2.tAsg L2.gName L2.gTup L2.gCons L2.gNil L2.tNil L2.tCons L2.tTupG L2.tLstG L2.tDNewG L2.rDictG L2.tAppG L2.sDPutG2 L2.pairsOf L2.tDispG L2.tPairs Option.bind_some L2.tDef L2.tCB L2.tAnd L2.tOr L2.tNot L2.tAndV L2.tOrV L2.tNotV L2.tIf L2.rIxG L2.rIxS L2.rEq L2.rNe L2.scal_ss L2.scal_ii L2.scal_bb L2.scal_nn L2.scal_ns L2.scal_sn L2.scal_ni L2.scal_in L2.flat_s L2.flat_i L2.flat_n L2.flat_b L2.inV_nil L2.inV_cons L2.eqV_ss L2.eqV_ii L2.cx_K L2.rInG L2.gTupG L2.rSlG L2.tSl L2.tPart L2.tNoPart L2.tForT L2.tForL L2.turns L2.upd_same List.all_cons List.all_nil Bool.and_true Bool.true_and Bool.and_self Bool.or_false Bool.or_true Bool.false_or Bool.true_or L2.cutV HT.sIx L2.rIsiG L2.tyG_n L2.tyG_b L2.tyG_i L2.tyG_s L2.tyG_r L2.hoT_l L2.hoT_t L2.hoT_d L2.V.ty.injEq L2.kit_ii L2.kit_it L2.kit_il L2.kit_is L2.kit_ib L2.kit_id L2.kit_ni L2.kit_nt L2.kit_nl L2.kit_ns L2.kit_nb L2.kit_nd L2.kit_ti L2.kit_tt L2.kit_tl L2.kit_ts L2.kit_tb L2.kit_td L2.kit_li L2.kit_lt L2.kit_ll L2.kit_ls L2.kit_lb L2.kit_ld L2.kit_si L2.kit_st L2.kit_sl L2.kit_ss L2.kit_sb L2.kit_sd L2.kit_bi L2.kit_bt L2.kit_bl L2.kit_bs L2.kit_bb L2.kit_bd L2.kit_di L2.kit_dt L2.kit_dl L2.kit_ds L2.kit_db L2.kit_dd L2.mn1 L2.mn2 List.drop_succ_cons List.drop_zero List.take_succ_cons List.take_zero Nat.reduceEqDiff not_false_eq_true L2.tDInG L2.tDNotInG L2.tDGetG L2.keyOf_s L2.keyOf_i List.cons.injEq L2.tDNewK L2.start List.map_cons List.map_nil List.length_cons List.length_nil List.replicate List.cons_append List.nil_append List.getElem?_cons_zero List.getElem?_cons_succ List.set_cons_zero List.set_cons_succ Option.some.injEq L2.V.int.injEq L2.V.str.injEq L2.V.ref.injEq L2.V.bl.injEq L2.HO.tup.injEq L2.HO.lst.injEq L2.HO.dK.injEq reduceCtorEq exists_eq_left' exists_and_left exists_eq_left exists_eq_right L2.CPow L2.CMul L2.CDiv decide_eq_true_eq L2.ofString_inj String.reduceEq decide_true decide_false Bool.false_eq_true if_true if_false if_pos and_true true_and or_false false_or or_true true_or and_false false_and exists_const exists_false Bool.not_true Bool.not_false L2.sz0 L2.sz1 L2.sz2 L2.sz3 L2.sz4 L2.sz5 L2.sz6 L2.atI_0 L2.atI_1 L2.atI_2 L2.atI_3 L2.atI_4 Nat.reduceAdd Nat.reduceSub Nat.zero_add Nat.reduceLeDiff Int.reducePow Int.reduceToNat Int.reduceLT Int.reduceLE Int.reduceNeg L2.na2 L2.na10 Nat.reducePow Nat.reduceLT"
def L2.lzPre : String := "lazyAnd reduceIte lazyIte exists_eq_left exists_eq_left' reduceIte L2.exBl L2.exIn L2.exRf L2.exSt L2.exSo quickVar L2.exIn1 L2.exRf1 L2.exRf2 L2.exRf3"
def L2.rdPre : String := "exists_eq_left exists_eq_left' reduceIte L2.exBl L2.exIn L2.exRf L2.exSt L2.exSo quickVar L2.exIn1 L2.exRf1 L2.exRf2 L2.exRf3"
open Lean in
def L2.rdArgs (pre : String) : MacroM (TSyntaxArray ``Lean.Parser.Tactic.simpLemma) := do
  let p ← (L2.rdPost.splitOn " ").toArray.mapM fun n => `(Lean.Parser.Tactic.simpLemma| $(mkIdent n.toName):ident)
  let a ← (pre.splitOn " ").toArray.mapM fun n => `(Lean.Parser.Tactic.simpLemma| ↓ $(mkIdent n.toName):ident)
  return a ++ p

set_option Elab.async false
set_option linter.all false
set_option maxRecDepth 100000
set_option maxHeartbeats 4000000
/-! our own rules: a method of a thing that is of one of two classes -/
namespace L2
open PySem PySem.Spec PyProof.Rows PySem.W
section
variable {X : Cx} {k k2 n : Nat} {ps ps2 : List Str} {sp sp2 : Sp} {m : Str} {pos apos : Pos} {o e : Expr} {es : List Expr} {t : TA} {ta : TE} {C C2 : Addr}
end
end L2

set_option Elab.async false
set_option linter.all false
set_option maxRecDepth 100000
set_option maxHeartbeats 4000000
/-! our own rules: a comprehension over a range whose items may change the heap -/
namespace L2
open PySem PySem.Spec PyProof.Rows
end L2

set_option Elab.async false
set_option linter.all false
set_option maxRecDepth 100000
set_option maxHeartbeats 4000000
/-! our own rules: zip of two iterators of any kind -/
namespace L2
open PySem PySem.Spec PyProof.Rows
structure Nx (prog : Program) (w : World) (i : Addr) (fp : List Addr) (T : Nat → Heap → Prop) (item : Nat → Option Value) : Prop where
  keep : ∀ k h h', T k h → (∀ b, b = i ∨ b ∈ fp → ∀ o, h.get? b = some o → h'.get? b = some o) → T k h'
  obj : ∀ k h, T k h → ∃ o, h.get? i = some o ∧ (∀ v, o.data ≠ .cell v) ∧ o.cls ≠ .type "StopIteration"
  next : ∀ (A : Around) k x s (Q : Value → Shared → Prop) (E : Value → Shared → Prop), T k s.heap → item k = some x → (∀ h', T (k + 1) h' → Heap.SameBut i s.heap h' → Q x { s with heap := h' }) → wpAny (model prog w) A (Builtin.SmallTypes.nextOf (.ref i)) Q E s
  done : ∀ (A : Around) k s (Q : Value → Shared → Prop) (E : Value → Shared → Prop), A.handled = none → T k s.heap → item k = none → (∀ h' e, Heap.ExtBut i s.heap h' → (∃ o, h'.get? e = some o ∧ o.cls = .type "StopIteration") → E (.ref e) { s with heap := h' }) → wpAny (model prog w) A (Builtin.SmallTypes.nextOf (.ref i)) Q E s
section
variable {prog : Program} {w : World} {A : Around} {E : Value → Shared → Prop} {s : Shared}
theorem nx_list (i l : Addr) (xs : Array Value) (ne : l ≠ i) : Nx prog w i [l] (fun k h => h.IsListIter i l k ∧ h.IsList l xs) (fun k => xs[k]?) where
  keep := fun k h h' ⟨h1, h2⟩ kp => ⟨h1.at fun o e => kp i (.inl rfl) o e, h2.at fun o e => kp l (.inr (by simp)) o e⟩
  obj := fun k h ⟨⟨o, e, c, d⟩, _⟩ => ⟨o, e, fun v z => (by rw [d] at z; cases z), fun z => (by rw [c] at z; simp at z)⟩
  next := fun A k x s Q E ⟨h1, h2⟩ hx q => wpAny_nextOf_list_item h1 h2 hx fun h' a b => q h' ⟨a, h2.extBut b.extBut ne⟩ b
  done := fun A k s Q E hh ⟨h1, h2⟩ hx q => wpAny_nextOf_list_end hh h1 h2 hx q
structure ZA (z TI TO i j : Addr) (f1 f2 : List Addr) : Prop where
  tz : TI ≠ z
  oz : TO ≠ z
  iz : i ≠ z
  jz : j ≠ z
  to : TI ≠ TO
  ti : TI ≠ i
  tj : TI ≠ j
  oi : TO ≠ i
  oj : TO ≠ j
  ij : i ≠ j
  a1 : ∀ b ∈ f1, b ≠ z ∧ b ≠ TO ∧ b ≠ i ∧ b ≠ j
  a2 : ∀ b ∈ f2, b ≠ z ∧ b ≠ TO ∧ b ≠ i ∧ b ≠ j
variable {z TI TO i j : Addr} {f1 f2 : List Addr} {T1 T2 : Nat → Heap → Prop} {e1 e2 : Nat → Option Value}
theorem zp_item {k : Nat} {x y a b : Value} {Q : Option Value → Shared → Prop} (D : ZA z TI TO i j f1 f2) (N1 : Nx prog w i f1 T1 e1) (N2 : Nx prog w j f2 T2 e2) (hz : IsZip s.heap z TI TO .none) (hTI : IsPair s.heap TI (.ref i) (.ref j)) (hTO : IsPair s.heap TO a b)
    (t1 : T1 k s.heap) (t2 : T2 k s.heap) (hx : e1 k = some x) (hy : e2 k = some y)
    (hQ : ∀ h', IsZip h' z TI TO (rawInt s.heap.objs.size) → IsPair h' TO x y → T1 (k + 1) h' → T2 (k + 1) h' → IsPair h' s.heap.objs.size x y → h'.objs.size = s.heap.objs.size + 1 → (∀ c o, c ≠ z → c ≠ TO → c ≠ i → c ≠ j → s.heap.get? c = some o → h'.get? c = some o) → Q (some (.ref s.heap.objs.size)) { s with heap := h' }) :
    wpAny (model prog w) A (pyNext (.ref z)) Q E s := by
  have hT : s.TypeIs (.ref z) "zip" := ⟨_, hz, rfl⟩
  unfold pyNext
  refine wpAny_bind (wpAny_attempt (wpAny_callSpecial?_slot (name := Str.ofString "__next__") hT F.slot_zip_next (wpAny_call_entry F.slot_zip_next hT F.entry_zip_next ?_ (F.args_zip_next_1 _))))
  show wpAny _ _ (field (.ref z) 2 >>= _) _ _ _
  refine wpAny_bind (wpAny_field hz rfl (x := .bool false) rfl ?_)
  show wpAny _ _ (field (.ref z) 3 >>= _) _ _ _
  refine wpAny_bind (wpAny_field hz rfl (x := .ref TI) rfl ?_)
  refine wpAny_bind (wpAny_seqItems hTI rfl ?_)
  show wpAny _ _ (Builtin.SmallTypes.ownedTupleIsFree (.ref z) >>= _) _ _ _
  refine wpAny_bind ?_
  unfold Builtin.SmallTypes.ownedTupleIsFree
  refine wpAny_bind (wpAny_field hz rfl (x := .none) rfl (wpAny_pure ?_))
  simp only [if_true]
  refine wpAny_bind (wpAny_rule ?_)
  refine wpAny_bind (wpAny_field hz rfl (x := .ref TO) rfl ?_)
  refine wpAny_bind (wpAny_setField_rec hz (by simp) fun g1 z1 s1 => ?_)
  replace z1 : IsZip g1 z TI TO .ellipsis := z1
  refine wpAny_bind ?_
  simp only [List.zipIdx_cons, List.zipIdx_nil, List.forIn_cons, List.forIn_nil]
  refine wpAny_bind (wpAny_bind (wpAny_onRaise ?_))
  show wpAny _ _ (Builtin.SmallTypes.nextOf (.ref i) >>= _) _ _ _
  have t1a : T1 k g1 := N1.keep k _ _ t1 fun b hb o e => s1.extBut _ _ (hb.elim (fun q => q ▸ D.iz) fun q => (D.a1 b q).1) e
  refine wpAny_bind (N1.next _ k x _ _ _ t1a hx fun g2 t1b s2 => wpAny_pure ?_)
  have o2 : IsPair g2 TO a b := s2.extBut _ _ D.oi (s1.extBut _ _ D.oz hTO)
  refine wpAny_bind (wpAny_seqItems o2 rfl ?_)
  refine wpAny_bind (wpAny_updateSeq_pair o2 fun g3 o3 s3 => ?_)
  replace o3 : IsPair g3 TO x b := o3
  refine wpAny_bind (wpAny_letGo (wpAny_pure ?_))
  refine wpAny_bind (wpAny_bind (wpAny_onRaise ?_))
  show wpAny _ _ (Builtin.SmallTypes.nextOf (.ref j) >>= _) _ _ _
  have t2a : T2 k g3 := N2.keep k _ _ t2 fun b hb o e => by
    have n : b ≠ z ∧ b ≠ TO ∧ b ≠ i := hb.elim (fun q => q ▸ ⟨D.jz, D.oj.symm, D.ij.symm⟩) fun q => ⟨(D.a2 b q).1, (D.a2 b q).2.1, (D.a2 b q).2.2.1⟩
    exact s3.extBut _ _ n.2.1 (s2.extBut _ _ n.2.2 (s1.extBut _ _ n.1 e))
  refine wpAny_bind (N2.next _ k y _ _ _ t2a hy fun g4 t2b s4 => wpAny_pure ?_)
  have o4 : IsPair g4 TO x b := s4.extBut _ _ D.oj o3
  refine wpAny_bind (wpAny_seqItems o4 rfl ?_)
  refine wpAny_bind (wpAny_updateSeq_pair o4 fun g5 o5 s5 => ?_)
  replace o5 : IsPair g5 TO x y := o5
  refine wpAny_bind (wpAny_letGo (wpAny_pure (wpAny_pure ?_)))
  refine wpAny_bind (wpAny_seqItems o5 rfl ?_)
  refine wpAny_bind (wpAny_newTuple ?_)
  have sz : g5.objs.size = s.heap.objs.size := by rw [s5.1, s4.1, s3.1, s2.1, s1.1]
  have z5 : IsZip g5 z TI TO .ellipsis := s5.extBut _ _ D.oz.symm (s4.extBut _ _ D.jz.symm (s3.extBut _ _ D.oz.symm (s2.extBut _ _ D.iz.symm z1)))
  have k5 : ∀ c o, c ≠ z → c ≠ TO → c ≠ i → c ≠ j → s.heap.get? c = some o → g5.get? c = some o := fun c o c1 c2 c3 c4 e => s5.extBut _ _ c2 (s4.extBut _ _ c4 (s3.extBut _ _ c2 (s2.extBut _ _ c3 (s1.extBut _ _ c1 e))))
  have t15 : T1 (k + 1) g5 := N1.keep _ _ _ t1b fun b hb o e => by
    have n : b ≠ TO ∧ b ≠ j := hb.elim (fun q => q ▸ ⟨D.oi.symm, D.ij⟩) fun q => ⟨(D.a1 b q).2.1, (D.a1 b q).2.2.2⟩
    exact s5.extBut _ _ n.1 (s4.extBut _ _ n.2 (s3.extBut _ _ n.1 e))
  have t25 : T2 (k + 1) g5 := N2.keep _ _ _ t2b fun b hb o e => s5.extBut _ _ (hb.elim (fun q => q ▸ D.oj.symm) fun q => (D.a2 b q).2.1) e
  have zl : z < g5.objs.size := Heap.lt_size z5
  show wpAny _ _ (Builtin.SmallTypes.ownedTupleHandOut (.ref z) (.ref g5.objs.size) >>= _) _ _ _
  refine wpAny_bind ?_
  unfold Builtin.SmallTypes.ownedTupleHandOut
  have z6 : IsZip (g5.push { cls := .type "tuple", data := .seq #[x, y] }) z TI TO .ellipsis := Heap.get?_push_of_some _ z5
  refine wpAny_bind (wpAny_setField_rec z6 (by simp) fun g7 z7 s7 => ?_)
  replace z7 : IsZip g7 z TI TO (rawInt g5.objs.size) := z7
  refine wpAny_setField_rec z7 (by simp) fun g8 z8 s8 => ?_
  replace z8 : IsZip g8 z TI TO (rawInt g5.objs.size) := z8
  have up : ∀ c o, c ≠ z → g5.get? c = some o → g8.get? c = some o := fun c o c1 e => s8.extBut _ _ c1 (s7.extBut _ _ c1 (Heap.get?_push_of_some _ e))
  have p8 : IsPair g8 g5.objs.size x y := s8.extBut _ _ (Nat.ne_of_gt zl) (s7.extBut _ _ (Nat.ne_of_gt zl) (Heap.get?_push_size _ rfl))
  have q8 : g8.objs.size = g5.objs.size + 1 := by rw [s8.1, s7.1, Heap.size_push]
  rw [sz] at z8 p8 q8
  refine wpAny_pure ⟨_, rfl, wpAny_pure ?_⟩
  rw [sz]
  exact hQ g8 z8 (up _ _ D.oz o5) (N1.keep _ _ _ t15 fun b hb o e => up b o (hb.elim (fun q => q ▸ D.iz) fun q => (D.a1 b q).1) e) (N2.keep _ _ _ t25 fun b hb o e => up b o (hb.elim (fun q => q ▸ D.jz) fun q => (D.a2 b q).1) e) p8 q8 fun c o c1 c2 c3 c4 e => up c o c1 (k5 c o c1 c2 c3 c4 e)
theorem zp_end {k : Nat} {a b : Value} {Q : Option Value → Shared → Prop} (hh : A.handled = none) (D : ZA z TI TO i j f1 f2) (N1 : Nx prog w i f1 T1 e1) (N2 : Nx prog w j f2 T2 e2) (hz : IsZip s.heap z TI TO .none) (hTI : IsPair s.heap TI (.ref i) (.ref j)) (hTO : IsPair s.heap TO a b)
    (t1 : T1 k s.heap) (t2 : T2 k s.heap) (hend : e1 k = none ∨ e2 k = none)
    (hQ : ∀ h', (∀ c o, c ≠ z → c ≠ TO → c ≠ i → c ≠ j → s.heap.get? c = some o → h'.get? c = some o) → Q none { s with heap := h' }) : wpAny (model prog w) A (pyNext (.ref z)) Q E s := by
  have hT : s.TypeIs (.ref z) "zip" := ⟨_, hz, rfl⟩
  have fin : ∀ h' e, (∀ c o, c ≠ z → c ≠ TO → c ≠ i → c ≠ j → s.heap.get? c = some o → h'.get? c = some o) → (∃ o, h'.get? e = some o ∧ o.cls = .type "StopIteration") → wpAny (model prog w) A (do if ← isInstance (.ref e) (.type "StopIteration") then pure none else throw (.ref e)) Q E { s with heap := h' } := fun h' e hk he => by
    obtain ⟨o, ho, hc⟩ := he
    exact wpAny_bind (wpAny_isInstance (T := "StopIteration") (b := true) ⟨o, ho, hc⟩ isSubtype_stop (wpAny_pure (hQ _ hk)))
  unfold pyNext
  refine wpAny_bind (wpAny_attempt (wpAny_callSpecial?_slot (name := Str.ofString "__next__") hT F.slot_zip_next (wpAny_call_entry F.slot_zip_next hT F.entry_zip_next ?_ (F.args_zip_next_1 _))))
  show wpAny _ _ (field (.ref z) 2 >>= _) _ _ _
  refine wpAny_bind (wpAny_field hz rfl (x := .bool false) rfl ?_)
  show wpAny _ _ (field (.ref z) 3 >>= _) _ _ _
  refine wpAny_bind (wpAny_field hz rfl (x := .ref TI) rfl ?_)
  refine wpAny_bind (wpAny_seqItems hTI rfl ?_)
  show wpAny _ _ (Builtin.SmallTypes.ownedTupleIsFree (.ref z) >>= _) _ _ _
  refine wpAny_bind ?_
  unfold Builtin.SmallTypes.ownedTupleIsFree
  refine wpAny_bind (wpAny_field hz rfl (x := .none) rfl (wpAny_pure ?_))
  simp only [if_true]
  refine wpAny_bind (wpAny_rule ?_)
  refine wpAny_bind (wpAny_field hz rfl (x := .ref TO) rfl ?_)
  refine wpAny_bind (wpAny_setField_rec hz (by simp) fun g1 z1 s1 => ?_)
  replace z1 : IsZip g1 z TI TO .ellipsis := z1
  refine wpAny_bind ?_
  simp only [List.zipIdx_cons, List.zipIdx_nil, List.forIn_cons, List.forIn_nil]
  refine wpAny_bind (wpAny_bind (wpAny_onRaise ?_))
  show wpAny _ _ (Builtin.SmallTypes.nextOf (.ref i) >>= _) _ _ _
  have t1a : T1 k g1 := N1.keep k _ _ t1 fun b hb o e => s1.extBut _ _ (hb.elim (fun q => q ▸ D.iz) fun q => (D.a1 b q).1) e
  cases hx : e1 k with
  | none =>
    refine wpAny_bind (N1.done _ k _ _ _ hh t1a hx fun g2 e s2 he => ?_)
    obtain ⟨oe, hoe, hce⟩ := he
    have z2 : IsZip g2 z TI TO .ellipsis := s2 _ _ D.iz.symm z1
    have ez : e ≠ z := fun q => by subst q; rw [z2] at hoe; cases hoe; simp at hce
    exact wpAny_setField_rec z2 (by simp) fun g3 _ s3 => fin g3 e (fun c o c1 _ c3 _ q => s3.extBut _ _ c1 (s2 _ _ c3 (s1.extBut _ _ c1 q))) ⟨oe, s3.extBut _ _ ez hoe, hce⟩
  | some x =>
    have hy : e2 k = none := by rcases hend with h | h; (rw [hx] at h; cases h); exact h
    refine wpAny_bind (N1.next _ k x _ _ _ t1a hx fun g2 t1b s2 => wpAny_pure ?_)
    have o2 : IsPair g2 TO a b := s2.extBut _ _ D.oi (s1.extBut _ _ D.oz hTO)
    refine wpAny_bind (wpAny_seqItems o2 rfl ?_)
    refine wpAny_bind (wpAny_updateSeq_pair o2 fun g3 o3 s3 => ?_)
    refine wpAny_bind (wpAny_letGo (wpAny_pure ?_))
    refine wpAny_bind (wpAny_bind (wpAny_onRaise ?_))
    show wpAny _ _ (Builtin.SmallTypes.nextOf (.ref j) >>= _) _ _ _
    have t2a : T2 k g3 := N2.keep k _ _ t2 fun b hb o e => by
      have n : b ≠ z ∧ b ≠ TO ∧ b ≠ i := hb.elim (fun q => q ▸ ⟨D.jz, D.oj.symm, D.ij.symm⟩) fun q => ⟨(D.a2 b q).1, (D.a2 b q).2.1, (D.a2 b q).2.2.1⟩
      exact s3.extBut _ _ n.2.1 (s2.extBut _ _ n.2.2 (s1.extBut _ _ n.1 e))
    refine wpAny_bind (N2.done _ k _ _ _ hh t2a hy fun g4 e s4 he => ?_)
    obtain ⟨oe, hoe, hce⟩ := he
    have z4 : IsZip g4 z TI TO .ellipsis := s4 _ _ D.jz.symm (s3.extBut _ _ D.oz.symm (s2.extBut _ _ D.iz.symm z1))
    have ez : e ≠ z := fun q => by subst q; rw [z4] at hoe; cases hoe; simp at hce
    exact wpAny_setField_rec z4 (by simp) fun g5 _ s5 => fin g5 e (fun c o c1 c2 c3 c4 q => s5.extBut _ _ c1 (s4 _ _ c4 (s3.extBut _ _ c2 (s2.extBut _ _ c3 (s1.extBut _ _ c1 q))))) ⟨oe, s5.extBut _ _ ez hoe, hce⟩
abbrev zG (h : Heap) (o1 o2 : Obj) : Heap := ((((h.push o1).push o2).push { cls := .type "tuple", data := .seq #[.ref h.objs.size, .ref (h.push o1).objs.size] }).push { cls := .type "tuple", data := .seq #[.none, .none] }).push { cls := .type "zip", data := .fields #[.none, .bool false, .bool false, .ref ((h.push o1).push o2).objs.size, .ref (((h.push o1).push o2).push { cls := .type "tuple", data := .seq #[.ref h.objs.size, .ref (h.push o1).objs.size] }).objs.size] }
abbrev zA (h : Heap) (o1 o2 : Obj) : Addr := ((((h.push o1).push o2).push { cls := .type "tuple", data := .seq #[.ref h.objs.size, .ref (h.push o1).objs.size] }).push { cls := .type "tuple", data := .seq #[.none, .none] }).objs.size
abbrev zO (n : String) (l : Addr) : Obj := { cls := .type n, data := .fields #[.ref l, .int 0 0] }
theorem zG_at (h : Heap) (o1 o2 : Obj) (f1 : o1.isFreed = false) (f2 : o2.isFreed = false) : IsZip (zG h o1 o2) (h.objs.size + 4) (h.objs.size + 2) (h.objs.size + 3) .none ∧ IsPair (zG h o1 o2) (h.objs.size + 2) (.ref h.objs.size) (.ref (h.objs.size + 1)) ∧ IsPair (zG h o1 o2) (h.objs.size + 3) .none .none ∧ (zG h o1 o2).get? h.objs.size = some o1 ∧ (zG h o1 o2).get? (h.objs.size + 1) = some o2 ∧ (zG h o1 o2).objs.size = h.objs.size + 5 ∧ ∀ c o, h.get? c = some o → (zG h o1 o2).get? c = some o := by
  have z1 : (h.push o1).objs.size = h.objs.size + 1 := Heap.size_push ..
  have z2 : ((h.push o1).push o2).objs.size = h.objs.size + 2 := by rw [Heap.size_push, z1]
  have z3 : (((h.push o1).push o2).push { cls := .type "tuple", data := .seq #[.ref h.objs.size, .ref (h.push o1).objs.size] }).objs.size = h.objs.size + 3 := by rw [Heap.size_push, z2]
  have z4 : ((((h.push o1).push o2).push { cls := .type "tuple", data := .seq #[.ref h.objs.size, .ref (h.push o1).objs.size] }).push { cls := .type "tuple", data := .seq #[.none, .none] }).objs.size = h.objs.size + 4 := by rw [Heap.size_push, z3]
  refine ⟨?_, ?_, ?_, ?_, ?_, by rw [Heap.size_push, z4], fun c o e => Heap.get?_push_of_some _ (Heap.get?_push_of_some _ (Heap.get?_push_of_some _ (Heap.get?_push_of_some _ (Heap.get?_push_of_some _ e))))⟩
  · have g : (zG h o1 o2).get? _ = some _ := Heap.get?_push_size _ rfl
    rw [z4, z2, z3] at g
    exact g
  · have g : (zG h o1 o2).get? _ = some _ := Heap.get?_push_of_some _ (Heap.get?_push_of_some _ (Heap.get?_push_size ((h.push o1).push o2) (o := { cls := .type "tuple", data := .seq #[.ref h.objs.size, .ref (h.push o1).objs.size] }) rfl))
    rw [z2, z1] at g
    exact g
  · have g : (zG h o1 o2).get? _ = some _ := Heap.get?_push_of_some _ (Heap.get?_push_size (((h.push o1).push o2).push { cls := .type "tuple", data := .seq #[.ref h.objs.size, .ref (h.push o1).objs.size] }) (o := { cls := .type "tuple", data := .seq #[.none, .none] }) rfl)
    rw [z3] at g
    exact g
  · exact Heap.get?_push_of_some _ (Heap.get?_push_of_some _ (Heap.get?_push_of_some _ (Heap.get?_push_of_some _ (Heap.get?_push_size _ f1))))
  · have g : (zG h o1 o2).get? _ = some _ := Heap.get?_push_of_some _ (Heap.get?_push_of_some _ (Heap.get?_push_of_some _ (Heap.get?_push_size (h.push o1) (o := o2) f2)))
    rw [z1] at g
    exact g
theorem zA_eq (h : Heap) (o1 o2 : Obj) : zA h o1 o2 = h.objs.size + 4 := by
  unfold zA
  rw [Heap.size_push, Heap.size_push, Heap.size_push, Heap.size_push]
end
end L2

set_option Elab.async false
set_option linter.all false
set_option maxRecDepth 100000
set_option maxHeartbeats 4000000
/-! our own rules: for and comprehensions over zip(tuple, list) -/
namespace L2
open PySem PySem.Spec PyProof.Rows
theorem ne_nat {a b : Nat} (h : a < b ∨ b < a) : a ≠ b := by omega
theorem za_new (n l1 l2 : Nat) (h1 : l1 < n) (h2 : l2 < n) : ZA (n + 4) (n + 2) (n + 3) n (n + 1) [l1] [l2] := by
  have o : ∀ l : Nat, l < n → l ≠ n + 4 ∧ l ≠ n + 3 ∧ l ≠ n ∧ l ≠ n + 1 := fun l h => ⟨ne_nat (by omega), ne_nat (by omega), ne_nat (by omega), ne_nat (by omega)⟩
  exact ⟨ne_nat (.inl (by omega)), ne_nat (.inl (by omega)), ne_nat (.inl (by omega)), ne_nat (.inl (by omega)), ne_nat (.inl (by omega)), ne_nat (.inr (by omega)), ne_nat (.inr (by omega)), ne_nat (.inr (by omega)), ne_nat (.inr (by omega)), ne_nat (.inl (by omega)), fun c hc => by rw [List.mem_singleton.mp hc]; exact o l1 h1, fun c hc => by rw [List.mem_singleton.mp hc]; exact o l2 h2⟩
end L2

set_option Elab.async false
set_option linter.all false
set_option maxRecDepth 100000
set_option maxHeartbeats 4000000
/-! our own rules: text.split(sep), tuple(list) -/
namespace L2
open PySem PySem.Spec PyProof.Rows
section
variable {prog : Program} {w : World} {A : Around} {E : Value → Shared → Prop} {s : Shared} {x y : Str} {t u : Tok} {Q : Value → Shared → Prop}
end
end L2

set_option Elab.async false
set_option linter.all false
set_option maxRecDepth 100000
set_option maxHeartbeats 4000000
/-! our own rules: a dict that is a module's constant; comprehensions over zip -/
namespace L2
open PySem PySem.Spec PyProof.Rows
section
variable {X : Cx} {i o : Expr} {ty : TE} {pos : Pos} {a : Addr} {kvs : List (Key × V)}
end
end L2

set_option Elab.async false
set_option linter.all false
set_option maxRecDepth 100000
set_option maxHeartbeats 4000000
/-! our own rules: a comprehension whose element may raise -/
namespace L2
open PySem PySem.Spec PyProof.Rows
section
variable {M : Model} {A : Around} {E : Value → Shared → Prop} {s : Shared} {base : Heap} {env : Env} {outer : List Env} {L x : Addr} {oe : Obj} {vs : Array Value} {Q : Unit → Shared → Prop}
end
/-! ### the element's own context -/
section
variable {X : Cx} {scope : Scope} {cl : List (Str × Addr)} {N : List Str} {C : Addr} {fp : List Addr} {s₀ : Shared} {H₀ : Hp} {pins : List (Addr × Obj)} {σ : St} {H : Hp} {s : Shared}
end
section
variable {P : Program} {w : World} {K : PySem.W.Frag} {mg : Str → Option Value} {base : Heap} {N : List Str} {qual : Str} {scope : Scope} {f : Addr} {cd : Value} {A : Around} {outer : List Env} {s : Shared} {H : Hp} {E : XK}
end
section
variable {X : Cx} {scope : Scope} {cl : List (Str × Addr)} {N : List Str} {cap : List Nat} {k : Nat} {tg : Expr} {g : TG} {pos : Pos} {iter elt : Expr} {ifs : List Expr} {wi : TI} {tc : TT} {te : TE}
end
end L2

set_option Elab.async false
set_option linter.all false
set_option maxRecDepth 100000
set_option maxHeartbeats 4000000
/-! our own rules: zip of a text (ASCII) and a list -/
namespace L2
open PySem PySem.Spec PyProof.Rows
section
variable {prog : Program} {w : World} {A : Around} {E : Value → Shared → Prop} {s : Shared} {z TI TO i j : Addr} {f2 : List Addr} {T2 : Nat → Heap → Prop} {e2 : Nat → Option Value}
end
end L2

set_option Elab.async false
set_option linter.all false
set_option maxRecDepth 100000
set_option maxHeartbeats 4000000
/-! our own rules: d.values() as a thing, zip(d.values(), list) -/
namespace L2
open PySem PySem.Spec PyProof.Rows
section
variable {prog : Program} {w : World}
theorem nx_vals (i d : Addr) (o : Obj) (vs : List (Key × Value)) (ep : Nat) (ne : d ≠ i) (D0 : ∀ h : Heap, h.get? d = some o → h.DictAt (mixKind prog w) d vs ep) :
    Nx prog w i [d] (fun k h => h.IsValIter i d k vs.length ep ∧ h.get? d = some o) (fun k => (vs[k]?).map (·.2)) where
  keep := fun k h h' ⟨⟨oi, e, r⟩, h2⟩ kp => ⟨⟨oi, kp i (.inl rfl) oi e, r⟩, kp d (.inr (by simp)) o h2⟩
  obj := fun k h ⟨⟨oi, e, c, dd⟩, _⟩ => ⟨oi, e, fun v z => (by rw [dd] at z; cases z), fun z => (by rw [c] at z; simp at z)⟩
  next := fun A k x s Q E ⟨h1, h2⟩ hx q => by
    obtain ⟨oi, hoi, hci, hdi⟩ := id h1
    obtain ⟨od, es, hod, _, hdd, _, hp, _⟩ := D0 _ h2
    obtain ⟨⟨kk, vv⟩, hkv, rfl⟩ := Option.map_eq_some_iff.mp hx
    unfold Builtin.SmallTypes.nextOf
    refine wpAny_bind (wpAny_callSpecial?_slot (name := Str.ofString "__next__") h1.typeIs F.slot_dict_valueiterator_next (wpAny_call_entry F.slot_dict_valueiterator_next h1.typeIs F.entry_dict_valueiterator_next ?_ (F.args_dict_valueiterator_next_1 _)))
    refine wpAny_bind (wpAny_pure (wpAny_bind (wpAny_bind ?_)))
    first | refine wpAny_bind (wpAny_typeNameOfWhole_valiter h1.typeIs (wpAny_pure (wpAny_bind (wpAny_fieldsOf hoi hdi ?_)))) | refine wpAny_bind (wpAny_typeNameOf_valiter h1.typeIs (wpAny_pure (wpAny_bind (wpAny_fieldsOf hoi hdi ?_))))
    have own : Builtin.Dict_items.ownsTuple "dict_valueiterator" = false := by decide
    have es_len : es.size = vs.length := by rw [← hp.length]; simp
    simp only [own, Bool.false_eq_true, if_false]
    show wpAny _ _ (if (Value.ref d == Value.none) = true then _ else _) _ _ s
    rw [if_neg (show ¬ ((Value.ref d == Value.none) = true) from Bool.false_ne_true)]
    refine wpAny_bind (wpAny_pure (wpAny_bind (wpAny_dictEntries hod hdd ?_)))
    rw [if_neg (by rw [es_len]; simp)]
    refine wpAny_bind (wpAny_pure (wpAny_bind (wpAny_dictEpoch hod hdd ?_)))
    rw [if_neg (by simp)]
    have lt : k < es.size := by rw [es_len]; exact (List.getElem?_eq_some_iff.mp hkv).1
    have val : es[k].val = vv := (hp.get? (e := es[k]) (by simp [lt]) hkv).2
    refine wpAny_pure ?_
    simp only [show ¬ ((k : Int) < 0) from by omega, if_false, Int.toNat_natCast, Array.getElem?_eq_getElem lt]
    refine wpAny_bind ?_
    first | refine wpAny_bind (wpAny_typeNameOfWhole_valiter h1.typeIs (wpAny_pure (wpAny_bind (wpAny_isOneOf_valiter h1.typeIs ?_)))) | refine wpAny_bind (wpAny_typeNameOf_valiter h1.typeIs (wpAny_pure (wpAny_bind (wpAny_isOneOf_valiter h1.typeIs ?_))))
    show wpAny _ _ (setField (.ref i) 1 (rawInt ((k : Int) + 1)) >>= _) _ _ s
    have sb := Heap.SameBut.update s.heap i (Obj.mapFields (·.setIfInBounds 1 (rawInt ((k : Int) + 1))))
    have it' : (s.heap.update i (Obj.mapFields (·.setIfInBounds 1 (rawInt ((k : Int) + 1))))).IsValIter i d (k + 1) vs.length ep :=
      ⟨_, Heap.get?_update_self _ hoi (Obj.isFreed_of_fields (Obj.data_mapFields hdi _)), (Obj.cls_mapFields ..).trans hci, by rw [Obj.data_mapFields hdi]; simp [rawInt]⟩
    refine wpAny_bind (wpAny_setField hoi hdi (by simp) (wpAny_bind (wpAny_holding ?_)))
    refine wpAny_bind (wpAny_isOneOf_valiter (s := { s with heap := _ }) it'.typeIs (wpAny_bind (wpAny_isOneOf_valiter (s := { s with heap := _ }) it'.typeIs ?_)))
    show wpAny _ _ (pure es[k].val) _ _ _
    exact wpAny_pure (wpAny_pure ⟨_, rfl, wpAny_pure (val ▸ q _ ⟨it', (sb.2 d ne).trans h2⟩ sb)⟩)
  done := fun A k s Q E hh ⟨h1, h2⟩ hx q => by
    obtain ⟨oi, hoi, hci, hdi⟩ := id h1
    obtain ⟨od, es, hod, _, hdd, _, hp, _⟩ := D0 _ h2
    have hx : vs[k]? = none := Option.map_eq_none_iff.mp hx
    unfold Builtin.SmallTypes.nextOf
    refine wpAny_bind (wpAny_callSpecial?_slot (name := Str.ofString "__next__") h1.typeIs F.slot_dict_valueiterator_next (wpAny_call_entry F.slot_dict_valueiterator_next h1.typeIs F.entry_dict_valueiterator_next ?_ (F.args_dict_valueiterator_next_1 _)))
    refine wpAny_bind (wpAny_pure (wpAny_bind (wpAny_bind ?_)))
    first | refine wpAny_bind (wpAny_typeNameOfWhole_valiter h1.typeIs (wpAny_pure (wpAny_bind (wpAny_fieldsOf hoi hdi ?_)))) | refine wpAny_bind (wpAny_typeNameOf_valiter h1.typeIs (wpAny_pure (wpAny_bind (wpAny_fieldsOf hoi hdi ?_))))
    have own : Builtin.Dict_items.ownsTuple "dict_valueiterator" = false := by decide
    have es_len : es.size = vs.length := by rw [← hp.length]; simp
    simp only [own, Bool.false_eq_true, if_false]
    show wpAny _ _ (if (Value.ref d == Value.none) = true then _ else _) _ _ s
    rw [if_neg (show ¬ ((Value.ref d == Value.none) = true) from Bool.false_ne_true)]
    refine wpAny_bind (wpAny_pure (wpAny_bind (wpAny_dictEntries hod hdd ?_)))
    rw [if_neg (by rw [es_len]; simp)]
    refine wpAny_bind (wpAny_pure (wpAny_bind (wpAny_dictEpoch hod hdd ?_)))
    rw [if_neg (by simp)]
    have ge : es.size ≤ k := by rw [es_len]; simpa using hx
    refine wpAny_pure ?_
    simp only [show ¬ ((k : Int) < 0) from by omega, if_false, Int.toNat_natCast, Array.getElem?_eq_none ge]
    refine wpAny_bind ?_
    first | refine wpAny_bind (wpAny_typeNameOfWhole_valiter h1.typeIs (wpAny_pure ?_)) | refine wpAny_bind (wpAny_typeNameOf_valiter h1.typeIs (wpAny_pure ?_))
    show wpAny _ _ (setField (.ref i) 0 .none >>= _) _ _ s
    refine wpAny_bind (wpAny_setField hoi hdi (by simp) ?_)
    show wpAny _ _ (newExc (.type "StopIteration") [] >>= _) _ _ _
    refine wpAny_bind ?_
    simp only [newExc, newTuple]
    refine wpAny_bind (wpAny_newObj_type (wpAny_bind (m := firstArgMember _ _) (wpAny_of_eq (a := Value.none) (by first | rfl | (simp only [firstArgMember]; rfl)) (wpAny_newObj_type ?_ (by size_fits)))) (by size_fits))
    simp only [raiseNew]
    refine wpAny_bind (wpAny_handled ?_)
    first | rw [show A.in1.handled = none from hh] | rw [hh]
    exact wpAny_bind (wpAny_pure (wpAny_throw (q _ _ (((Heap.SameBut.update ..).extBut.push _).push _) ⟨_, Heap.get?_push_size _ rfl, rfl⟩)))
end
end L2

set_option Elab.async false
set_option linter.all false
set_option maxRecDepth 100000
set_option maxHeartbeats 4000000
/-! our own rules: zip(d.values(), list) -/
namespace L2
open PySem PySem.Spec PyProof.Rows
def DV (p d : Addr) : HO := .ext fun h => h.IsValuesView p d
def tValsE (tl : TE) : TE := fun σ H Q => tl σ H fun x H1 => ∃ d kvs, x = .ref d ∧ H1 d = some (.dK kvs) ∧ ∀ p H', H1 p = none → Same H1 H' → H' p = some (DV p d) → Q (.ref p) H'
theorem pe_valsE {X : Cx} {l : Expr} {tl : TE} {apos cpos : Pos} (hl : PE X l tl) (hbase : attributeBase l "values" X.env (eval l X.env) = eval l X.env := by rfl) (hline : (apos.endLine == cpos.line) = true := by rfl) :
    PE X (.Call (.Attribute l "values" apos) [] [] cpos) (tValsE tl) := by
  intro pins s σ H Q I h
  refine wpAny_Call_method0_late hbase hline (thn (hl pins s σ H _ I h) fun v s1 ⟨x, H1, I1, r1, d, kvs, e, hd, q⟩ => ?_)
  subst e
  cases r1
  obtain ⟨z1, z2, vs, rel, dof⟩ := dk_of I1.hok hd
  obtain ⟨h1, h2⟩ := tyV_is (T := "dict") I1 (show RelV (.ref d) (.ref d) from rfl) (.inr (.inr (.inl ⟨rfl, .inl ⟨_, hd⟩⟩)))
  refine ⟨"dict", "dict.values", PySem.F.plainAttrs_dict, PySem.F.slot_dict_values, PySem.F.type_dict_values, h1, h2, Calls.callWith_builtin rfl (PySem.evalArgs_none ?_)⟩
  refine call_meetsIn PySem.F.slot_dict_values h1 PySem.F.entry_dict_values (PySem.F.args_dict_values_1 _) (meets_dict_values (mixKind X.prog X.w) d z2) ⟨⟨vs, dof⟩, ?_⟩
  have fr := I1.hok.fresh (Nat.le_refl s1.heap.objs.size)
  refine ⟨.ref s1.heap.objs.size, upd H1 s1.heap.objs.size (DV s1.heap.objs.size d), I1.laid (t' := s1.toks) (fun b o q => Heap.get?_push_of_some _ q) (Nat.le_refl _) ⟨⟨_, Heap.get?_push_size _ rfl, rfl, rfl⟩, ⟨_, Heap.get?_push_size _ rfl⟩, fun g g' ⟨o, e, r⟩ k => ⟨o, k o e, r⟩⟩, rfl, q _ _ fr (same_new fr _) upd_same⟩
abbrev zOv (d : Addr) (n ep : Nat) : Obj := { cls := .type "dict_valueiterator", data := .fields #[.ref d, .int 0 0, .int n 0, .int ep 0] }
section
variable {prog : Program} {w : World}
theorem meets_zip_vl (p d l2 : Addr) (vs : List (Key × Value)) (ep : Nat) (ys : Array Value) :
    MeetsIn prog w (Builtin.«zip.__new__» ⟨[.type "zip", .ref p, .ref l2], []⟩) (fun _ R s => s.heap.IsValuesView p d ∧ s.heap.DictAt (mixKind prog w) d vs ep ∧ s.heap.IsList l2 ys ∧ R (.ok (.ret (.ref (zA s.heap (zOv d vs.length ep) (zO "list_iterator" l2))))) { s with heap := zG s.heap (zOv d vs.length ep) (zO "list_iterator" l2) }) :=
  .of_wp fun A R s h => by
    obtain ⟨hp, g, dr, tk, os⟩ := s; obtain ⟨hv, hm, hl2, h⟩ := h
    have hsub := sub_zip
    have hV : Heap.IsValuesView (Shared.heap ⟨hp, g, dr, tk, os⟩) p d := hv
    have hM : Heap.DictAt (mixKind prog w) (Shared.heap ⟨hp, g, dr, tk, os⟩) d vs ep := hm
    have hL2 : Heap.IsList (Shared.heap ⟨hp.push (zOv d vs.length ep), g, dr, tk, os⟩) l2 ys := Heap.IsList.push hl2 _
    wp_walk using wpAny_pyIter_values hV hM, wpAny_pyIter_list hL2
    exact ⟨_, rfl, h⟩
end
end L2

set_option Elab.async false
set_option linter.all false
set_option maxRecDepth 100000
set_option maxHeartbeats 4000000
/-! our own rules: for over zip(d.values(), list) -/
namespace L2
open PySem PySem.Spec PyProof.Rows
theorem call_zip_vl {prog : Program} {w : World} {A : Around} {E : Value → Shared → Prop} {s : Shared} {p d l2 : Addr} {vs : List (Key × Value)} {ep : Nat} {ys : Array Value} {Q : Value → Shared → Prop} (hv : s.heap.IsValuesView p d) (hm : s.heap.DictAt (mixKind prog w) d vs ep) (hl2 : s.heap.IsList l2 ys)
    (h : Q (.ref (s.heap.objs.size + 4)) { s with heap := zG s.heap (zOv d vs.length ep) (zO "list_iterator" l2) }) : wpAny (model prog w) A (call (.type "zip") [.ref p, .ref l2]) Q E s := by
  refine callType_newIn F.called_zip (by decide) (F.typeCall_zip_2 _ _) (F.newCall_zip_2 _ _) (fun obj => F.args_object_init_3 obj _ _) F.entry_zip_new (meets_zip_vl p d l2 vs ep ys) ⟨hv, hm, hl2, ?_⟩
  have g := (zG_at s.heap (zOv d vs.length ep) (zO "list_iterator" l2) rfl rfl).1
  show _ ∧ _
  rw [zA_eq]
  exact ⟨⟨_, g, rfl⟩, h⟩
def Itzv (K : PySem.W.Frag) (d : Addr) (o : Obj) (kvs : List (Key × V)) (b : Addr) : It :=
  ⟨fun i H => i < kvs.length ∧ H d = some (.frz o (.dK kvs)) ∧ ∃ ys y, SqL K H b ys ∧ ys[i]? = some y, fun i H v H' => ∃ p k x y, v = .ref p ∧ H p = none ∧ Same H H' ∧ H' p = some (.tup [x, y]) ∧ kvs[i]? = some (k, x) ∧ ∀ ys, SqL K H b ys → ys[i]? = some y, fun i H => H d = some (.frz o (.dK kvs)) ∧ ∃ ys, SqL K H b ys ∧ (kvs.length ≤ i ∨ ys.length ≤ i)⟩
theorem turn_zipV {P : Program} {w : World} {K : PySem.W.Frag} {elts : List Expr} {kk : Nat} {tpos : Pos} {d b z TI TO i1 i2 : Addr} {o : Obj} {kvs : List (Key × V)} {vs : List (Key × Value)} {ep : Nat} (D : ZA z TI TO i1 i2 [d] [b]) (rel : KV kvs vs) (D0 : ∀ h : Heap, h.get? d = some o → h.DictAt (mixKind P w) d vs ep) :
    Turn P w K (.Tuple elts kk tpos) (Itzv K d o kvs b) [z, TI, TO, i1, i2] z (fun i h => IsZip h z TI TO .none ∧ IsPair h TI (.ref i1) (.ref i2) ∧ (∃ x y, IsPair h TO x y) ∧ h.IsValIter i1 d i vs.length ep ∧ h.IsListIter i2 b i) where
  mem := by simp
  obj := fun i h st c hc => by
    obtain ⟨h1, h2, ⟨x, y, h3⟩, ⟨o4, e4, c4, d4⟩, ⟨o5, e5, c5, d5⟩⟩ := st
    simp only [List.mem_cons, List.not_mem_nil, or_false] at hc
    rcases hc with rfl | rfl | rfl | rfl | rfl
    · exact ⟨_, h1, fun v q => by
        have q' : Data.fields _ = Data.cell v := q
        cases q'⟩
    · exact ⟨_, h2, fun v q => by
        have q' : Data.seq _ _ = Data.cell v := q
        cases q'⟩
    · exact ⟨_, h3, fun v q => by
        have q' : Data.seq _ _ = Data.cell v := q
        cases q'⟩
    · exact ⟨o4, e4, fun v q => by rw [d4] at q; cases q⟩
    · exact ⟨o5, e5, fun v q => by rw [d5] at q; cases q⟩
  keep := fun i h h' ⟨h1, h2, ⟨x, y, h3⟩, ⟨o4, e4, r4⟩, h5⟩ k => ⟨k z (by simp) _ h1, k TI (by simp) _ h2, ⟨x, y, k TO (by simp) _ h3⟩, ⟨o4, k i1 (by simp) _ e4, r4⟩, h5.at fun o e => k i2 (by simp) o e⟩
  item := by
    intro X hP hw hK hc i pins s σ H E I hf st hg
    subst hP hw hK
    obtain ⟨hi, hd, ys, y, hq2, hy⟩ := hg
    obtain ⟨h1, h2, ⟨p, q, h3⟩, h4, h5⟩ := st
    obtain ⟨ho, _⟩ := (show ObjOk X.prog X.w H s.heap d (.frz o (.dK kvs)) from I.hok d _ hd)
    obtain ⟨u, hu, ru⟩ := kv_get rel (k := kvs[i].1) (x := kvs[i].2) (List.getElem?_eq_getElem hi)
    obtain ⟨its2, rv2, p2, hz2⟩ := I.list hq2
    obtain ⟨v, hv, rv⟩ := rv2.get hy
    have zl : ∀ c ∈ [z, TI, TO, i1, i2], c < s.heap.objs.size := fun c hc => by
      simp only [List.mem_cons, List.not_mem_nil, or_false] at hc
      rcases hc with rfl | rfl | rfl | rfl | rfl
      · exact Heap.lt_size h1
      · exact Heap.lt_size h2
      · exact Heap.lt_size h3
      · obtain ⟨_, e, _⟩ := h4; exact Heap.lt_size e
      · obtain ⟨_, e, _⟩ := h5; exact Heap.lt_size e
    refine zp_item D (nx_vals i1 d o vs ep (D.a1 d (by simp)).2.2.1 D0) (nx_list i2 b its2.toArray (D.a2 b (by simp)).2.2.2) h1 h2 h3 ⟨h4, ho⟩ ⟨h5, p2.isList⟩ (x := u) (y := v) (by rw [hu]; rfl) (by simpa using hv) fun h' z' o' t1' t2' p' sz' kp => ?_
    refine ⟨_, rfl, wpAny_letOwnedTupleGo_zip z' fun h'' z'' sb => ?_⟩
    have I1 : Inv X pins σ (upd H s.heap.objs.size (.tup [kvs[i].2, y])) { s with heap := s.heap.push { cls := .type "tuple", data := .seq #[u, v] }, toks := s.toks } :=
      I.laid (fun b o q => Heap.get?_push_of_some _ q) (Nat.le_refl _) ⟨by show 2 ≤ sizeLine; decide, [u, v], .cons ru (.cons rv .nil), ⟨_, Heap.get?_push_size _ rfl, rfl, _, rfl⟩⟩
    have hf' : ∀ c ∈ [z, TI, TO, i1, i2], FpOk X pins (upd H s.heap.objs.size (.tup [kvs[i].2, y])) c := fun c hc => by
      refine ⟨?_, (hf c hc).2⟩
      rw [upd_ne (Nat.ne_of_lt (zl c hc))]
      exact (hf c hc).1
    have I2 : Inv X pins σ (upd H s.heap.objs.size (.tup [kvs[i].2, y])) { s with heap := h'', toks := s.toks } := I1.turnedL (t' := s.toks) (fun c o hc q => by
      simp only [List.mem_cons, List.not_mem_nil, or_false, not_or] at hc
      refine (sb.2 c hc.1).trans ?_
      by_cases hT : c = s.heap.objs.size
      · subst hT
        have q' : (s.heap.push { cls := .type "tuple", data := .seq #[u, v] }).get? s.heap.objs.size = some o := q
        rw [Heap.get?_push_size _ rfl] at q'
        cases q'
        exact p'
      · have q' : (s.heap.push { cls := .type "tuple", data := .seq #[u, v] }).get? c = some o := q
        rw [Heap.get?_push_ne _ _ _ hT] at q'
        exact kp c o hc.1 hc.2.2.1 hc.2.2.2.1 hc.2.2.2.2 q') hf'
    have up : ∀ c o, c ≠ z → h'.get? c = some o → h''.get? c = some o := fun c o n e => (sb.2 c n).trans e
    have ti' : h'.get? TI = some _ := kp TI _ D.tz D.to D.ti D.tj h2
    obtain ⟨⟨o4, e4, r4⟩, _⟩ := t1'
    refine ⟨.ref s.heap.objs.size, _, I2, rfl, ⟨_, kvs[i].1, kvs[i].2, y, rfl, I.hok.fresh (Nat.le_refl _), same_new (I.hok.fresh (Nat.le_refl _)) _, upd_same, List.getElem?_eq_getElem hi, fun ys' h => by rw [I.list_inj h hq2]; exact hy⟩, ⟨z'', up _ _ D.tz ti', ⟨_, _, up _ _ D.oz o'⟩, ⟨o4, up _ _ D.iz e4, r4⟩, t2'.1.at fun o e => up _ o D.jz e⟩, fun c hc => (hf' c hc).1⟩
  done := by
    intro X hP hw hK hc i pins s σ H E I hf st hg
    subst hP hw hK
    obtain ⟨hd, ys, hq2, hx⟩ := hg
    obtain ⟨h1, h2, ⟨p, q, h3⟩, h4, h5⟩ := st
    obtain ⟨ho, _⟩ := (show ObjOk X.prog X.w H s.heap d (.frz o (.dK kvs)) from I.hok d _ hd)
    obtain ⟨its2, rv2, p2, hz2⟩ := I.list hq2
    have l1 := rel.length
    have l2 := rv2.length
    refine zp_end (I.ok.hd hc) D (nx_vals i1 d o vs ep (D.a1 d (by simp)).2.2.1 D0) (nx_list i2 b its2.toArray (D.a2 b (by simp)).2.2.2) h1 h2 h3 ⟨h4, ho⟩ ⟨h5, p2.isList⟩ (hx.imp (fun h => by rw [List.getElem?_eq_none (by omega)]; rfl) fun h => by simp; omega) fun h' kp => ⟨rfl, I.turnedL (t' := s.toks) (fun c o hc e => ?_) hf⟩
    simp only [List.mem_cons, List.not_mem_nil, or_false, not_or] at hc
    exact kp c o hc.1 hc.2.2.1 hc.2.2.2.1 hc.2.2.2.2 e
  self := fun _ _ _ _ _ st h => wpAny_pyIter_zip st.1 h
def iZipV (K : PySem.W.Frag) (nf : Addr → Prop) (ta : TA) : TI := fun σ H R => ta σ H fun vs H1 => ∃ p d b kvs, vs = [.ref p, .ref b] ∧ H1 p = some (DV p d) ∧ H1 d = some (.dK kvs) ∧ (∃ ys, SqL K H1 b ys) ∧ ∀ o, nf d → R (Itzv K d o kvs b) (upd H1 d (.frz o (.dK kvs)))
theorem pi_zipV {X : Cx} {a b : Expr} {ta : TA} {p pos tpos : Pos} {elts : List Expr} {kk : Nat} (hg : Gl X "zip") (hm : X.mg "zip" = none) (ha : PA X [a, b] ta) (hs : starEach [a, b] X.env = (false, eval a X.env) :: starEach [b] X.env := by rfl) (hs2 : starEach [b] X.env = [(false, eval b X.env)] := by rfl) :
    PI X (.Tuple elts kk tpos) (.Call (.Name "zip" p) [a, b] [] pos) (iZipV X.K (NoFz X) ta) := by
  intro pins s σ H R I h
  refine Call_ (ld_blt I hg hm (show bootBuiltins "zip" = some (.type "zip") by decide +kernel) (PyProof.Rows.callWith_type1 (thn (ha pos pins s σ H _ I h) fun us s1 ⟨vs, H1, I1, r1, q1⟩ => ?_) hs (by rw [hs2]; rfl)))
  obtain ⟨pv, d, l2, kvs, e, hpv, hd, ⟨ys, hq2⟩, q⟩ := q1
  subst e
  cases r1 with
  | cons r rr =>
    cases rr with
    | cons r' rr =>
      cases rr
      cases r
      cases r'
      obtain ⟨z1, z2, ws, rel, o, es, ep, ho, rd⟩ := dk_of I1.hok hd
      have D0 : ∀ h : Heap, h.get? d = some o → h.DictAt (mixKind X.prog X.w) d ws ep := fun h e => ⟨o, es, e, rd⟩
      have nf := I1.nofz hd
      have If : Inv X pins σ (upd H1 d (.frz o (.dK kvs))) s1 := I1.retag hd (fun _ z => by cases z) nf (fun _ z => by cases z) (fun _ z => by cases z) ⟨ho, z1, z2, ws, rel, o, es, ep, ho, rd⟩
      have vw : s1.heap.IsValuesView pv d := (show ObjOk X.prog X.w H1 s1.heap pv (DV pv d) from I1.hok pv _ hpv).1
      obtain ⟨its2, rv2, p2, hz2⟩ := I1.list hq2
      have b1 : d < s1.heap.objs.size := Heap.lt_size ho
      have b2 : l2 < s1.heap.objs.size := by obtain ⟨_, e, _⟩ := p2.isList; exact Heap.lt_size e
      refine call_zip_vl vw (D0 _ ho) p2.isList ?_
      obtain ⟨y1, y2, y3, y4, y5, y6, y7⟩ := zG_at s1.heap (zOv d ws.length ep) (zO "list_iterator" l2) rfl rfl
      have D : ZA (s1.heap.objs.size + 4) (s1.heap.objs.size + 2) (s1.heap.objs.size + 3) s1.heap.objs.size (s1.heap.objs.size + 1) [d] [l2] := za_new _ _ _ b1 b2
      refine wpAny_pyIter_zip y1 ⟨_, _, _, _, _, rfl, If.kept (t' := s1.toks) y7, turn_zipV D rel D0, ⟨y1, y2, ⟨_, _, y3⟩, ⟨_, y4, rfl, rfl⟩, ⟨_, y5, rfl, rfl⟩⟩, fun c hc => ?_, q o nf⟩
      have le : s1.heap.objs.size ≤ c := by
        simp only [List.mem_cons, List.not_mem_nil, or_false] at hc
        rcases hc with e | e | e | e | e <;> (rw [e]; first | exact Nat.le_refl _ | exact Nat.le_add_right _ _)
      exact If.fpOk le (If.hok.fresh le)
def tForU (nf : Addr → Prop) (wi : TI) (g : TG) (tb : TS) : TS := fun D => tFor wi g tb { D with nx := fun σ' H' => ∃ d o kvs, nf d ∧ H' d = some (.frz o (.dK kvs)) ∧ D.nx σ' (upd H' d (.dK kvs)) }
theorem ps_forU {X : Cx} {tg iter : Expr} {body : List Stmt} {wi : TI} {g : TG} {tb : TS} {pos : Pos} (hp : PassesOwn (model X.prog X.w) X.A X.env X.xe) (hc : X.calm = true) (hi : PI X tg iter wi) (hg : PG X tg g) (hb : PSs X body tb)
    (hs : ∀ x, foldedSetIterable iter X.env x = pure x := by intro _; rfl) : PS X (.For tg iter body [] pos) (tForU (NoFz X) wi g tb) := by
  intro pins s σ H D I h
  refine thn (ps_for hp hc hi hg hb hs pins s σ H _ I h) fun fl s' q => ?_
  cases fl with
  | next =>
    obtain ⟨σ', H', I', d, o, kvs, nf, hd, q⟩ := q
    obtain ⟨_, z⟩ := (show ObjOk X.prog X.w H' s'.heap d (.frz o (.dK kvs)) from I'.hok d _ hd)
    refine ⟨σ', _, I'.retag hd (fun _ z => by cases z) nf (fun _ z => by cases z) (fun _ z => by cases z) ?_, q⟩
    exact z
  | _ => exact q
theorem for_zipV {K : PySem.W.Frag} {d b : Addr} {o : Obj} {kvs : List (Key × V)} {ys : List V} {g : TG} {tb : TS} {D : Ends} {σ : St} {H : Hp} (el : kvs.length = ys.length) (Pv : Nat → St → Hp → Prop) (h0 : Pv 0 σ H) (hl : ∀ i σ H, i ≤ ys.length → Pv i σ H → H d = some (.frz o (.dK kvs)) ∧ SqL K H b ys)
    (hs : ∀ i k x y σ H p H', kvs[i]? = some (k, x) → ys[i]? = some y → Pv i σ H → H p = none → Same H H' → H' p = some (.tup [x, y]) → g (.ref p) σ H' fun σ2 H2 => tb { D with nx := Pv (i + 1), ct := Pv (i + 1), bk := D.nx } σ2 H2) (hd : ∀ σ H, Pv ys.length σ H → D.nx σ H) : ForJ (Itzv K d o kvs b) g tb D σ H := by
  refine ⟨fun i m σ H => m = ys.length - i ∧ i ≤ ys.length ∧ Pv i σ H, ⟨ys.length, by simp, Nat.zero_le _, h0⟩, ?_⟩
  rintro i m σ H ⟨rfl, hi, p⟩
  have q := hl i σ H hi p
  by_cases hlt : i < ys.length
  · refine .inr ⟨⟨by omega, q.1, ys, _, q.2, List.getElem?_eq_getElem hlt⟩, Pv (i + 1), fun σ' H' p' => ⟨ys.length - (i + 1), by omega, rfl, hlt, p'⟩, fun v H' y => ?_⟩
    obtain ⟨pp, k, x, y, rfl, hn, sm, hp, ek, ey⟩ := y
    exact hs i k x y σ H pp H' ek (ey ys q.2) p hn sm hp
  · have e : i = ys.length := by omega
    subst e
    exact .inl ⟨⟨q.1, ys, q.2, .inr (Nat.le_refl _)⟩, hd σ H p⟩
end L2

set_option Elab.async false
set_option linter.all false
set_option maxRecDepth 100000
set_option maxHeartbeats 4000000
/-! our own rules: list.clear -/
namespace L2
open PySem PySem.Spec PyProof.Rows
def rClrG : V → List V → Hp → VK → Prop := fun x vs H Q => ∃ l xs, x = .ref l ∧ vs = [] ∧ H l = some (.lst xs) ∧ ∀ H', Mu H l (.lst []) H' → Q .non H'
theorem mt_clearG {X : Cx} : MtR X "list.clear" rClrG := by
  intro pins s σ H x vs v us Q I rx rv h
  obtain ⟨l, xs, rfl, rfl, hH, q⟩ := h
  cases rx
  have hus := rv.zero
  subst hus
  obtain ⟨z, its, n, r, hl, e⟩ := I.lstM hH
  refine call_meets F.slot_list_clear ⟨_, e, rfl⟩ F.entry_list_clear (F.args_list_clear_1 _) (AutoSeq1.list_clear_list_0 l its.toArray n (by rw [List.size_toArray]; omega)) ⟨e, ?_⟩
  exact ⟨.non, _, I.lset (its' := []) hH e rfl .nil (Nat.zero_le _), rfl, q _ .mk'⟩
end L2

set_option Elab.async false
set_option linter.all false
set_option maxRecDepth 100000
set_option maxHeartbeats 4000000
/-! our own reading tactic: what is behind a statement has a name, and what lies in the heap is read in one step -/
theorem L2.hideL {a b : L2.TS} {D σ H} (h : let T := b; L2.tSeq a T D σ H) : L2.tSeq a b D σ H := h
theorem L2.hRet {a D σ H} (h : L2.tRet a D σ H) : L2.tRet a D σ H := h
theorem L2.hIf {a b c D σ H} (h : L2.tIfS a b c D σ H) : L2.tIfS a b c D σ H := h
theorem L2.hDrop {a D σ H} (h : L2.tDrop a D σ H) : L2.tDrop a D σ H := h
theorem L2.xL0 {H : L2.Hp} {a : PySem.Addr}  {v0 : List L2.V} {R : List L2.V → Prop} (h : H a = some (.lst v0)) : (∃ v, H a = some (.lst v) ∧ R v) = R v0 := propext ⟨fun e => by obtain ⟨v, e, r⟩ := e; rw [h] at e; cases e; exact r, fun r => ⟨v0, h, r⟩⟩
theorem L2.xT0 {H : L2.Hp} {a : PySem.Addr}  {v0 : List L2.V} {R : List L2.V → Prop} (h : H a = some (.tup v0)) : (∃ v, H a = some (.tup v) ∧ R v) = R v0 := propext ⟨fun e => by obtain ⟨v, e, r⟩ := e; rw [h] at e; cases e; exact r, fun r => ⟨v0, h, r⟩⟩
theorem L2.xD0 {H : L2.Hp} {a : PySem.Addr}  {v0 : List (L2.Key × L2.V)} {R : List (L2.Key × L2.V) → Prop} (h : H a = some (.dK v0)) : (∃ v, H a = some (.dK v) ∧ R v) = R v0 := propext ⟨fun e => by obtain ⟨v, e, r⟩ := e; rw [h] at e; cases e; exact r, fun r => ⟨v0, h, r⟩⟩
theorem L2.xI0 {H : L2.Hp} {a : PySem.Addr}  {C d0 : PySem.Addr} {f0 : List (PySem.Str × L2.V)} {R : PySem.Addr → List (PySem.Str × L2.V) → Prop} (h : H a = some (.ins C d0 f0)) : (∃ d f, H a = some (.ins C d f) ∧ R d f) = R d0 f0 := propext ⟨fun e => by obtain ⟨d, f, e, r⟩ := e; rw [h] at e; cases e; exact r, fun r => ⟨d0, f0, h, r⟩⟩
theorem L2.xI1 {H : L2.Hp} {a : PySem.Addr} {α0 : Sort _} {C d0 : PySem.Addr} {f0 : List (PySem.Str × L2.V)} {R : PySem.Addr → List (PySem.Str × L2.V) → α0 → Prop} (h : H a = some (.ins C d0 f0)) : (∃ d f x0, H a = some (.ins C d f) ∧ R d f x0) = ∃ x0, R d0 f0 x0 := propext ⟨fun e => by obtain ⟨d, f, x0, e, r⟩ := e; rw [h] at e; cases e; exact ⟨x0, r⟩, fun e => by obtain ⟨x0, r⟩ := e; exact ⟨d0, f0, x0, h, r⟩⟩
theorem L2.xE1 {H : L2.Hp} {a : PySem.Addr} {α0 : Sort _} {v0 : List L2.V} {R : List L2.V → α0 → Prop} (h : H a = some (.tup v0)) : (∃ v x0, (H a = some (.tup v) ∨ H a = some (.lst v)) ∧ R v x0) = ∃ x0, R v0 x0 := propext ⟨fun e => by obtain ⟨v, x0, e, r⟩ := e; rw [h] at e; rcases e with e | e <;> cases e; exact ⟨x0, r⟩, fun e => by obtain ⟨x0, r⟩ := e; exact ⟨v0, x0, .inl h, r⟩⟩
theorem L2.xF1 {H : L2.Hp} {a : PySem.Addr} {α0 : Sort _} {v0 : List L2.V} {R : List L2.V → α0 → Prop} (h : H a = some (.lst v0)) : (∃ v x0, (H a = some (.tup v) ∨ H a = some (.lst v)) ∧ R v x0) = ∃ x0, R v0 x0 := propext ⟨fun e => by obtain ⟨v, x0, e, r⟩ := e; rw [h] at e; rcases e with e | e <;> cases e; exact ⟨x0, r⟩, fun e => by obtain ⟨x0, r⟩ := e; exact ⟨v0, x0, .inr h, r⟩⟩
def L2.xNames : String := "xD0 xE1 xF1 xI0 xI1 xL0 xT0"
open Lean Meta Simp in
simproc_decl exHp (Exists _) := fun e => do
  let _ := L2.xNames
  let mut b := e
  let mut n := 0
  while b.isAppOfArity ``Exists 2 && b.appArg!.isLambda do
    b := b.appArg!.bindingBody!
    n := n + 1
  let_expr And A _ := b | return .continue
  let (o, X) := match_expr A with
    | Or X _ => (true, X)
    | _ => (false, A)
  let_expr Eq _ l r := X | return .continue
  if l.hasLooseBVars then return .continue
  let_expr Option.some _ rc := r | return .continue
  let some c := rc.getAppFn.constName? | return .continue
  for d in (← getLCtx) do
    if d.isImplementationDetail then continue
    let ty ← instantiateMVars d.type
    let_expr Eq _ l' r' := ty | continue
    unless l' == l do continue
    let_expr Option.some _ rc' := r' | continue
    let some c' := rc'.getAppFn.constName? | continue
    let (s, k) := if o then
        (if c == `L2.HO.tup then (if c' == `L2.HO.tup then "xE" else "xF") else (if c' == `L2.HO.lst then "xG" else "xJ"), n - 1)
      else if c != c' then ("", 0)
      else if c == `L2.HO.lst then ("xL", n - 1) else if c == `L2.HO.tup then ("xT", n - 1) else if c == `L2.HO.dK then ("xD", n - 1) else if c == `L2.HO.ins && n ≥ 2 then ("xI", n - 2) else ("", 0)
    if s == "" || k > 3 then continue
    let nm := Name.mkStr `L2 (s ++ toString k)
    unless (← getEnv).contains nm do continue
    let thm ← mkConstWithFreshMVarLevels nm
    let (ms, _, ty2) ← forallMetaTelescope (← inferType thm)
    let_expr Eq _ a2 b2 := ty2 | continue
    unless (← withReducible (isDefEq a2 e)) do continue
    unless (← isDefEq (← inferType ms.back!) ty) do continue
    ms.back!.mvarId!.assign d.toExpr
    let res ← instantiateMVars b2
    return .visit { expr := res.headBeta, proof? := some (← instantiateMVars (mkAppN thm ms)) }
  return .continue
open Lean Meta Simp in
simproc_decl quickV2 (L2.tVar _ _ _ _) := fun e => do
  let_expr L2.tVar i s H Q := e | return .continue
  let l ← mkAppM ``GetElem?.getElem? #[s, i]
  let w ← whnfD l
  let_expr Option.some _ o := w | return .continue
  let o' ← whnfD o
  let_expr Option.some _ v := o' | return .continue
  return .visit { expr := (mkApp2 Q v H).headBeta, proof? := some (mkApp6 (mkConst ``L2.qVar) i s H Q v (← mkEqRefl (← mkAppM ``Option.some #[← mkAppM ``Option.some #[v]]))) }
def L2.lzPre2 : String := "lazyAnd reduceIte lazyIte exHp exists_eq_left exists_eq_left' reduceIte L2.exBl L2.exIn L2.exRf L2.exSt L2.exSo quickV2 L2.exIn1 L2.exRf1 L2.exRf2 L2.exRf3"
@[elab_as_elim] theorem L2.len1 {α : Type} {p : List α → Prop} (us : List α) (hl : us.length = 1) (h : ∀ a, p [a]) : p us :=
  match us, hl with
  | [a], _ => h a
@[elab_as_elim] theorem L2.len2 {α : Type} {p : List α → Prop} (us : List α) (hl : us.length = 2) (h : ∀ a b, p [a, b]) : p us :=
  match us, hl with
  | [a, b], _ => h a b
@[elab_as_elim] theorem L2.len3 {α : Type} {p : List α → Prop} (us : List α) (hl : us.length = 3) (h : ∀ a b c, p [a, b, c]) : p us :=
  match us, hl with
  | [a, b, c], _ => h a b c
@[elab_as_elim] theorem L2.len4 {α : Type} {p : List α → Prop} (us : List α) (hl : us.length = 4) (h : ∀ a b c d, p [a, b, c, d]) : p us :=
  match us, hl with
  | [a, b, c, d], _ => h a b c d
theorem L2.hFld {C f a b D σ H} (h : L2.sFldG C f a b D σ H) : L2.sFldG C f a b D σ H := h
seal L2.PE L2.PA L2.PS L2.PSs L2.PT L2.PW L2.PG L2.PGs L2.OpR L2.CallR L2.PI L2.PSet L2.PO L2.SlR L2.IxR L2.PPs L2.PC L2.UnR L2.MtR
local macro_rules
  | `(tactic| walk_at "rl") => do
    let a ← L2.rdArgs L2.lzPre
    `(tactic| simp (config := { maxSteps := 3000000 }) only [$a,*, *])
  | `(tactic| walk_at "ro") => do
    let a ← L2.rdArgs (L2.rdPre)
    `(tactic| simp (config := { maxSteps := 3000000 }) only [and_assoc, $a,*, *])
  | `(tactic| walk_at "rz") => do
    let a ← L2.rdArgs (L2.lzPre ++ " lazyAll")
    `(tactic| simp (config := { maxSteps := 3000000 }) only [$a,*, *])
  | `(tactic| walk_at "rd") => `(tactic| first | (walk_at "rl"; try walk_at "ro") | walk_at "ro")
  | `(tactic| walk_at "ry") => do
    let a ← L2.rdArgs (L2.lzPre2 ++ " lazyAll")
    `(tactic| simp (config := { maxSteps := 3000000, zeta := false, zetaDelta := false }) only [$a,*, *])
  | `(tactic| walk_at "rh") => `(tactic| with_reducible first | (refine L2.hideL ?_; intro T) | refine L2.hRet ?_ | refine L2.hIf ?_ | refine L2.hFor ?_ | refine L2.hDrop ?_ | refine L2.hAsg ?_ | refine L2.hWhile ?_ | refine L2.hFld ?_ | refine L2.hForU ?_ | refine L2.hForK ?_ | refine L2.hPut ?_ | refine L2.hRetN ?_)
  | `(tactic| walk_at "r2") => `(tactic| ((try walk_at "rh"); (try walk_at "ry"); repeat (walk_at "rh"; walk_at "ry")))

set_option Elab.async false
set_option linter.all false
set_option maxRecDepth 100000
set_option maxHeartbeats 4000000
namespace K23
open PySem L2
def top (i : Nat) : Stmt := PySem.Challenge.pw_rerunyard_k23_whole_goods_stood.main.body.getD i (.Pass ⟨0, 0, 0, 0⟩)
abbrev s_Tool___init__ : Stmt := inClass (top 1) 0
theorem sc_Tool___init__ : FnScope ["self", "count"] ["self", "count"] (defScope s_Tool___init__) := ⟨rfl, rfl, rfl, by decide +kernel, rfl, by decide +kernel, by decide +kernel⟩
abbrev s_Store___init__ : Stmt := inClass (top 2) 0
theorem sc_Store___init__ : FnScope ["self", "level", "most"] ["self", "level", "most"] (defScope s_Store___init__) := ⟨rfl, rfl, rfl, by decide +kernel, rfl, by decide +kernel, by decide +kernel⟩
abbrev s_Goods___init__ : Stmt := inClass (top 3) 0
theorem sc_Goods___init__ : FnScope ["self", "program"] ["self", "program"] (defScope s_Goods___init__) := ⟨rfl, rfl, rfl, by decide +kernel, rfl, by decide +kernel, by decide +kernel⟩
abbrev s_Goods_take : Stmt := inClass (top 3) 1
theorem sc_Goods_take : FnScope ["self", "hand", "name", "n", "tool"] ["self", "hand", "name", "n"] (defScope s_Goods_take) := ⟨rfl, rfl, rfl, by decide +kernel, rfl, by decide +kernel, by decide +kernel⟩
abbrev s_Goods_give : Stmt := inClass (top 3) 2
theorem sc_Goods_give : FnScope ["self", "hand", "name", "n", "tool", "given"] ["self", "hand", "name", "n"] (defScope s_Goods_give) := ⟨rfl, rfl, rfl, by decide +kernel, rfl, by decide +kernel, by decide +kernel⟩
abbrev s_Goods_put : Stmt := inClass (top 3) 3
theorem sc_Goods_put : FnScope ["self", "hand", "name", "n", "store"] ["self", "hand", "name", "n"] (defScope s_Goods_put) := ⟨rfl, rfl, rfl, by decide +kernel, rfl, by decide +kernel, by decide +kernel⟩
abbrev s_Goods_get : Stmt := inClass (top 3) 4
theorem sc_Goods_get : FnScope ["self", "hand", "name", "n", "store"] ["self", "hand", "name", "n"] (defScope s_Goods_get) := ⟨rfl, rfl, rfl, by decide +kernel, rfl, by decide +kernel, by decide +kernel⟩
abbrev s_Goods_bring : Stmt := inClass (top 3) 5
theorem sc_Goods_bring : FnScope ["self", "name", "n", "store", "brought"] ["self", "name", "n"] (defScope s_Goods_bring) := ⟨rfl, rfl, rfl, by decide +kernel, rfl, by decide +kernel, by decide +kernel⟩
abbrev s_Goods_leave : Stmt := inClass (top 3) 6
theorem sc_Goods_leave : FnScope ["self", "hand", "left", "name", "n", "given", "served"] ["self", "hand"] (defScope s_Goods_leave) := ⟨rfl, rfl, rfl, by decide +kernel, rfl, by decide +kernel, by decide +kernel⟩
abbrev s_Goods_tools : Stmt := inClass (top 3) 7
theorem sc_Goods_tools : FnScope ["self"] ["self"] (defScope s_Goods_tools) := ⟨rfl, rfl, rfl, by decide +kernel, rfl, by decide +kernel, by decide +kernel⟩
abbrev s_Goods_stores : Stmt := inClass (top 3) 8
theorem sc_Goods_stores : FnScope ["self"] ["self"] (defScope s_Goods_stores) := ⟨rfl, rfl, rfl, by decide +kernel, rfl, by decide +kernel, by decide +kernel⟩
abbrev s_Goods_stand : Stmt := inClass (top 3) 9
theorem sc_Goods_stand : FnScope ["self", "tools", "stores", "tool", "told", "store"] ["self", "tools", "stores"] (defScope s_Goods_stand) := ⟨rfl, rfl, rfl, by decide +kernel, rfl, by decide +kernel, by decide +kernel⟩
abbrev s_tools_of : Stmt := top 4
theorem sc_tools_of : FnScope ["program"] ["program"] (defScope s_tools_of) := ⟨rfl, rfl, rfl, by decide +kernel, rfl, by decide +kernel, by decide +kernel⟩
abbrev s_stores_of : Stmt := top 5
theorem sc_stores_of : FnScope ["program"] ["program"] (defScope s_stores_of) := ⟨rfl, rfl, rfl, by decide +kernel, rfl, by decide +kernel, by decide +kernel⟩
abbrev s_told_tool : Stmt := top 6
theorem sc_told_tool : FnScope ["tool"] ["tool"] (defScope s_told_tool) := ⟨rfl, rfl, rfl, by decide +kernel, rfl, by decide +kernel, by decide +kernel⟩
abbrev s_told_store : Stmt := top 7
theorem sc_told_store : FnScope ["store"] ["store"] (defScope s_told_store) := ⟨rfl, rfl, rfl, by decide +kernel, rfl, by decide +kernel, by decide +kernel⟩
abbrev s_hand_out : Stmt := top 8
theorem sc_hand_out : FnScope ["tool", "hand", "n"] ["tool", "hand", "n"] (defScope s_hand_out) := ⟨rfl, rfl, rfl, by decide +kernel, rfl, by decide +kernel, by decide +kernel⟩
abbrev s_hand_in : Stmt := top 9
theorem sc_hand_in : FnScope ["tool", "hand", "n"] ["tool", "hand", "n"] (defScope s_hand_in) := ⟨rfl, rfl, rfl, by decide +kernel, rfl, by decide +kernel, by decide +kernel⟩
abbrev s_serve_takers : Stmt := top 10
theorem sc_serve_takers : FnScope ["tool", "served", "hand", "n"] ["tool"] (defScope s_serve_takers) := ⟨rfl, rfl, rfl, by decide +kernel, rfl, by decide +kernel, by decide +kernel⟩
abbrev s_serve_by_turns : Stmt := top 11
theorem sc_serve_by_turns : FnScope ["store", "served", "hand", "n"] ["store"] (defScope s_serve_by_turns) := ⟨rfl, rfl, rfl, by decide +kernel, rfl, by decide +kernel, by decide +kernel⟩
abbrev s__law_next : Stmt := top 13
theorem sc__law_next : FnScope ["deck", "at", "many", "cell", "j", "number"] ["deck"] (defScope s__law_next) := ⟨rfl, rfl, rfl, by decide +kernel, rfl, by decide +kernel, by decide +kernel⟩
abbrev s__law_program : Stmt := top 14
theorem sc__law_program : FnScope ["deck", "tools", "spin", "k", "name", "stores", "most"] ["deck"] (defScope s__law_program) := ⟨rfl, rfl, rfl, by decide +kernel, rfl, by decide +kernel, by decide +kernel⟩
abbrev s__law_deed : Stmt := top 15
theorem sc__law_deed : FnScope ["deck", "program", "words", "word", "some", "name", "n", "one"] ["deck", "program"] (defScope s__law_deed) := ⟨rfl, rfl, rfl, by decide +kernel, rfl, by decide +kernel, by decide +kernel⟩
abbrev s__law_asked : Stmt := top 16
theorem sc__law_asked : FnScope ["goods", "deed", "word", "hand", "name", "n"] ["goods", "deed"] (defScope s__law_asked) := ⟨rfl, rfl, rfl, by decide +kernel, rfl, by decide +kernel, by decide +kernel⟩
abbrev s__law_emptied : Stmt := top 17
theorem sc__law_emptied : FnScope ["some", "one"] ["some"] (defScope s__law_emptied) := ⟨rfl, rfl, rfl, by decide +kernel, rfl, by decide +kernel, by decide +kernel⟩
abbrev s_law : Stmt := top 18
theorem sc_law : FnScope ["script", "deck", "program", "one", "other", "k", "handed", "third", "held", "deed", "told"] ["script"] (defScope s_law) := ⟨rfl, rfl, rfl, by decide +kernel, rfl, by decide +kernel, by decide +kernel⟩
end K23

set_option Elab.async false
set_option linter.all false
set_option maxRecDepth 100000
set_option maxHeartbeats 4000000
namespace K23
open PySem L2
/-! what a tool is: what is free, who has what, who awaits -/
structure TS where
  free : Int
  held : List (Int × Int)
  que : List (Int × Int)
def getI : List (Int × Int) → Int → Int
  | [], _ => 0
  | (k, x) :: r, h => if k = h then x else getI r h
def putI : List (Int × Int) → Int → Int → List (Int × Int)
  | [], h, x => [(h, x)]
  | (k, y) :: r, h, x => if k = h then (k, x) :: r else (k, y) :: putI r h x
def outS (t : TS) (h n : Int) : TS := ⟨t.free - n, putI t.held h (getI t.held h + n), t.que⟩
def hk (held : List (Int × Int)) : List (Key × V) := held.map fun p => (Sum.inl p.1, V.int p.2)
theorem hk_get {h : Int} : ∀ held : List (Int × Int), (valV (hk held) (Sum.inl h)).getD (.int 0) = .int (getI held h)
  | [] => rfl
  | (k, x) :: r => by
    unfold hk getI
    rw [List.map_cons]
    by_cases c : k = h
    · rw [valV_pos (by rw [c]), if_pos c]; rfl
    · rw [valV_neg (fun e => c (Sum.inl.inj e)), if_neg c]
      exact hk_get r
theorem hk_put {h x : Int} : ∀ held : List (Int × Int), (held.map (·.1)).Nodup → putK (hk held) (Sum.inl h) (.int x) = hk (putI held h x)
  | [], _ => rfl
  | (k, y) :: r, nd => by
    rw [List.map_cons, List.nodup_cons] at nd
    have ih := hk_put (h := h) (x := x) r nd.2
    unfold putI
    by_cases c : k = h
    · rw [if_pos c]
      subst c
      unfold putK hk
      rw [if_pos (by rw [List.map_cons, List.any_cons]; simp), List.map_cons, List.map_cons, List.map_cons]
      congr 1
      · simp
      · rw [List.map_map]
        refine List.map_congr_left fun p hp => ?_
        have : p.1 ≠ k := fun e => nd.1 (by rw [← e]; exact List.mem_map_of_mem (f := (·.1)) hp)
        simp [this]
    · rw [if_neg c]
      unfold putK hk at ih ⊢
      rw [List.map_cons, List.any_cons]
      have e0 : decide ((Sum.inl k : Key) = Sum.inl h) = false := decide_eq_false fun e => c (Sum.inl.inj e)
      rw [e0, Bool.false_or]
      by_cases c2 : (List.map (fun p => ((Sum.inl p.1 : Key), V.int p.2)) r).any (fun kv => decide (kv.1 = Sum.inl h)) = true
      · rw [if_pos c2] at ih ⊢
        rw [List.map_cons, ih, List.map_cons]
        congr 1
        simp [c]
      · rw [if_neg c2] at ih ⊢
        rw [List.cons_append, ih, List.map_cons]
theorem putI_keys {h x : Int} : ∀ held : List (Int × Int), (held.map (·.1)).Nodup → ((putI held h x).map (·.1)).Nodup ∧ (∀ k, k ∈ (putI held h x).map (·.1) → k = h ∨ k ∈ held.map (·.1)) ∧ (putI held h x).length ≤ held.length + 1
  | [], _ => ⟨List.nodup_cons.mpr ⟨List.not_mem_nil, .nil⟩, fun k hk => .inl (List.mem_singleton.mp hk), Nat.le_refl _⟩
  | (k, y) :: r, nd => by
    rw [List.map_cons, List.nodup_cons] at nd
    obtain ⟨a, b, c⟩ := putI_keys (h := h) (x := x) r nd.2
    unfold putI
    by_cases e : k = h
    · rw [if_pos e]
      exact ⟨by rw [List.map_cons, List.nodup_cons]; exact nd, fun k' hk' => .inr hk', by simp⟩
    · rw [if_neg e, List.map_cons, List.nodup_cons]
      refine ⟨⟨fun z => (b _ z).elim (fun z => e z) nd.1, a⟩, fun k' hk' => ?_, by simp only [List.length_cons]; omega⟩
      rcases List.mem_cons.mp hk' with rfl | hk'
      · exact .inr List.mem_cons_self
      · exact (b _ hk').imp id fun z => List.mem_cons_of_mem _ z
/-- those that are served -/
def srv : List (Int × Int) → TS → List (Int × Int) × TS
  | [], t => ([], t)
  | (h, n) :: q, t => if n ≤ t.free then ((h, n) :: (srv q (outS ⟨t.free, t.held, q⟩ h n)).1, (srv q (outS ⟨t.free, t.held, q⟩ h n)).2) else ([], t)
theorem srv_cons {h n : Int} {q : List (Int × Int)} {t : TS} (c : n ≤ t.free) : srv ((h, n) :: q) t = ((h, n) :: (srv q (outS ⟨t.free, t.held, q⟩ h n)).1, (srv q (outS ⟨t.free, t.held, q⟩ h n)).2) := by
  show (if n ≤ t.free then _ else _) = _
  rw [if_pos c]
/-! ### how it lies in a heap -/
inductive Prs (H : Hp) : List V → List (Int × Int) → Prop
  | nil : Prs H [] []
  | cons {p : Addr} {h n : Int} {vs : List V} {ps : List (Int × Int)} : H p = some (.tup [.int h, .int n]) → Prs H vs ps → Prs H (.ref p :: vs) ((h, n) :: ps)
theorem Prs.mono {H H' : Hp} (g : ∀ c xs, H c = some (.tup xs) → H' c = some (.tup xs)) : ∀ {vs : List V} {ps : List (Int × Int)}, Prs H vs ps → Prs H' vs ps
  | _, _, .nil => .nil
  | _, _, .cons h r => .cons (g _ _ h) (r.mono g)
theorem Prs.length {H : Hp} : ∀ {vs : List V} {ps : List (Int × Int)}, Prs H vs ps → vs.length = ps.length
  | _, _, .nil => rfl
  | _, _, .cons _ r => by rw [List.length_cons, List.length_cons, r.length]
theorem Prs.snoc {H : Hp} {p : Addr} {h n : Int} (hp : H p = some (.tup [.int h, .int n])) : ∀ {vs : List V} {ps : List (Int × Int)}, Prs H vs ps → Prs H (vs ++ [.ref p]) (ps ++ [(h, n)])
  | _, _, .nil => .cons hp .nil
  | _, _, .cons h r => .cons h (r.snoc hp)
/-- all but the things at a, d, q is kept -/
def Fr3 (a d q : Addr) (H H' : Hp) : Prop := ∀ c u, c ≠ a → c ≠ d → c ≠ q → H c = some u → H' c = some u
/-- the hands that there are -/
def hs : List Int := [1, 2, 3, 4, 5, 6, 7, 8, 9, 10, 11, 100]
def HsOk (t : TS) : Prop := (∀ p ∈ t.held, p.1 ∈ hs) ∧ ∀ p ∈ t.que, p.1 ∈ hs
theorem nd_le : ∀ {l m : List Int}, l.Nodup → (∀ x ∈ l, x ∈ m) → l.length ≤ m.length
  | [], m, _, _ => Nat.zero_le _
  | x :: l, m, nd, h => by
    rw [List.nodup_cons] at nd
    have hx := h x List.mem_cons_self
    have h2 : ∀ y ∈ l, y ∈ m.erase x := fun y hy => (List.mem_erase_of_ne (fun z => nd.1 (by rw [← z]; exact hy))).mpr (h y (List.mem_cons_of_mem _ hy))
    have := nd_le nd.2 h2
    rw [List.length_erase_of_mem hx] at this
    have hp : 0 < m.length := List.length_pos_of_mem hx
    rw [List.length_cons]; omega
theorem held_len {t : TS} (nd : (t.held.map (·.1)).Nodup) (h : HsOk t) : t.held.length ≤ 12 := by
  have := nd_le nd (m := hs) fun x hx => by
    obtain ⟨p, hp, e⟩ := List.mem_map.mp hx
    exact e ▸ h.1 p hp
  rw [List.length_map] at this
  exact this
def TlO (C : Addr) (H : Hp) (a d q : Addr) (t : TS) : Prop := ∃ dx qs, H a = some (.ins C dx [("free", .int t.free), ("held", .ref d), ("queue", .ref q)]) ∧ H d = some (.dK (hk t.held)) ∧ H q = some (.lst qs) ∧ Prs H qs t.que ∧ (t.held.map (·.1)).Nodup ∧ HsOk t ∧ t.que.length ≤ 200
section
variable {P : Program} {w : World} {K : PySem.W.Frag} {mg : Str → Option Value} {base : Heap}
def spToolI (C : Addr) : Sp := fun vs H Q _ => ∃ (a dx : Addr) (n : Int), vs = [.ref a, .int n] ∧ H a = some (.ins C dx []) ∧ ∀ (d q : Addr) (H' : Hp), H d = none → H q = none → (∀ c u, c ≠ a → H c = some u → H' c = some u) → TlO C H' a d q ⟨n, [], []⟩ → Q .non H'
theorem ok_Tool {C : Addr} (D : MakeAt K mg "Tool" C "Tool.__init__" s_Tool___init__ ["self", "count"]) (CL_Tool : Cls K C) (N_Tool_free : NoAttr K C "free") (N_Tool_held : NoAttr K C "held") (N_Tool_queue : NoAttr K C "queue") : OkC P w K mg base 1 "Tool" C ["self", "count"] (spToolI C) := by
  refine D.ok sc_Tool___init__ (fun vs H Q E h => ?_) (fun f cdv A outer s H vs Q E hr h => ?_)
  · obtain ⟨_, _, _, rfl, _⟩ := h; rfl
  obtain ⟨a, dx, n, rfl, ha, q⟩ := h
  refine ⟨_, (pss_cons (ps_fldG CL_Tool N_Tool_free (pv 0) (pv 1))
  (pss_cons (ps_fldG CL_Tool N_Tool_held (pv 0) pe_dnewG)
  (pss_one (ps_fldG CL_Tool N_Tool_queue (pv 0) (pe_lstG pa_nil))))), ?_⟩
  walk_at "rd"
  intro H1 m1 d H2 hd g2 h2
  have a2 := g2 _ _ m1.at_
  walk_at "rd"
  intro H3 m3 q0 H4 hq g4 h4
  have a4 := g4 _ _ m3.at_
  clear a2
  walk_at "rd"
  intro H5 m5
  have nd : d ≠ a := (ne_of_none m1.at_ hd).symm
  have nq : q0 ≠ a := (ne_of_none m3.at_ hq).symm
  have d3 := m3.old h2 nd
  have hd0 : H d = none := by rw [← m1.else_ d nd]; exact hd
  have hq2 : H2 q0 = none := by rw [← m3.else_ q0 nq]; exact hq
  have hq0 : H q0 = none := by rw [← m1.else_ q0 nq]; exact g2.free hq2
  refine q d q0 H5 hd0 hq0 (fun c u nc hc => m5.old (g4 _ _ (m3.old (g2 _ _ (m1.old hc nc)) nc)) nc) ⟨dx, [], m5.at_, m5.old (g4 _ _ d3) nd, m5.old h4 nq, .nil, .nil, ⟨fun p hp => absurd hp List.not_mem_nil, fun p hp => absurd hp List.not_mem_nil⟩, by simp⟩
theorem Fr3.trans {a d q : Addr} {H H' H'' : Hp} (g : Fr3 a d q H H') (g' : Fr3 a d q H' H'') : Fr3 a d q H H'' := fun c u h1 h2 h3 h => g' c u h1 h2 h3 (g c u h1 h2 h3 h)
def spOut (C : Addr) : Sp := fun vs H Q _ => ∃ (a d q : Addr) (t : TS) (h n : Int), vs = [.ref a, .int h, .int n] ∧ TlO C H a d q t ∧ h ∈ hs ∧ ∀ H', Fr3 a d q H H' → TlO C H' a d q (outS t h n) → Q .non H'
theorem ok_out {C : Addr} (D : DefAt K mg "hand_out" s_hand_out ["tool", "hand", "n"]) (CL_Tool : Cls K C) (N_Tool_free : NoAttr K C "free") (N_Tool_held : NoAttr K C "held") : OkD P w K mg base 1 "hand_out" ["tool", "hand", "n"] (spOut C) := by
  refine D.ok sc_hand_out (fun vs H Q E h => ?_) (fun f cdv A outer s H vs Q E hr h => ?_)
  · obtain ⟨_, _, _, _, _, _, rfl, _⟩ := h; rfl
  obtain ⟨a, d, q0, t, h, n, rfl, ⟨dx, qs, k1, k2, k3, k4, k5, k6, k7⟩, kl, q⟩ := h
  have hu := hu_of hr
  have big : 100000 ≤ sizeLine := by unfold sizeLine; decide
  refine ⟨_, (pss_cons (ps_fldG CL_Tool N_Tool_free (pv 0) (pe_op op_sub (pe_fldG CL_Tool N_Tool_free (pv 0)) (pv 2)))
  (pss_one (ps_dputG2 hu (pe_fldG CL_Tool N_Tool_held (pv 0)) (pv 1) (pe_op op_add (pe_dgetDG hu (pe_fldG CL_Tool N_Tool_held (pv 0)) (pv 1) pe_int ⟨rfl, rfl, rfl, rfl⟩) (pv 2))))), ?_⟩
  walk_at "rd"
  intro H1 m1
  have nda : d ≠ a := fun z => by rw [z, k1] at k2; cases k2
  have nqa : q0 ≠ a := fun z => by rw [z, k1] at k3; cases k3
  have nqd : q0 ≠ d := fun z => by rw [z, k2] at k3; cases k3
  have a1 := m1.at_
  have d1 := m1.old k2 nda
  have lh : (hk t.held).length = t.held.length := by unfold hk; rw [List.length_map]
  have l12 := held_len k5 k6
  walk_at "rd"
  refine ⟨⟨_, rfl⟩, _, hk_get _, by omega, fun H2 m2 => ?_⟩
  obtain ⟨p1, p2, p3⟩ := putI_keys (h := h) (x := getI t.held h + n) t.held k5
  have nt : ∀ c xs, H c = some (.tup xs) → H2 c = some (.tup xs) := fun c xs hc => m2.old (m1.old hc (fun z => by rw [z, k1] at hc; cases hc)) (fun z => by rw [z, k2] at hc; cases hc)
  refine q H2 (fun c u n1 n2 _ hc => m2.old (m1.old hc n1) n2) ⟨dx, qs, m2.old a1 (Ne.symm nda), ?_, m2.old (m1.old k3 nqa) nqd, k4.mono nt, p1, ⟨fun p hp => (p2 p.1 (List.mem_map_of_mem (f := (·.1)) hp)).elim (fun z => z ▸ kl) (fun z => by obtain ⟨p', hp', e'⟩ := List.mem_map.mp z; exact e' ▸ k6.1 p' hp'), k6.2⟩, k7⟩
  rw [m2.at_, hk_put _ k5]
  rfl
def spIn (C : Addr) : Sp := fun vs H Q _ => ∃ (a d q : Addr) (t : TS) (h n : Int), vs = [.ref a, .int h, .int n] ∧ TlO C H a d q t ∧ h ∈ hs ∧ ∀ H', Fr3 a d q H H' → TlO C H' a d q (outS t h (-n)) → Q .non H'
theorem ok_in {C : Addr} (D : DefAt K mg "hand_in" s_hand_in ["tool", "hand", "n"]) (G_hand_out : OkD P w K mg base 1 "hand_out" ["tool", "hand", "n"] (spOut C)) : OkD P w K mg base 2 "hand_in" ["tool", "hand", "n"] (spIn C) := by
  refine D.ok sc_hand_in (fun vs H Q E h => ?_) (fun f cdv A outer s H vs Q E hr h => ?_)
  · obtain ⟨_, _, _, _, _, _, rfl, _⟩ := h; rfl
  obtain ⟨a, d, q0, t, h, n, rfl, tl, kl, q⟩ := h
  refine ⟨_, (pss_one (ps_expr (pe_def G_hand_out hr rfl (pa_c (pv 0) (pa_c (pv 1) (pa_c (pe_un un_neg (pv 2)) pa_nil)))))), ?_⟩
  walk_at "rd"
  exact ⟨a, d, q0, t, h, -n, rfl, tl, kl, fun H' f3 tl' => q H' f3 tl'⟩
/-- those that were served, told -/
inductive Svd (w : Str) (H : Hp) : List V → List (Int × Int) → Prop
  | nil : Svd w H [] []
  | cons {p : Addr} {h n : Int} {vs : List V} {ps : List (Int × Int)} : H p = some (.tup [.int h, .str w, .int n]) → Svd w H vs ps → Svd w H (.ref p :: vs) ((h, n) :: ps)
theorem Svd.mono {w : Str} {H H' : Hp} (g : ∀ c xs, H c = some (.tup xs) → H' c = some (.tup xs)) : ∀ {vs : List V} {ps : List (Int × Int)}, Svd w H vs ps → Svd w H' vs ps
  | _, _, .nil => .nil
  | _, _, .cons h r => .cons (g _ _ h) (r.mono g)
theorem Svd.length {w : Str} {H : Hp} : ∀ {vs : List V} {ps : List (Int × Int)}, Svd w H vs ps → vs.length = ps.length
  | _, _, .nil => rfl
  | _, _, .cons _ r => by rw [List.length_cons, List.length_cons, r.length]
theorem Svd.snoc {w : Str} {H : Hp} {p : Addr} {h n : Int} (hp : H p = some (.tup [.int h, .str w, .int n])) : ∀ {vs : List V} {ps : List (Int × Int)}, Svd w H vs ps → Svd w H (vs ++ [.ref p]) (ps ++ [(h, n)])
  | _, _, .nil => .cons hp .nil
  | _, _, .cons h r => .cons h (r.snoc hp)
theorem TlO.ne {C : Addr} {H : Hp} {a d q : Addr} {t : TS} (h : TlO C H a d q t) : ∀ c xs, H c = some (.tup xs) → c ≠ a ∧ c ≠ d ∧ c ≠ q := by
  obtain ⟨dx, qs, k1, k2, k3, _⟩ := h
  intro c xs hc
  refine ⟨fun z => ?_, fun z => ?_, fun z => ?_⟩
  · rw [z, k1] at hc; cases hc
  · rw [z, k2] at hc; cases hc
  · rw [z, k3] at hc; cases hc
theorem TlO.kt {C : Addr} {H H' : Hp} {a d q : Addr} {t : TS} (h : TlO C H a d q t) (f : Fr3 a d q H H') : ∀ c xs, H c = some (.tup xs) → H' c = some (.tup xs) := fun c xs hc => by
  obtain ⟨n1, n2, n3⟩ := h.ne c xs hc
  exact f c _ n1 n2 n3 hc
theorem tru_lst {K : PySem.W.Frag} {H : Hp} {p : Addr} {xs : List V} (h : H p = some (.lst xs)) : TruV K (.ref p) H (!xs.isEmpty) := .inl ⟨_, SqL.of h, rfl⟩
theorem TlO.grow {C : Addr} {H H' : Hp} {a d q : Addr} {t : TS} (h : TlO C H a d q t) (g : ∀ c u, (c = a ∨ c = d ∨ c = q ∨ ∃ xs, u = HO.tup xs) → H c = some u → H' c = some u) : TlO C H' a d q t := by
  obtain ⟨dx, qs, k1, k2, k3, k4, k5⟩ := h
  exact ⟨dx, qs, g _ _ (.inl rfl) k1, g _ _ (.inr (.inl rfl)) k2, g _ _ (.inr (.inr (.inl rfl))) k3, k4.mono fun c xs hc => g _ _ (.inr (.inr (.inr ⟨xs, rfl⟩))) hc, k5⟩
def StI (C a d q r : Addr) (t : TS) (H : Hp) (m : Nat) (σ : St) (H' : Hp) : Prop := ∃ (sv : List V) (dn : List (Int × Int)) (t' : TS) (v2 v3 : Option V), σ = [some (.ref a), some (.ref r), v2, v3] ∧ Fr3 a d q H H' ∧ H' r = some (.lst sv) ∧ Svd "takes" H' sv dn ∧ TlO C H' a d q t' ∧ dn ++ (srv t'.que t').1 = (srv t.que t).1 ∧ (srv t'.que t').2 = (srv t.que t).2 ∧ dn.length + t'.que.length ≤ 200 ∧ m = t'.que.length
def StZ (C a d q r : Addr) (t : TS) (H : Hp) (σ : St) (H' : Hp) : Prop := ∃ (sv : List V) (v2 v3 : Option V), σ = [some (.ref a), some (.ref r), v2, v3] ∧ Fr3 a d q H H' ∧ H' r = some (.lst sv) ∧ Svd "takes" H' sv (srv t.que t).1 ∧ TlO C H' a d q (srv t.que t).2
def spServe (C : Addr) : Sp := fun vs H Q _ => ∃ (a d q : Addr) (t : TS), vs = [.ref a] ∧ TlO C H a d q t ∧
  ∀ (r : Addr) (H' : Hp) (sv : List V), H r = none → Fr3 a d q H H' → H' r = some (.lst sv) → Svd "takes" H' sv (srv t.que t).1 → TlO C H' a d q (srv t.que t).2 → Q (.ref r) H'
theorem ok_serve {C : Addr} (D : DefAt K mg "serve_takers" s_serve_takers ["tool"]) (CL_Tool : Cls K C) (N_Tool_free : NoAttr K C "free") (N_Tool_queue : NoAttr K C "queue") (G_hand_out : OkD P w K mg base 1 "hand_out" ["tool", "hand", "n"] (spOut C)) : OkD P w K mg base 2 "serve_takers" ["tool"] (spServe C) := by
  refine D.ok sc_serve_takers (fun vs H Q E h => ?_) (fun f cdv A outer s H vs Q E hr h => ?_)
  · obtain ⟨_, _, _, _, rfl, _⟩ := h; rfl
  obtain ⟨a, d, q0, t, rfl, tl, q⟩ := h
  have big : 100000 ≤ sizeLine := by unfold sizeLine; decide
  refine ⟨_, (pss_cons (ps_set (i := 1) sc_serve_takers.nd rfl (Or.inl rfl) (pe_lstG pa_nil))
  (pss_cons (ps_up (ps_while PassesOwn.never (PW.pt (pw_and (pt_truth (pe_fldG CL_Tool N_Tool_queue (pv 0)) (fun _ => rfl)) (pw_and1 (pt_cmpR op_le (pe_ix ix_g (pe_ix ix_g (pe_fldG CL_Tool N_Tool_queue (pv 0)) pe_int (fun _ _ => rfl)) pe_int (fun _ _ => rfl)) (pe_fldG CL_Tool N_Tool_free (pv 0)) (nomark _)))))
  (pss_cons (ps_asg (pe_bm PySem.F.plainAttrs_list PySem.F.slot_list_pop PySem.F.type_list_pop mt_popAtG (pe_fldG CL_Tool N_Tool_queue (pv 0)) (pa_c pe_int pa_nil)) (pg_tupG 2 rfl (pgs_cons (pg_name (i := 2) sc_serve_takers.nd rfl (Or.inl rfl)) (pgs_cons (pg_name (i := 3) sc_serve_takers.nd rfl (Or.inl rfl)) pgs_nil))))
  (pss_cons (ps_expr (pe_def G_hand_out hr rfl (pa_c (pv 0) (pa_c (pv 2) (pa_c (pv 3) pa_nil)))))
  (pss_one (ps_expr (pe_appG (pv 1) (pe_tupG (pa_c (pv 2) (pa_c pe_str (pa_c (pv 3) pa_nil)))))))))))
  (pss_one (ps_ret (pv 1))))), ?_⟩
  walk_at "r2"
  intro r H1 hr1 g1 h1
  refine ⟨StZ C a d q0 r t H, ?_, ?_⟩
  · refine ⟨StI C a d q0 r t H, ⟨t.que.length, ?_⟩, ?_⟩
    · unfold StI
      obtain ⟨dx, qs, k1, k2, k3, k4, k5, k6, k7⟩ := tl
      exact ⟨[], [], t, _, _, rfl, fun c u _ _ _ hc => g1 _ _ hc, h1, .nil, ⟨dx, qs, g1 _ _ k1, g1 _ _ k2, g1 _ _ k3, k4.mono fun _ _ hc => g1 _ _ hc, k5, k6, k7⟩, rfl, rfl, by simp only [List.length_nil]; omega, rfl⟩
    · intro m σ H2 z
      unfold StI at z
      obtain ⟨sv, dn, t', v2, v3, rfl, f3, h2, sd, tl', e1, e2, b2, rfl⟩ := z
      obtain ⟨dx, qs, k1, k2, k3, k4, k5, k6, k7⟩ := id tl'
      clear h1
      walk_at "r2"
      have nrq : r ≠ q0 := by
        obtain ⟨_, _, _, _, kq, _⟩ := tl
        exact fun z => by rw [z, kq] at hr1; cases hr1
      have fin : (srv t'.que t') = ([], t') → ∀ v2 v3, StZ C a d q0 r t H [some (.ref a), some (.ref r), v2, v3] H2 := fun e v2 v3 => by
        rw [e] at e1 e2
        unfold StZ
        refine ⟨sv, _, _, rfl, f3, h2, ?_, ?_⟩
        · rw [← e1, List.append_nil]; exact sd
        · rw [← e2]; exact tl'
      refine ⟨!qs.isEmpty, tru_lst k3, ?_⟩
      cases hq : t'.que with
      | nil =>
        rw [hq] at k4
        cases k4
        exact iteF (fin (by rw [hq]; rfl) _ _)
      | cons p0 qu =>
        obtain ⟨h, n⟩ := p0
        rw [hq] at k4
        cases k4 with
        | cons hp0 pr0 =>
        rename_i pa qs'
        refine iteT ?_
        walk_at "r2"
        refine ite2 (fun c => ?_) fun c => ?_
        rotate_left
        · walk_at "r2"
          exact fin (by rw [hq]; unfold srv; rw [if_neg c]) _ _
        rw [← hq]
        refine ⟨fun σ' H' => ∃ m', m' < t'.que.length ∧ StI C a d q0 r t H m' σ' H', fun _ _ z => z, ?_⟩
        walk_at "r2"
        refine ⟨⟨_, SqL.of k3⟩, ?_⟩
        walk_at "r2"
        refine ⟨by omega, _, by have := pr0.length; rw [hq] at k7; simp only [List.length_cons] at k7 ⊢; omega, rfl, fun H3 m3 => ?_⟩
        have npa : pa ≠ q0 := (tl'.ne pa _ hp0).2.2
        have hp3 := m3.old hp0 npa
        obtain ⟨nra, nrd⟩ : r ≠ a ∧ r ≠ d := by
          obtain ⟨_, _, ka, kd, _⟩ := tl
          exact ⟨fun z => (by rw [z, ka] at hr1; cases hr1), fun z => (by rw [z, kd] at hr1; cases hr1)⟩
        have naq : a ≠ q0 := fun z => by rw [z, k3] at k1; cases k1
        have ndq : d ≠ q0 := fun z => by rw [z, k3] at k2; cases k2
        have kt3 : ∀ c xs, H2 c = some (.tup xs) → H3 c = some (.tup xs) := fun c xs hc => m3.old hc (tl'.ne c xs hc).2.2
        have tl3 : TlO C H3 a d q0 ⟨t'.free, t'.held, qu⟩ := ⟨dx, qs', m3.old k1 naq, m3.old k2 ndq, m3.at_, pr0.mono kt3, k5, ⟨k6.1, fun p hp => k6.2 p (by rw [hq]; exact List.mem_cons_of_mem _ hp)⟩, by rw [hq, List.length_cons] at k7; show qu.length ≤ 200; omega⟩
        rw [hq, List.length_cons] at b2
        walk_at "r2"
        refine ⟨a, d, q0, ⟨t'.free, t'.held, qu⟩, h, n, rfl, tl3, k6.2 (h, n) (by rw [hq]; exact List.mem_cons_self), fun H4 f4 tl4 => ?_⟩
        have h4r := f4 r _ nra nrd nrq (m3.old h2 nrq)
        have ls := sd.length
        walk_at "r2"
        intro p5 H5 hp5 g5 h5
        have h5r := g5 _ _ h4r
        walk_at "r2"
        refine ⟨by omega, fun H6 m6 => ⟨qu.length, by first | (rw [hq, List.length_cons]; omega) | omega, ?_⟩⟩
        have kt6 : ∀ c xs, H2 c = some (.tup xs) → H6 c = some (.tup xs) := fun c xs hc => m6.old (g5 _ _ (tl3.kt f4 c xs (kt3 c xs hc))) fun z => by rw [z, h2] at hc; cases hc
        have np5 : p5 ≠ r := (ne_of_none h4r hp5).symm
        obtain ⟨p1, p2, p3⟩ := putI_keys (h := h) (x := getI t'.held h + n) t'.held k5
        unfold StI
        refine ⟨sv ++ [.ref p5], dn ++ [(h, n)], outS ⟨t'.free, t'.held, qu⟩ h n, _, _, rfl, fun c u n1 n2 n3 hc => m6.old (g5 _ _ (f4 c u n1 n2 n3 (m3.old (f3 c u n1 n2 n3 hc) n3))) (ne_of_none hc hr1), m6.at_, (sd.mono kt6).snoc (m6.old h5 np5), tl4.grow fun c u hc e => m6.old (g5 _ _ e) (fun z => ?_), ?_, ?_, ?_, rfl⟩
        · rcases hc with rfl | rfl | rfl | ⟨xs, rfl⟩
          · exact nra z.symm
          · exact nrd z.symm
          · exact nrq z.symm
          · rw [z, h4r] at e; cases e
        · rw [← e1, hq, List.append_assoc]
          congr 1
          rw [srv_cons c]
          rfl
        · rw [← e2, hq, srv_cons c]
          rfl
        · show (dn ++ [(h, n)]).length + qu.length ≤ 200
          rw [List.length_append, List.length_singleton]; omega
  · intro σ H2 z
    unfold StZ at z
    obtain ⟨sv, v2, v3, rfl, f3, h2, sd, tl'⟩ := z
    clear h1
    walk_at "r2"
    try exact q r H2 sv hr1 f3 h2 sd tl'
end
end K23

set_option Elab.async false
set_option linter.all false
set_option maxRecDepth 100000
set_option maxHeartbeats 4000000
namespace K23
open PySem L2
theorem take_snoc {α : Type} {xs : List α} {i : Nat} {x : α} (h : xs[i]? = some x) : xs.take (i + 1) = xs.take i ++ [x] := by
  obtain ⟨h1, h2⟩ := List.getElem?_eq_some_iff.mp h
  rw [← List.take_append_getElem h1, h2]
theorem hk_at {held : List (Int × Int)} {i : Nat} {k : Key} {x : V} (h : (hk held)[i]? = some (k, x)) : ∃ a n, k = Sum.inl a ∧ x = .int n ∧ held[i]? = some (a, n) := by
  unfold hk at h
  rw [List.getElem?_map] at h
  cases e : held[i]? with
  | none => rw [e] at h; cases h
  | some p => rw [e] at h; cases h; exact ⟨p.1, p.2, rfl, rfl, rfl⟩
def Told (H0 H : Hp) (v : V) (t : TS) (hd : List (Int × Int)) : Prop := ∃ (p ph pq : Addr) (hs qs : List V), v = .ref p ∧ H p = some (.tup [.int t.free, .ref ph, .ref pq]) ∧ H ph = some (.lst hs) ∧ Prs H hs hd ∧ H pq = some (.lst qs) ∧ Prs H qs t.que ∧ H0 ph = none ∧ H0 pq = none
def PmO (hd : List (Int × Int)) (t : TS) : Prop := hd.Perm (t.held.filter fun p => decide (0 < p.2)) ∧ hd.Pairwise (fun p r => p.1 < r.1)
theorem Prs.refs {H : Hp} : ∀ {vs : List V} {ps : List (Int × Int)}, Prs H vs ps → ∃ as : List (Addr × List Int), vs = as.map (fun q => V.ref q.1) ∧ as.map (·.2) = ps.map (fun p => [p.1, p.2]) ∧ ∀ q ∈ as, H q.1 = some (.tup (q.2.map V.int))
  | _, _, .nil => ⟨[], rfl, rfl, fun q hq => absurd hq List.not_mem_nil⟩
  | _, _, .cons (p := p) (h := h) (n := n) hp r => by
    obtain ⟨as, e1, e2, f⟩ := r.refs
    refine ⟨(p, [h, n]) :: as, by rw [e1]; rfl, by rw [List.map_cons, e2]; rfl, fun q hq => ?_⟩
    rcases List.mem_cons.mp hq with rfl | hq
    · exact hp
    · exact f q hq
def pr2 (l : List Int) : Int × Int := (l.getD 0 0, l.getD 1 0)
theorem prs_of {H : Hp} : ∀ {as : List (Addr × List Int)}, (∀ q ∈ as, q.2.length = 2 ∧ H q.1 = some (.tup (q.2.map V.int))) → Prs H (as.map fun q => V.ref q.1) (as.map fun q => pr2 q.2)
  | [], _ => .nil
  | (p, l) :: as, h => by
    obtain ⟨e, hp⟩ := h _ List.mem_cons_self
    match l, e with
    | [a, b], _ => exact .cons hp (prs_of fun q hq => h q (List.mem_cons_of_mem _ hq))
theorem lex2 {a b c d : Int} (h : HT.lexLt [a, b] [c, d] = true) (ne : a ≠ c) : a < c := by
  rw [HT.lexLt_cons, if_neg ne] at h
  exact of_decide_eq_true h
section
variable {P : Program} {w : World} {K : PySem.W.Frag} {mg : Str → Option Value} {base : Heap}
def HtP (held : List (Int × Int)) (i : Nat) (ys : List V) (σ1 : St) (H' : Hp) : Prop := Prs H' ys ((held.take i).filter fun p => decide (0 < p.2)) ∧ ∃ v0 v1, σ1 = [v0, v1]
def spTold (C : Addr) : Sp := fun vs H Q _ => ∃ (a d q : Addr) (t : TS), vs = [.ref a] ∧ TlO C H a d q t ∧ ∀ (v : V) (H' : Hp) (hd : List (Int × Int)), Same H H' → Told H H' v t hd → PmO hd t → Q v H'
theorem ok_told {C : Addr} (D : DefAt K mg "told_tool" s_told_tool ["tool"]) (CL_Tool : Cls K C) (N_Tool_free : NoAttr K C "free") (N_Tool_held : NoAttr K C "held") (N_Tool_queue : NoAttr K C "queue") (hsorted : mg "sorted" = none) (hlist : mg "list" = none) : OkD P w K mg base 1 "told_tool" ["tool"] (spTold C) := by
  refine D.ok sc_told_tool (fun vs H Q E h => ?_) (fun f cdv A outer s H vs Q E hr h => ?_)
  · obtain ⟨_, _, _, _, rfl, _⟩ := h; rfl
  obtain ⟨a, d, q0, t, rfl, ⟨dx, qs, k1, k2, k3, k4, k5, k6', k7⟩, q⟩ := h
  have k6 := held_len k5 k6'
  have big : 100000 ≤ sizeLine := by unfold sizeLine; decide
  have lh : (hk t.held).length = t.held.length := by unfold hk; rw [List.length_map]
  refine ⟨_, (pss_one (ps_ret (pe_tupG (pa_c (pe_fldG CL_Tool N_Tool_free (pv 0)) (pa_c (pe_cB (call_sortedO rfl) rfl hsorted (by decide +kernel) (pa_c (pe_unf (pe_compN (comp_scopeN 2 (N := ["hand", "n"]) (cap := []) rfl rfl rfl rfl (by decide +kernel) rfl rfl rfl) rfl (pi_items (pe_fldG CL_Tool N_Tool_held (pv 0))) (fun _ _ _ _ => (pg_tupG 2 rfl (pgs_cons (pg_name (i := 0) (show List.Nodup (α := Str) ["hand", "n"] by decide +kernel) rfl (Or.inl (lookup_relabel_local rfl)) (Or.inr (lookup_relabel_local rfl))) (pgs_cons (pg_name (i := 1) (show List.Nodup (α := Str) ["hand", "n"] by decide +kernel) rfl (Or.inl (lookup_relabel_local rfl)) (Or.inr (lookup_relabel_local rfl))) pgs_nil)))) (fun _ _ _ _ => (pts_one (pt_cmpR op_gt (pv 1) pe_int (nomark _)))) (fun _ _ _ _ => (pe_tupG (pa_c (pv 0) (pa_c (pv 1) pa_nil)))))) pa_nil)) (pa_c (pe_cTy call_listG rfl hlist (by decide +kernel) (pa_c (pe_fldG CL_Tool N_Tool_queue (pv 0)) pa_nil)) pa_nil)))))), ?_⟩
  walk_at "rd"
  refine tcomp_in ?_
  simp only [iItems]
  walk_at "rd"
  intro o nf
  refine compJ_items upd_same (by omega) (fun _ => HtP t.held) (fun D H' _ _ _ => by unfold HtP; exact ⟨.nil, _, _, rfl⟩) ?_ ?_
  · rintro D i k x ys σ1 H1 p H2 hx at1 pv hp g2 h2
    unfold HtP at pv
    obtain ⟨pr, v0, v1, rfl⟩ := pv
    obtain ⟨h, n, rfl, rfl, eh⟩ := hk_at hx
    have h2 : H2 p = some (.tup [.int h, .int n]) := h2
    walk_at "rd"
    refine ite2 (fun c p3 H3 hp3 g3 h3 => at1.put (g2.trans g3) fun H4 mu => ?_) fun c => at1.skip g2 ?_
    · unfold HtP
      refine ⟨?_, _, _, rfl⟩
      rw [take_snoc eh, List.filter_append, List.filter_cons, if_pos (by simpa using c), List.filter_nil]
      have nD : p3 ≠ D := (ne_of_none (g2 _ _ at1.lst) hp3).symm
      exact (pr.mono fun c xs hc => mu.old (g3 _ _ (g2 _ _ hc)) fun z => (by rw [z, at1.lst] at hc; cases hc)).snoc (mu.old h3 nD)
    · unfold HtP
      refine ⟨?_, _, _, rfl⟩
      rw [take_snoc eh, List.filter_append, List.filter_cons, if_neg (by simpa using c), List.filter_nil, List.append_nil]
      exact pr.mono fun c xs hc => g2 _ _ hc
  · rintro D ys σ1 H1 hD g1 hy hle pv
    unfold HtP at pv
    obtain ⟨pr, _⟩ := pv
    rw [List.take_of_length_le (by omega)] at pr
    have nDd : D ≠ d := fun z => by rw [z, upd_same] at hD; cases hD
    have SH : Same H (upd H1 d (.dK (hk t.held))) := fun c u hc => by
      by_cases z : c = d
      · rw [z, upd_same]; rw [z, k2] at hc; exact hc
      · rw [upd_ne z]
        exact g1 _ _ (by rw [upd_ne z]; exact hc)
    have d1 : H1 d = some (.frz o (.dK (hk t.held))) := g1 _ _ upd_same
    have pr1 : Prs (upd H1 d (.dK (hk t.held))) ys (t.held.filter fun p => decide (0 < p.2)) := pr.mono fun c xs hc => by
      rw [upd_ne (fun z => by rw [z, d1] at hc; cases hc)]; exact hc
    have lf := pr.length
    have lf2 := List.length_filter_le (fun p : Int × Int => decide (0 < p.2)) t.held
    have fnd : ((t.held.filter fun p => decide (0 < p.2)).map (·.1)).Nodup := List.Nodup.sublist (List.Sublist.map _ List.filter_sublist) k5
    generalize hF : (t.held.filter fun p => decide (0 < p.2)) = F at pr1 lf lf2 fnd
    obtain ⟨as, e1, e2, f⟩ := pr1.refs
    have la : as.length = F.length := by have := congrArg List.length e2; rw [List.length_map, List.length_map] at this; exact this
    have l2 : ∀ q ∈ as, q.2.length = 2 := fun q hq => by
      obtain ⟨x, _, hx⟩ := List.mem_map.mp (show q.2 ∈ F.map (fun p => [p.1, p.2]) by rw [← e2]; exact List.mem_map_of_mem hq)
      rw [← hx]; rfl
    have e3 : as.map (fun q => pr2 q.2) = F := by
      have := congrArg (List.map pr2) e2
      rw [List.map_map, List.map_map] at this
      rw [show (as.map fun q => pr2 q.2) = as.map (pr2 ∘ fun x => x.2) from rfl, this]
      exact List.map_id' F
    have kn : as.Pairwise (fun q r => (pr2 q.2).1 ≠ (pr2 r.2).1) := by
      rw [← e3, List.map_map] at fnd
      exact List.pairwise_map.mp fnd
    subst e1
    refine ⟨d, nf, o, _, d1, D, rfl, as, by rw [upd_ne nDd]; exact hy, f, 2, by decide, l2, kn.imp fun h z => h (by rw [z]), by unfold SN; omega, fun DS H2 zs hDS g2 h2 pz sz => ?_⟩
    have S2 := SH.trans g2
    have a2 := S2 _ _ k1
    have q2 := S2 _ _ k3
    have zl : ∀ q ∈ zs, q.2.length = 2 ∧ H2 q.1 = some (.tup (q.2.map V.int)) := fun q hq => ⟨l2 q (pz.mem_iff.mp hq), g2 _ _ (f q (pz.mem_iff.mp hq))⟩
    have pz2 := prs_of zl
    have kz : zs.Pairwise (fun q r => (pr2 q.2).1 ≠ (pr2 r.2).1) := (pz.pairwise_iff fun h => h.symm).mpr kn
    have pm : PmO (zs.map fun q => pr2 q.2) t := by
      refine ⟨by rw [hF, ← e3]; exact pz.map _, List.pairwise_map.mpr ?_⟩
      refine List.Pairwise.imp_of_mem (fun {q r} hq hr h => ?_) (sz.and kz)
      obtain ⟨a, b⟩ := q
      obtain ⟨c, e⟩ := r
      have l1 := (zl _ hq).1
      have l2 := (zl _ hr).1
      match b, e, l1, l2, h with
      | [x, y], [z, w], _, _, h => exact lex2 h.1 h.2
    clear k1 k3
    walk_at "rd"
    intro l3 H3 hl3 g3 h3 p4 H4 hp4 g4 h4
    exact q (.ref p4) H4 _ ((S2.trans g3).trans g4) ⟨p4, DS, l3, _, qs, rfl, h4, g4 _ _ (g3 _ _ h2), pz2.mono fun c xs hc => g4 _ _ (g3 _ _ hc), g4 _ _ h3, k4.mono fun c xs hc => g4 _ _ (g3 _ _ (S2 _ _ hc)), SH.free hDS, S2.free hl3⟩ pm
end
end K23

set_option Elab.async false
set_option linter.all false
set_option maxRecDepth 100000
set_option maxHeartbeats 4000000
namespace K23
open PySem L2
/-- a tool and its name, by the places where its parts lie -/
structure Ent where
  name : Str
  a : Addr
  d : Addr
  q : Addr
  c : Int
  t : TS
def kvE (es : List Ent) : List (Key × V) := es.map fun e => (Sum.inr e.name, V.ref e.a)
inductive PrN (H : Hp) : List V → List (Str × Int) → Prop
  | nil : PrN H [] []
  | cons {p : Addr} {s : Str} {n : Int} {vs : List V} {ps : List (Str × Int)} : H p = some (.tup [.str s, .int n]) → PrN H vs ps → PrN H (.ref p :: vs) ((s, n) :: ps)
theorem PrN.get {H : Hp} {vs : List V} {ps : List (Str × Int)} (t : PrN H vs ps) : ∀ {i : Nat} {v : V}, vs[i]? = some v → ∃ p s n, v = .ref p ∧ ps[i]? = some (s, n) ∧ H p = some (.tup [.str s, .int n]) := by
  induction t with
  | nil => intro i v e; simp at e
  | cons hp _ ih =>
    intro i v e
    cases i with
    | zero => simp at e; exact ⟨_, _, _, e.symm, rfl, hp⟩
    | succ i => simpa using ih (i := i) (v := v) (by simpa using e)
theorem PrN.length {H : Hp} : ∀ {vs : List V} {ps : List (Str × Int)}, PrN H vs ps → vs.length = ps.length
  | _, _, .nil => rfl
  | _, _, .cons _ r => by rw [List.length_cons, List.length_cons, r.length]
inductive PrT (C : Addr) (H : Hp) : List V → List Ent → Prop
  | nil : PrT C H [] []
  | cons {p : Addr} {e : Ent} {vs : List V} {es : List Ent} : H p = some (.tup [.str e.name, .ref e.a]) → TlO C H e.a e.d e.q e.t → PrT C H vs es → PrT C H (.ref p :: vs) (e :: es)
theorem TlO.same {C : Addr} {H H' : Hp} {a d q : Addr} {t : TS} (g : Same H H') (h : TlO C H a d q t) : TlO C H' a d q t := h.grow fun c u _ e => g _ _ e
theorem PrT.mono {C : Addr} {H H' : Hp} (g : Same H H') : ∀ {vs : List V} {es : List Ent}, PrT C H vs es → PrT C H' vs es
  | _, _, .nil => .nil
  | _, _, .cons h t r => .cons (g _ _ h) (t.same g) (r.mono g)
theorem PrT.snoc {C : Addr} {H : Hp} {p : Addr} {e : Ent} (hp : H p = some (.tup [.str e.name, .ref e.a])) (ht : TlO C H e.a e.d e.q e.t) : ∀ {vs : List V} {es : List Ent}, PrT C H vs es → PrT C H (vs ++ [.ref p]) (es ++ [e])
  | _, _, .nil => .cons hp ht .nil
  | _, _, .cons h t r => .cons h t (r.snoc hp ht)
theorem PrT.prk {C : Addr} {H : Hp} : ∀ {vs : List V} {es : List Ent}, PrT C H vs es → PrK H vs (kvE es)
  | _, _, .nil => .nil
  | _, _, .cons h _ r => .cons h r.prk
theorem PrT.at {C : Addr} {H : Hp} {vs : List V} {es : List Ent} (t : PrT C H vs es) : ∀ e ∈ es, TlO C H e.a e.d e.q e.t := by
  induction t with
  | nil => exact fun e h => absurd h List.not_mem_nil
  | cons _ t _ ih =>
    intro e h
    rcases List.mem_cons.mp h with rfl | h
    · exact t
    · exact ih e h
theorem putAll_nd : ∀ (ps : List (Key × V)) (c : List (Key × V)), ((c ++ ps).map (·.1)).Nodup → ps.foldl (fun c p => putK c p.1 p.2) c = c ++ ps
  | [], c, _ => (List.append_nil c).symm
  | p :: ps, c, nd => by
    have no : ¬ (c.any fun kv => decide (kv.1 = p.1)) = true := fun z => by
      obtain ⟨x, hx, e⟩ := List.any_eq_true.mp z
      rw [List.map_append, List.nodup_append] at nd
      exact nd.2.2 x.1 (List.mem_map_of_mem hx) p.1 (by simp) (of_decide_eq_true e)
    have e : putK c p.1 p.2 = c ++ [p] := by unfold putK; rw [if_neg no]
    rw [List.foldl_cons, e, putAll_nd ps (c ++ [p]) (by rw [List.append_assoc]; exact nd), List.append_assoc]; rfl
theorem nd_map {xs : List Str} (h : xs.Nodup) : (xs.map (Sum.inr : Str → Key)).Nodup := by
  induction xs with
  | nil => exact .nil
  | cons x r ih =>
    rw [List.nodup_cons] at h
    rw [List.map_cons, List.nodup_cons]
    refine ⟨fun z => ?_, ih h.2⟩
    obtain ⟨y, hy, e⟩ := List.mem_map.mp z
    cases e
    exact h.1 hy
def adE (es : List Ent) : List Addr := es.flatMap fun e => [e.a, e.d, e.q]
theorem adE_mem {c : Addr} {es : List Ent} (h : c ∈ adE es) : ∃ e ∈ es, c = e.a ∨ c = e.d ∨ c = e.q := by
  obtain ⟨e, he, hc⟩ := List.mem_flatMap.mp h
  simp at hc
  exact ⟨e, he, hc⟩
theorem TlO.has {C : Addr} {H : Hp} {a d q : Addr} {t : TS} (h : TlO C H a d q t) : (∃ u, H a = some u) ∧ (∃ u, H d = some u) ∧ ∃ u, H q = some u := by
  obtain ⟨_, _, k1, k2, k3, _⟩ := h
  exact ⟨⟨_, k1⟩, ⟨_, k2⟩, ⟨_, k3⟩⟩
theorem TlO.nd {C : Addr} {H : Hp} {a d q : Addr} {t : TS} (h : TlO C H a d q t) : [a, d, q].Nodup := by
  obtain ⟨_, _, k1, k2, k3, _⟩ := h
  have n1 : a ≠ d := fun z => by rw [z, k2] at k1; cases k1
  have n2 : a ≠ q := fun z => by rw [z, k3] at k1; cases k1
  have n3 : d ≠ q := fun z => by rw [z, k3] at k2; cases k2
  simp [n1, n2, n3]
theorem adE_has {C : Addr} {H : Hp} {es : List Ent} (h : ∀ e ∈ es, TlO C H e.a e.d e.q e.t) : ∀ c ∈ adE es, ∃ u, H c = some u := fun c hc => by
  obtain ⟨e, he, z⟩ := adE_mem hc
  obtain ⟨h1, h2, h3⟩ := (h e he).has
  rcases z with rfl | rfl | rfl
  · exact h1
  · exact h2
  · exact h3
section
variable {P : Program} {w : World} {K : PySem.W.Frag} {mg : Str → Option Value} {base : Heap}
def ToP (C : Addr) (H : Hp) (pr : List (Str × Int)) (D : Addr) (i : Nat) (ys : List V) (σ1 : St) (H' : Hp) : Prop := ∃ (es : List Ent) (v0 v1 : Option V), σ1 = [v0, v1] ∧ PrT C (hide D H') ys es ∧ es.map (fun e => (e.name, e.c, e.t)) = (pr.take i).map (fun p => (p.1, p.2, ⟨p.2, [], []⟩)) ∧ (adE es).Nodup ∧ ∀ c ∈ adE es, H c = none
def spToolsOf (C : Addr) : Sp := fun vs H Q _ => ∃ (pp p0 : Addr) (x1 x2 x3 : V) (ys : List V) (pr : List (Str × Int)), vs = [.ref pp] ∧ H pp = some (.tup [.ref p0, x1, x2, x3]) ∧ H p0 = some (.lst ys) ∧ PrN H ys pr ∧ pr.length ≤ 10 ∧ (pr.map (·.1)).Nodup ∧
  ∀ (d : Addr) (H' : Hp) (es : List Ent), H d = none → Same H H' → H' d = some (.dK (kvE es)) → (∀ e ∈ es, TlO C H' e.a e.d e.q e.t) → es.map (fun e => (e.name, e.c, e.t)) = pr.map (fun p => (p.1, p.2, ⟨p.2, [], []⟩)) → (d :: adE es).Nodup → (∀ c ∈ adE es, H c = none) → Q (.ref d) H'
theorem ok_toolsOf {C : Addr} (D : DefAt K mg "tools_of" s_tools_of ["program"]) (G_Tool : OkC P w K mg base 1 "Tool" C ["self", "count"] (spToolI C)) (hdict : mg "dict" = none) : OkD P w K mg base 3 "tools_of" ["program"] (spToolsOf C) := by
  refine D.ok sc_tools_of (fun vs H Q E h => ?_) (fun f cdv A outer s H vs Q E hr h => ?_)
  · obtain ⟨_, _, _, _, _, _, _, rfl, _⟩ := h; rfl
  obtain ⟨pp, p0, x1, x2, x3, ys, pr, rfl, h1, h2, h3, h4, hnd, q⟩ := h
  have big : 100000 ≤ sizeLine := by unfold sizeLine; decide
  have ly := h3.length
  refine ⟨_, (pss_one (ps_ret (pe_cTy call_dictP rfl hdict (by decide +kernel) (pa_c (pe_compN (comp_scopeN 2 (N := ["name", "count"]) (cap := []) rfl rfl rfl rfl (by decide +kernel) rfl rfl rfl) rfl (pi_list (pe_ix ix_g (pv 0) pe_int (fun _ _ => rfl))) (fun _ _ _ _ => (pg_tupG 2 rfl (pgs_cons (pg_name (i := 0) (show List.Nodup (α := Str) ["name", "count"] by decide +kernel) rfl (Or.inl (lookup_relabel_local rfl)) (Or.inr (lookup_relabel_local rfl))) (pgs_cons (pg_name (i := 1) (show List.Nodup (α := Str) ["name", "count"] by decide +kernel) rfl (Or.inl (lookup_relabel_local rfl)) (Or.inr (lookup_relabel_local rfl))) pgs_nil)))) (fun _ _ _ _ => pts_nil) (fun _ _ _ _ => (pe_tupG (pa_c (pv 0) (pa_c (pe_makeG G_Tool hr rfl (pa_c (pv 1) pa_nil)) pa_nil))))) pa_nil)))), ?_⟩
  walk_at "rd"
  refine tcomp_in ?_
  simp only [iList]
  walk_at "rd"
  refine ⟨⟨_, SqL.of h2⟩, compJD_list h2 (by omega) (ToP C H pr) (fun D H' _ _ _ => by unfold ToP; exact ⟨[], _, _, rfl, .nil, rfl, .nil, fun e he => absurd he List.not_mem_nil⟩) ?_ ?_⟩
  · rintro D i x zs σ1 H1 hx at1 pv
    unfold ToP at pv
    obtain ⟨es, v0, v1, rfl, pt, em, na, fr⟩ := pv
    obtain ⟨p, nm, n, rfl, en, hp⟩ := h3.get hx
    have hp1 := at1.same _ _ hp
    walk_at "rd"
    intro x dx H2 hx0 hdx g2 hx2 hdx2
    refine ⟨x, dx, n, rfl, hx2, fun d0 q0 H3 hd0 hq0 k3 tl3 => ⟨rfl, fun p4 H4 hp4 g4 h4 => ?_⟩⟩
    have nxD : ∀ {c u}, H1 c = some u → c ≠ x := fun hc => ne_of_none hc hx0
    have S13 : Same H1 H3 := fun c u hc => k3 c u (nxD hc) (g2 _ _ hc)
    have hD1 := at1.lst
    refine at1.put (S13.trans g4) fun H5 mu => ?_
    unfold ToP
    have SD : Same (hide D H1) (hide D H5) := (hide_same (S13.trans g4)).trans (hide_mu mu)
    have nD : ∀ {c}, H1 c = none → c ≠ D := fun hc => (ne_of_none hD1 hc).symm
    have hd1 : H1 d0 = none := g2.free hd0
    have hq1 : H1 q0 = none := g2.free hq0
    have hp1' : H1 p4 = none := S13.free hp4
    refine ⟨es ++ [⟨nm, x, d0, q0, n, ⟨n, [], []⟩⟩], _, _, rfl, (pt.mono SD).snoc (hide_of (nD hp1') (mu.old h4 (nD hp1'))) (tl3.grow fun c u hc e => ?_), by rw [List.map_append, em, take_snoc en, List.map_append]; rfl, ?_, fun c hc => ?_⟩
    · have nc : c ≠ D := by
        rcases hc with rfl | rfl | rfl | ⟨xs, rfl⟩
        · exact nD hx0
        · exact nD hd1
        · exact nD hq1
        · exact fun z => by rw [z, S13 _ _ hD1] at e; cases e
      exact hide_of nc (mu.old (g4 _ _ e) nc)
    · have ea : adE (es ++ [⟨nm, x, d0, q0, n, ⟨n, [], []⟩⟩]) = adE es ++ [x, d0, q0] := by unfold adE; rw [List.flatMap_append]; rfl
      rw [ea, List.nodup_append]
      refine ⟨na, tl3.nd, fun c hc y hy z => ?_⟩
      obtain ⟨u, hu⟩ := adE_has (pt.mono hide_le).at c hc
      rw [z] at hu
      simp at hy
      rcases hy with rfl | rfl | rfl
      · rw [hx0] at hu; cases hu
      · rw [hd1] at hu; cases hu
      · rw [hq1] at hu; cases hu
    · have ea : adE (es ++ [⟨nm, x, d0, q0, n, ⟨n, [], []⟩⟩]) = adE es ++ [x, d0, q0] := by unfold adE; rw [List.flatMap_append]; rfl
      rw [ea] at hc
      rcases List.mem_append.mp hc with hc | hc
      · exact fr c hc
      · simp at hc
        rcases hc with rfl | rfl | rfl
        · exact at1.same.free hx0
        · exact at1.same.free hd1
        · exact at1.same.free hq1
  · rintro D zs σ1 H1 hD g1 hy hle pv
    unfold ToP at pv
    obtain ⟨es, v0, v1, rfl, pt, em, na, fr⟩ := pv
    rw [List.take_of_length_le (by omega)] at em
    have le : es.length = pr.length := by have := congrArg List.length em; rw [List.length_map, List.length_map] at this; exact this
    walk_at "rd"
    refine ⟨kvE es, (pt.mono hide_le).prk, by unfold kvE; rw [List.length_map]; omega, fun l H2 hl g2 h2' => ?_⟩
    have nn : ((kvE es).map (·.1)).Nodup := by
      have e1 : (kvE es).map (·.1) = (pr.map (·.1)).map Sum.inr := by
        have := congrArg (List.map (fun x : Str × Int × TS => (Sum.inr x.1 : Key))) em
        rw [List.map_map, List.map_map] at this
        unfold kvE
        rw [List.map_map, List.map_map]
        exact this
      rw [e1]
      exact nd_map hnd
    have ep : putAll (kvE es) = kvE es := putAll_nd _ [] nn
    rw [ep] at h2'
    have nl : l ∉ adE es := fun z => by
      obtain ⟨u, hu⟩ := adE_has (pt.mono hide_le).at l z
      rw [hl] at hu; cases hu
    exact q l H2 es (g1.free hl) (g1.trans g2) h2' (fun e he => ((pt.mono hide_le).mono g2).at e he) em (List.nodup_cons.mpr ⟨nl, na⟩) fr
end
end K23

set_option Elab.async false
set_option linter.all false
set_option maxRecDepth 100000
set_option maxHeartbeats 4000000
namespace K23
open PySem L2
/-! ### a store -/
structure SS where
  level : Int
  most : Int
  gets : List (Int × Int)
  puts : List (Int × Int)
def stpP (s : SS) : Option ((Int × Bool × Int) × SS) := match s.puts with
  | [] => none
  | (h, n) :: p => if s.level + n ≤ s.most then some ((h, false, n), ⟨s.level + n, s.most, s.gets, p⟩) else none
def stp (s : SS) : Option ((Int × Bool × Int) × SS) := match s.gets with
  | [] => stpP s
  | (h, n) :: g => if n ≤ s.level then some ((h, true, n), ⟨s.level - n, s.most, g, s.puts⟩) else stpP s
inductive Sbt : SS → List (Int × Bool × Int) → SS → Prop
  | done {s : SS} : stp s = none → Sbt s [] s
  | step {s s1 s' : SS} {it : Int × Bool × Int} {its : List (Int × Bool × Int)} : stp s = some (it, s1) → Sbt s1 its s' → Sbt s (it :: its) s'
def wordOf (b : Bool) : Str := if b = true then "gets" else "puts"
inductive Sv3 (H : Hp) : List V → List (Int × Bool × Int) → Prop
  | nil : Sv3 H [] []
  | cons {p : Addr} {h n : Int} {b : Bool} {vs : List V} {ps : List (Int × Bool × Int)} : H p = some (.tup [.int h, .str (wordOf b), .int n]) → Sv3 H vs ps → Sv3 H (.ref p :: vs) ((h, b, n) :: ps)
theorem Sv3.mono {H H' : Hp} (g : ∀ c xs, H c = some (.tup xs) → H' c = some (.tup xs)) : ∀ {vs : List V} {ps : List (Int × Bool × Int)}, Sv3 H vs ps → Sv3 H' vs ps
  | _, _, .nil => .nil
  | _, _, .cons h r => .cons (g _ _ h) (r.mono g)
theorem Sv3.length {H : Hp} : ∀ {vs : List V} {ps : List (Int × Bool × Int)}, Sv3 H vs ps → vs.length = ps.length
  | _, _, .nil => rfl
  | _, _, .cons _ r => by rw [List.length_cons, List.length_cons, r.length]
theorem Sv3.snoc {H : Hp} {p : Addr} {h n : Int} {b : Bool} (hp : H p = some (.tup [.int h, .str (wordOf b), .int n])) : ∀ {vs : List V} {ps : List (Int × Bool × Int)}, Sv3 H vs ps → Sv3 H (vs ++ [.ref p]) (ps ++ [(h, b, n)])
  | _, _, .nil => .cons hp .nil
  | _, _, .cons h r => .cons h (r.snoc hp)
def StO (C : Addr) (H : Hp) (a g p : Addr) (s : SS) : Prop := ∃ dx gs ps, H a = some (.ins C dx [("level", .int s.level), ("most", .int s.most), ("getters", .ref g), ("putters", .ref p)]) ∧ H g = some (.lst gs) ∧ Prs H gs s.gets ∧ H p = some (.lst ps) ∧ Prs H ps s.puts ∧ g ≠ p ∧ s.gets.length ≤ 200 ∧ s.puts.length ≤ 200
theorem StO.grow {C : Addr} {H H' : Hp} {a g p : Addr} {s : SS} (h : StO C H a g p s) (k : ∀ c u, (c = a ∨ c = g ∨ c = p ∨ ∃ xs, u = HO.tup xs) → H c = some u → H' c = some u) : StO C H' a g p s := by
  obtain ⟨dx, gs, ps, k1, k2, k3, k4, k5, k6⟩ := h
  exact ⟨dx, gs, ps, k _ _ (.inl rfl) k1, k _ _ (.inr (.inl rfl)) k2, k3.mono fun c xs hc => k _ _ (.inr (.inr (.inr ⟨xs, rfl⟩))) hc, k _ _ (.inr (.inr (.inl rfl))) k4, k5.mono fun c xs hc => k _ _ (.inr (.inr (.inr ⟨xs, rfl⟩))) hc, k6⟩
theorem StO.same {C : Addr} {H H' : Hp} {a g p : Addr} {s : SS} (k : Same H H') (h : StO C H a g p s) : StO C H' a g p s := h.grow fun _ _ _ e => k _ _ e
theorem StO.ne {C : Addr} {H : Hp} {a g p : Addr} {s : SS} (h : StO C H a g p s) : ∀ c xs, H c = some (.tup xs) → c ≠ a ∧ c ≠ g ∧ c ≠ p := by
  obtain ⟨dx, gs, ps, k1, k2, k3, k4, _⟩ := h
  intro c xs hc
  refine ⟨fun z => ?_, fun z => ?_, fun z => ?_⟩
  · rw [z, k1] at hc; cases hc
  · rw [z, k2] at hc; cases hc
  · rw [z, k4] at hc; cases hc
section
variable {P : Program} {w : World} {K : PySem.W.Frag} {mg : Str → Option Value} {base : Heap}
def spStoreI (C : Addr) : Sp := fun vs H Q _ => ∃ (a dx : Addr) (l m : Int), vs = [.ref a, .int l, .int m] ∧ H a = some (.ins C dx []) ∧ ∀ (g p : Addr) (H' : Hp), H g = none → H p = none → (∀ c u, c ≠ a → H c = some u → H' c = some u) → StO C H' a g p ⟨l, m, [], []⟩ → Q .non H'
theorem ok_Store {C : Addr} (D : MakeAt K mg "Store" C "Store.__init__" s_Store___init__ ["self", "level", "most"]) (CL_Store : Cls K C) (N_Store_level : NoAttr K C "level") (N_Store_most : NoAttr K C "most") (N_Store_getters : NoAttr K C "getters") (N_Store_putters : NoAttr K C "putters") : OkC P w K mg base 1 "Store" C ["self", "level", "most"] (spStoreI C) := by
  refine D.ok sc_Store___init__ (fun vs H Q E h => ?_) (fun f cdv A outer s H vs Q E hr h => ?_)
  · obtain ⟨_, _, _, _, rfl, _⟩ := h; rfl
  obtain ⟨a, dx, l, m, rfl, ha, q⟩ := h
  refine ⟨_, (pss_cons (ps_fldG CL_Store N_Store_level (pv 0) (pv 1))
  (pss_cons (ps_fldG CL_Store N_Store_most (pv 0) (pv 2))
  (pss_cons (ps_fldG CL_Store N_Store_getters (pv 0) (pe_lstG pa_nil))
  (pss_one (ps_fldG CL_Store N_Store_putters (pv 0) (pe_lstG pa_nil)))))), ?_⟩
  walk_at "rd"
  intro H1 m1
  have a1 := m1.at_
  walk_at "rd"
  intro H2 m2 g0 H3 hg g3 h3
  have a3 := g3 _ _ m2.at_
  clear a1
  walk_at "rd"
  intro H4 m4 p0 H5 hp g5 h5
  have a5 := g5 _ _ m4.at_
  clear a3
  walk_at "rd"
  intro H6 m6
  have ng : g0 ≠ a := (ne_of_none m2.at_ hg).symm
  have np : p0 ≠ a := (ne_of_none m4.at_ hp).symm
  have hg4 := m4.old h3 ng
  have hg0 : H g0 = none := by rw [← m1.else_ g0 ng, ← m2.else_ g0 ng]; exact hg
  have hp3 : H3 p0 = none := by rw [← m4.else_ p0 np]; exact hp
  have hp0 : H p0 = none := by rw [← m1.else_ p0 np, ← m2.else_ p0 np]; exact g3.free hp3
  refine q g0 p0 H6 hg0 hp0 (fun c u nc hc => m6.old (g5 _ _ (m4.old (g3 _ _ (m2.old (m1.old hc nc) nc)) nc)) nc) ⟨dx, [], [], m6.at_, m6.old (g5 _ _ hg4) ng, .nil, m6.old h5 np, .nil, ne_of_none hg4 hp, by simp, by simp⟩
/-- a store told: its level, and who awaits -/
def ToldS (H0 H : Hp) (v : V) (s : SS) : Prop := ∃ (r pg pp : Addr) (gs ps : List V), v = .ref r ∧ H r = some (.tup [.int s.level, .ref pg, .ref pp]) ∧ H pg = some (.lst gs) ∧ Prs H gs s.gets ∧ H pp = some (.lst ps) ∧ Prs H ps s.puts ∧ H0 pg = none ∧ H0 pp = none
def spToldS (C : Addr) : Sp := fun vs H Q _ => ∃ (a g p : Addr) (s : SS), vs = [.ref a] ∧ StO C H a g p s ∧ ∀ (v : V) (H' : Hp), Same H H' → ToldS H H' v s → Q v H'
theorem ok_toldS {C : Addr} (D : DefAt K mg "told_store" s_told_store ["store"]) (CL_Store : Cls K C) (N_Store_level : NoAttr K C "level") (N_Store_getters : NoAttr K C "getters") (N_Store_putters : NoAttr K C "putters") (hlist : mg "list" = none) : OkD P w K mg base 1 "told_store" ["store"] (spToldS C) := by
  refine D.ok sc_told_store (fun vs H Q E h => ?_) (fun f cdv A outer s H vs Q E hr h => ?_)
  · obtain ⟨_, _, _, _, rfl, _⟩ := h; rfl
  obtain ⟨a, g, p, ss, rfl, ⟨dx, gs, ps, k1, k2, k3, k4, k5, k6, k7, k8⟩, q⟩ := h
  refine ⟨_, (pss_one (ps_ret (pe_tupG (pa_c (pe_fldG CL_Store N_Store_level (pv 0)) (pa_c (pe_cTy call_listG rfl hlist (by decide +kernel) (pa_c (pe_fldG CL_Store N_Store_getters (pv 0)) pa_nil)) (pa_c (pe_cTy call_listG rfl hlist (by decide +kernel) (pa_c (pe_fldG CL_Store N_Store_putters (pv 0)) pa_nil)) pa_nil)))))), ?_⟩
  walk_at "rd"
  intro l1 H1 hl1 g1 h1
  have a1 := g1 _ _ k1
  have p1 := g1 _ _ k4
  clear k1 k4
  walk_at "rd"
  intro l2 H2 hl2 g2 h2 r3 H3 hr3 g3 h3
  exact q (.ref r3) H3 ((g1.trans g2).trans g3) ⟨r3, l1, l2, gs, ps, rfl, h3, g3 _ _ (g2 _ _ h1), k3.mono fun c xs hc => g3 _ _ (g2 _ _ (g1 _ _ hc)), g3 _ _ h2, k5.mono fun c xs hc => g3 _ _ (g2 _ _ (g1 _ _ hc)), hl1, g1.free hl2⟩
end
end K23

set_option Elab.async false
set_option linter.all false
set_option maxRecDepth 100000
set_option maxHeartbeats 4000000
namespace K23
open PySem L2
structure EntS where
  name : Str
  a : Addr
  g : Addr
  p : Addr
  s : SS
def kvS (es : List EntS) : List (Key × V) := es.map fun e => (Sum.inr e.name, V.ref e.a)
inductive PrM (H : Hp) : List V → List (Str × Int × Int) → Prop
  | nil : PrM H [] []
  | cons {p : Addr} {s : Str} {n m : Int} {vs : List V} {ps : List (Str × Int × Int)} : H p = some (.tup [.str s, .int n, .int m]) → PrM H vs ps → PrM H (.ref p :: vs) ((s, n, m) :: ps)
theorem PrM.get {H : Hp} {vs : List V} {ps : List (Str × Int × Int)} (t : PrM H vs ps) : ∀ {i : Nat} {v : V}, vs[i]? = some v → ∃ p s n m, v = .ref p ∧ ps[i]? = some (s, n, m) ∧ H p = some (.tup [.str s, .int n, .int m]) := by
  induction t with
  | nil => intro i v e; simp at e
  | cons hp _ ih =>
    intro i v e
    cases i with
    | zero => simp at e; exact ⟨_, _, _, _, e.symm, rfl, hp⟩
    | succ i => simpa using ih (i := i) (v := v) (by simpa using e)
theorem PrM.length {H : Hp} : ∀ {vs : List V} {ps : List (Str × Int × Int)}, PrM H vs ps → vs.length = ps.length
  | _, _, .nil => rfl
  | _, _, .cons _ r => by rw [List.length_cons, List.length_cons, r.length]
inductive PrS (C : Addr) (H : Hp) : List V → List EntS → Prop
  | nil : PrS C H [] []
  | cons {p : Addr} {e : EntS} {vs : List V} {es : List EntS} : H p = some (.tup [.str e.name, .ref e.a]) → StO C H e.a e.g e.p e.s → PrS C H vs es → PrS C H (.ref p :: vs) (e :: es)
theorem PrS.mono {C : Addr} {H H' : Hp} (g : Same H H') : ∀ {vs : List V} {es : List EntS}, PrS C H vs es → PrS C H' vs es
  | _, _, .nil => .nil
  | _, _, .cons h t r => .cons (g _ _ h) (t.same g) (r.mono g)
theorem PrS.snoc {C : Addr} {H : Hp} {p : Addr} {e : EntS} (hp : H p = some (.tup [.str e.name, .ref e.a])) (ht : StO C H e.a e.g e.p e.s) : ∀ {vs : List V} {es : List EntS}, PrS C H vs es → PrS C H (vs ++ [.ref p]) (es ++ [e])
  | _, _, .nil => .cons hp ht .nil
  | _, _, .cons h t r => .cons h t (r.snoc hp ht)
theorem PrS.prk {C : Addr} {H : Hp} : ∀ {vs : List V} {es : List EntS}, PrS C H vs es → PrK H vs (kvS es)
  | _, _, .nil => .nil
  | _, _, .cons h _ r => .cons h r.prk
theorem PrS.at {C : Addr} {H : Hp} {vs : List V} {es : List EntS} (t : PrS C H vs es) : ∀ e ∈ es, StO C H e.a e.g e.p e.s := by
  induction t with
  | nil => exact fun e h => absurd h List.not_mem_nil
  | cons _ t _ ih =>
    intro e h
    rcases List.mem_cons.mp h with rfl | h
    · exact t
    · exact ih e h
def adS (es : List EntS) : List Addr := es.flatMap fun e => [e.a, e.g, e.p]
theorem adS_mem {c : Addr} {es : List EntS} (h : c ∈ adS es) : ∃ e ∈ es, c = e.a ∨ c = e.g ∨ c = e.p := by
  obtain ⟨e, he, hc⟩ := List.mem_flatMap.mp h
  simp at hc
  exact ⟨e, he, hc⟩
theorem StO.has {C : Addr} {H : Hp} {a d q : Addr} {t : SS} (h : StO C H a d q t) : (∃ u, H a = some u) ∧ (∃ u, H d = some u) ∧ ∃ u, H q = some u := by
  obtain ⟨_, _, _, k1, k2, _, k3, _⟩ := h
  exact ⟨⟨_, k1⟩, ⟨_, k2⟩, ⟨_, k3⟩⟩
theorem StO.nd {C : Addr} {H : Hp} {a d q : Addr} {t : SS} (h : StO C H a d q t) : [a, d, q].Nodup := by
  obtain ⟨_, _, _, k1, k2, _, k3, _, n3, _⟩ := h
  have n1 : a ≠ d := fun z => by rw [z, k2] at k1; cases k1
  have n2 : a ≠ q := fun z => by rw [z, k3] at k1; cases k1
  simp [n1, n2, n3]
theorem adS_has {C : Addr} {H : Hp} {es : List EntS} (h : ∀ e ∈ es, StO C H e.a e.g e.p e.s) : ∀ c ∈ adS es, ∃ u, H c = some u := fun c hc => by
  obtain ⟨e, he, z⟩ := adS_mem hc
  obtain ⟨h1, h2, h3⟩ := (h e he).has
  rcases z with rfl | rfl | rfl
  · exact h1
  · exact h2
  · exact h3
section
variable {P : Program} {w : World} {K : PySem.W.Frag} {mg : Str → Option Value} {base : Heap}
def SoP (C : Addr) (H : Hp) (pr : List (Str × Int × Int)) (D : Addr) (i : Nat) (ys : List V) (σ1 : St) (H' : Hp) : Prop := ∃ (es : List EntS) (v0 v1 v2 : Option V), σ1 = [v0, v1, v2] ∧ PrS C (hide D H') ys es ∧ es.map (fun e => (e.name, e.s)) = (pr.take i).map (fun p => (p.1, ⟨p.2.1, p.2.2, [], []⟩)) ∧ (adS es).Nodup ∧ ∀ c ∈ adS es, H c = none
def spStoresOf (C : Addr) : Sp := fun vs H Q _ => ∃ (pp p1 : Addr) (x0 x2 x3 : V) (ys : List V) (pr : List (Str × Int × Int)), vs = [.ref pp] ∧ H pp = some (.tup [x0, .ref p1, x2, x3]) ∧ H p1 = some (.lst ys) ∧ PrM H ys pr ∧ pr.length ≤ 10 ∧ (pr.map (·.1)).Nodup ∧
  ∀ (d : Addr) (H' : Hp) (es : List EntS), H d = none → Same H H' → H' d = some (.dK (kvS es)) → (∀ e ∈ es, StO C H' e.a e.g e.p e.s) → es.map (fun e => (e.name, e.s)) = pr.map (fun p => (p.1, ⟨p.2.1, p.2.2, [], []⟩)) → (d :: adS es).Nodup → (∀ c ∈ adS es, H c = none) → Q (.ref d) H'
theorem ok_storesOf {C : Addr} (D : DefAt K mg "stores_of" s_stores_of ["program"]) (G_Store : OkC P w K mg base 1 "Store" C ["self", "level", "most"] (spStoreI C)) (hdict : mg "dict" = none) : OkD P w K mg base 3 "stores_of" ["program"] (spStoresOf C) := by
  refine D.ok sc_stores_of (fun vs H Q E h => ?_) (fun f cdv A outer s H vs Q E hr h => ?_)
  · obtain ⟨_, _, _, _, _, _, _, rfl, _⟩ := h; rfl
  obtain ⟨pp, p1, x0, x2, x3, ys, pr, rfl, h1, h2, h3, h4, hnd, q⟩ := h
  have big : 100000 ≤ sizeLine := by unfold sizeLine; decide
  have ly := h3.length
  refine ⟨_, (pss_one (ps_ret (pe_cTy call_dictP rfl hdict (by decide +kernel) (pa_c (pe_compN (comp_scopeN 3 (N := ["name", "level", "most"]) (cap := []) rfl rfl rfl rfl (by decide +kernel) rfl rfl rfl) rfl (pi_list (pe_ix ix_g (pv 0) pe_int (fun _ _ => rfl))) (fun _ _ _ _ => (pg_tupG 3 rfl (pgs_cons (pg_name (i := 0) (show List.Nodup (α := Str) ["name", "level", "most"] by decide +kernel) rfl (Or.inl (lookup_relabel_local rfl)) (Or.inr (lookup_relabel_local rfl))) (pgs_cons (pg_name (i := 1) (show List.Nodup (α := Str) ["name", "level", "most"] by decide +kernel) rfl (Or.inl (lookup_relabel_local rfl)) (Or.inr (lookup_relabel_local rfl))) (pgs_cons (pg_name (i := 2) (show List.Nodup (α := Str) ["name", "level", "most"] by decide +kernel) rfl (Or.inl (lookup_relabel_local rfl)) (Or.inr (lookup_relabel_local rfl))) pgs_nil))))) (fun _ _ _ _ => pts_nil) (fun _ _ _ _ => (pe_tupG (pa_c (pv 0) (pa_c (pe_makeG G_Store hr rfl (pa_c (pv 1) (pa_c (pv 2) pa_nil))) pa_nil))))) pa_nil)))), ?_⟩
  walk_at "r2"
  refine tcomp_in ?_
  simp only [iList]
  walk_at "r2"
  refine ⟨⟨_, SqL.of h2⟩, compJD_list h2 (by omega) (SoP C H pr) (fun D H' _ _ _ => by unfold SoP; exact ⟨[], _, _, _, rfl, .nil, rfl, .nil, fun e he => absurd he List.not_mem_nil⟩) ?_ ?_⟩
  · rintro D i x zs σ1 H1 hx at1 pv
    unfold SoP at pv
    obtain ⟨es, v0, v1, v2, rfl, pt, em, na, fr⟩ := pv
    obtain ⟨p, nm, n, m, rfl, en, hp⟩ := h3.get hx
    have hp1 := at1.same _ _ hp
    walk_at "r2"
    intro x dx H2 hx0 hdx g2 hx2 hdx2
    refine ⟨x, dx, n, m, rfl, hx2, fun d0 q0 H3 hd0 hq0 k3 tl3 => ?_⟩
    walk_at "r2"
    intro p4 H4 hp4 g4 h4
    have nxD : ∀ {c u}, H1 c = some u → c ≠ x := fun hc => ne_of_none hc hx0
    have S13 : Same H1 H3 := fun c u hc => k3 c u (nxD hc) (g2 _ _ hc)
    have hD1 := at1.lst
    refine at1.put (S13.trans g4) fun H5 mu => ?_
    unfold SoP
    have SD : Same (hide D H1) (hide D H5) := (hide_same (S13.trans g4)).trans (hide_mu mu)
    have nD : ∀ {c}, H1 c = none → c ≠ D := fun hc => (ne_of_none hD1 hc).symm
    have hd1 : H1 d0 = none := g2.free hd0
    have hq1 : H1 q0 = none := g2.free hq0
    have hp1' : H1 p4 = none := S13.free hp4
    refine ⟨es ++ [⟨nm, x, d0, q0, ⟨n, m, [], []⟩⟩], _, _, _, rfl, (pt.mono SD).snoc (hide_of (nD hp1') (mu.old h4 (nD hp1'))) (tl3.grow fun c u hc e => ?_), by rw [List.map_append, em, take_snoc en, List.map_append]; rfl, ?_, fun c hc => ?_⟩
    · have nc : c ≠ D := by
        rcases hc with rfl | rfl | rfl | ⟨xs, rfl⟩
        · exact nD hx0
        · exact nD hd1
        · exact nD hq1
        · exact fun z => by rw [z, S13 _ _ hD1] at e; cases e
      exact hide_of nc (mu.old (g4 _ _ e) nc)
    · have ea : adS (es ++ [⟨nm, x, d0, q0, ⟨n, m, [], []⟩⟩]) = adS es ++ [x, d0, q0] := by unfold adS; rw [List.flatMap_append]; rfl
      rw [ea, List.nodup_append]
      refine ⟨na, tl3.nd, fun c hc y hy z => ?_⟩
      obtain ⟨u, hu⟩ := adS_has (pt.mono hide_le).at c hc
      rw [z] at hu
      simp at hy
      rcases hy with rfl | rfl | rfl
      · rw [hx0] at hu; cases hu
      · rw [hd1] at hu; cases hu
      · rw [hq1] at hu; cases hu
    · have ea : adS (es ++ [⟨nm, x, d0, q0, ⟨n, m, [], []⟩⟩]) = adS es ++ [x, d0, q0] := by unfold adS; rw [List.flatMap_append]; rfl
      rw [ea] at hc
      rcases List.mem_append.mp hc with hc | hc
      · exact fr c hc
      · simp at hc
        rcases hc with rfl | rfl | rfl
        · exact at1.same.free hx0
        · exact at1.same.free hd1
        · exact at1.same.free hq1
  · rintro D zs σ1 H1 hD g1 hy hle pv
    unfold SoP at pv
    obtain ⟨es, v0, v1, v2, rfl, pt, em, na, fr⟩ := pv
    rw [List.take_of_length_le (by omega)] at em
    have le : es.length = pr.length := by have := congrArg List.length em; rw [List.length_map, List.length_map] at this; exact this
    walk_at "r2"
    refine ⟨kvS es, (pt.mono hide_le).prk, by unfold kvS; rw [List.length_map]; omega, fun l H2 hl g2 h2' => ?_⟩
    have nn : ((kvS es).map (·.1)).Nodup := by
      have e1 : (kvS es).map (·.1) = (pr.map (·.1)).map Sum.inr := by
        have := congrArg (List.map (fun x : Str × SS => (Sum.inr x.1 : Key))) em
        rw [List.map_map, List.map_map] at this
        unfold kvS
        rw [List.map_map, List.map_map]
        exact this
      rw [e1]
      exact nd_map hnd
    have ep : putAll (kvS es) = kvS es := putAll_nd _ [] nn
    rw [ep] at h2'
    have nl : l ∉ adS es := fun z => by
      obtain ⟨u, hu⟩ := adS_has (pt.mono hide_le).at l z
      rw [hl] at hu; cases hu
    exact q l H2 es (g1.free hl) (g1.trans g2) h2' (fun e he => ((pt.mono hide_le).mono g2).at e he) em (List.nodup_cons.mpr ⟨nl, na⟩) fr
def TbI (C a g p r : Addr) (s : SS) (H : Hp) (m : Nat) (σ : St) (H' : Hp) : Prop := ∃ (sv : List V) (dn : List (Int × Bool × Int)) (s' : SS) (v2 v3 : Option V), σ = [some (.ref a), some (.ref r), v2, v3] ∧ Fr3 a g p H H' ∧ H' r = some (.lst sv) ∧ Sv3 H' sv dn ∧ StO C H' a g p s' ∧ (∀ its z, Sbt s' its z → Sbt s (dn ++ its) z) ∧ dn.length + s'.gets.length + s'.puts.length ≤ 400 ∧ m = s'.gets.length + s'.puts.length
def spTurns (C : Addr) : Sp := fun vs H Q _ => ∃ (a g p : Addr) (s : SS), vs = [.ref a] ∧ StO C H a g p s ∧
  ∀ (r : Addr) (H' : Hp) (sv : List V) (its : List (Int × Bool × Int)) (s' : SS), H r = none → Fr3 a g p H H' → H' r = some (.lst sv) → Sv3 H' sv its → StO C H' a g p s' → Sbt s its s' → Q (.ref r) H'
theorem ok_turns {C : Addr} (D : DefAt K mg "serve_by_turns" s_serve_by_turns ["store"]) (CL_Store : Cls K C) (N_Store_level : NoAttr K C "level") (N_Store_most : NoAttr K C "most") (N_Store_getters : NoAttr K C "getters") (N_Store_putters : NoAttr K C "putters") : OkD P w K mg base 1 "serve_by_turns" ["store"] (spTurns C) := by
  refine D.ok sc_serve_by_turns (fun vs H Q E h => ?_) (fun f cdv A outer s H vs Q E hr h => ?_)
  · obtain ⟨_, _, _, _, rfl, _⟩ := h; rfl
  obtain ⟨a, g, p, ss, rfl, tl, q⟩ := h
  have big : 100000 ≤ sizeLine := by unfold sizeLine; decide
  refine ⟨_, (pss_cons (ps_set (i := 1) sc_serve_by_turns.nd rfl (Or.inl rfl) (pe_lstG pa_nil))
  (pss_one (ps_while PassesOwn.never (pt_val pe_bl)
  (pss_one (ps_if (PW.pt (pw_and (pt_truth (pe_fldG CL_Store N_Store_getters (pv 0)) (fun _ => rfl)) (pw_and1 (pt_cmpR op_le (pe_ix ix_g (pe_ix ix_g (pe_fldG CL_Store N_Store_getters (pv 0)) pe_int (fun _ _ => rfl)) pe_int (fun _ _ => rfl)) (pe_fldG CL_Store N_Store_level (pv 0)) (nomark _)))))
  (pss_cons (ps_asg (pe_bm PySem.F.plainAttrs_list PySem.F.slot_list_pop PySem.F.type_list_pop mt_popAtG (pe_fldG CL_Store N_Store_getters (pv 0)) (pa_c pe_int pa_nil)) (pg_tupG 2 rfl (pgs_cons (pg_name (i := 2) sc_serve_by_turns.nd rfl (Or.inl rfl)) (pgs_cons (pg_name (i := 3) sc_serve_by_turns.nd rfl (Or.inl rfl)) pgs_nil))))
  (pss_cons (ps_fldG CL_Store N_Store_level (pv 0) (pe_op op_sub (pe_fldG CL_Store N_Store_level (pv 0)) (pv 3)))
  (pss_one (ps_expr (pe_appG (pv 1) (pe_tupG (pa_c (pv 2) (pa_c pe_str (pa_c (pv 3) pa_nil)))))))))
  (pss_one (ps_if (PW.pt (pw_and (pt_truth (pe_fldG CL_Store N_Store_putters (pv 0)) (fun _ => rfl)) (pw_and1 (pt_cmpR op_le (pe_op op_add (pe_fldG CL_Store N_Store_level (pv 0)) (pe_ix ix_g (pe_ix ix_g (pe_fldG CL_Store N_Store_putters (pv 0)) pe_int (fun _ _ => rfl)) pe_int (fun _ _ => rfl))) (pe_fldG CL_Store N_Store_most (pv 0)) (nomark _)))))
  (pss_cons (ps_asg (pe_bm PySem.F.plainAttrs_list PySem.F.slot_list_pop PySem.F.type_list_pop mt_popAtG (pe_fldG CL_Store N_Store_putters (pv 0)) (pa_c pe_int pa_nil)) (pg_tupG 2 rfl (pgs_cons (pg_name (i := 2) sc_serve_by_turns.nd rfl (Or.inl rfl)) (pgs_cons (pg_name (i := 3) sc_serve_by_turns.nd rfl (Or.inl rfl)) pgs_nil))))
  (pss_cons (ps_fldG CL_Store N_Store_level (pv 0) (pe_op op_add (pe_fldG CL_Store N_Store_level (pv 0)) (pv 3)))
  (pss_one (ps_expr (pe_appG (pv 1) (pe_tupG (pa_c (pv 2) (pa_c pe_str (pa_c (pv 3) pa_nil)))))))))
  (pss_one (ps_ret (pv 1)))))))))), ?_⟩
  walk_at "r2"
  intro r H1 hr1 g1 h1
  refine ⟨TbI C a g p r ss H, ⟨ss.gets.length + ss.puts.length, ?_⟩, ?_⟩
  · unfold TbI
    have b := tl
    obtain ⟨_, _, _, _, _, _, _, _, _, b1, b2⟩ := b
    exact ⟨[], [], ss, _, _, rfl, fun c u _ _ _ hc => g1 _ _ hc, h1, .nil, tl.same g1, fun its z h => h, by simp only [List.length_nil]; omega, rfl⟩
  · intro m σ H2 z
    unfold TbI at z
    obtain ⟨sv, dn, s', v2, v3, rfl, f3, h2, sd, tl', rel, bd, rfl⟩ := z
    obtain ⟨dx, gs, ps, k1, k2, k3, k4, k5, k6, k7, k8⟩ := id tl'
    clear h1
    walk_at "r2"
    have no : stp s' = none → Q (.ref r) H2 := fun e => q r H2 sv dn s' hr1 f3 h2 sd tl' (by have := rel [] s' (.done e); rw [List.append_nil] at this; exact this)
    refine ⟨fun σ' H' => ∃ m', m' < s'.gets.length + s'.puts.length ∧ TbI C a g p r ss H m' σ' H', fun _ _ z => z, ?_⟩
    walk_at "r2"
    refine ⟨!gs.isEmpty, tru_lst k2, ?_⟩
    have nra : r ≠ a ∧ r ≠ g ∧ r ≠ p := by
      obtain ⟨_, _, _, ka, kg, _, kp, _⟩ := tl
      exact ⟨fun z => (by rw [z, ka] at hr1; cases hr1), fun z => (by rw [z, kg] at hr1; cases hr1), fun z => (by rw [z, kp] at hr1; cases hr1)⟩
    have nag : a ≠ g := fun z => by rw [z, k2] at k1; cases k1
    have nap : a ≠ p := fun z => by rw [z, k4] at k1; cases k1
    have ls := sd.length
    have k3s := k3
    have k7s := k7
    cases hg : s'.gets with
    | nil =>
      have eg := congrArg List.length hg
      rw [List.length_nil] at eg
      rw [hg] at k3
      cases k3
      have eP : stp s' = stpP s' := by unfold stp; rw [hg]
      refine iteF ?_
      walk_at "r2"
      try walk_at "r2"
      refine ⟨!ps.isEmpty, tru_lst k4, ?_⟩
      cases hpu : s'.puts with
      | nil =>
        rw [hpu] at k5
        cases k5
        refine iteF ?_
        walk_at "r2"
        exact no (by rw [eP]; unfold stpP; rw [hpu])
      | cons p1 pu =>
        obtain ⟨h', n'⟩ := p1
        rw [hpu] at k5
        cases k5 with
        | cons hq0 qr0 =>
        rename_i pb ps'
        refine iteT ?_
        walk_at "r2"
        refine ite2 (fun c2 => ?_) fun c2 => by walk_at "r2"; exact no (by rw [eP]; unfold stpP; rw [hpu]; show (if s'.level + n' ≤ s'.most then _ else _) = _; rw [if_neg c2])
        have lp := qr0.length
        have ep := congrArg List.length hpu
        rw [List.length_cons] at ep
        walk_at "r2"
        refine ⟨⟨_, SqL.of k4⟩, ?_⟩
        walk_at "r2"
        refine ⟨by omega, _, by simp only [List.length_cons]; omega, rfl, fun H3 m3 => ?_⟩
        have npb : pb ≠ p := (tl'.ne pb _ hq0).2.2
        have hq3 := m3.old hq0 npb
        have a3 := m3.old k1 nap
        walk_at "r2"
        intro H4 m4
        have h4r := m4.old (m3.old h2 nra.2.2) nra.1
        walk_at "r2"
        intro p5 H5 hp5 g5 h5
        have h5r := g5 _ _ h4r
        walk_at "r2"
        refine ⟨by omega, fun H6 m6 => ?_⟩
        walk_at "r2"
        refine ⟨s'.gets.length + pu.length, by omega, ?_⟩
        have kt6 : ∀ c xs, H2 c = some (.tup xs) → H6 c = some (.tup xs) := fun c xs hc => m6.old (g5 _ _ (m4.old (m3.old hc (tl'.ne c xs hc).2.2) (tl'.ne c xs hc).1)) (fun z => by rw [z, h2] at hc; cases hc)
        have np5 : p5 ≠ r := (ne_of_none h4r hp5).symm
        unfold TbI
        refine ⟨sv ++ [.ref p5], dn ++ [(h', false, n')], ⟨s'.level + n', s'.most, s'.gets, pu⟩, _, _, rfl, fun c u n1 n2 n3 hc => m6.old (g5 _ _ (m4.old (m3.old (f3 c u n1 n2 n3 hc) n3) n1)) (ne_of_none hc hr1), m6.at_, (sd.mono kt6).snoc (b := false) (m6.old h5 np5), ⟨dx, _, ps', m6.old (g5 _ _ m4.at_) (Ne.symm nra.1), m6.old (g5 _ _ (m4.old (m3.old k2 k6) (Ne.symm nag))) (Ne.symm nra.2.1), k3s.mono kt6, m6.old (g5 _ _ (m4.old m3.at_ (Ne.symm nap))) (Ne.symm nra.2.2), qr0.mono kt6, k6, k7s, by show pu.length ≤ 200; omega⟩, fun its z hz => ?_, ?_, rfl⟩
        · rw [List.append_assoc]
          exact rel _ _ (.step (by rw [eP]; unfold stpP; rw [hpu]; show (if s'.level + n' ≤ s'.most then _ else _) = _; rw [if_pos c2]) hz)
        · show (dn ++ [(h', false, n')]).length + s'.gets.length + pu.length ≤ 400
          rw [List.length_append, List.length_singleton]
          omega
    | cons p0 gu =>
      obtain ⟨h, n⟩ := p0
      have eg := congrArg List.length hg
      rw [List.length_cons] at eg
      rw [hg] at k3
      cases k3 with
      | cons hp0 pr0 =>
      rename_i pa gs'
      refine iteT ?_
      walk_at "r2"
      refine ite2 (fun c => ?_) fun c => ?_
      · have lg := pr0.length
        rw [hg, List.length_cons] at k7
        walk_at "r2"
        refine ⟨⟨_, SqL.of k2⟩, ?_⟩
        walk_at "r2"
        refine ⟨by omega, _, by simp only [List.length_cons]; omega, rfl, fun H3 m3 => ?_⟩
        have npa : pa ≠ g := (tl'.ne pa _ hp0).2.1
        have hp3 := m3.old hp0 npa
        have a3 := m3.old k1 nag
        walk_at "r2"
        intro H4 m4
        have h4r := m4.old (m3.old h2 nra.2.1) nra.1
        walk_at "r2"
        intro p5 H5 hp5 g5 h5
        have h5r := g5 _ _ h4r
        walk_at "r2"
        refine ⟨by omega, fun H6 m6 => ?_⟩
        walk_at "r2"
        refine ⟨gu.length + s'.puts.length, by omega, ?_⟩
        have kt6 : ∀ c xs, H2 c = some (.tup xs) → H6 c = some (.tup xs) := fun c xs hc => m6.old (g5 _ _ (m4.old (m3.old hc (tl'.ne c xs hc).2.1) (tl'.ne c xs hc).1)) (fun z => by rw [z, h2] at hc; cases hc)
        have np5 : p5 ≠ r := (ne_of_none h4r hp5).symm
        unfold TbI
        refine ⟨sv ++ [.ref p5], dn ++ [(h, true, n)], ⟨s'.level - n, s'.most, gu, s'.puts⟩, _, _, rfl, fun c u n1 n2 n3 hc => m6.old (g5 _ _ (m4.old (m3.old (f3 c u n1 n2 n3 hc) n2) n1)) (ne_of_none hc hr1), m6.at_, (sd.mono kt6).snoc (b := true) (m6.old h5 np5), ⟨dx, gs', ps, m6.old (g5 _ _ m4.at_) (Ne.symm nra.1), m6.old (g5 _ _ (m4.old m3.at_ (Ne.symm nag))) (Ne.symm nra.2.1), pr0.mono kt6, m6.old (g5 _ _ (m4.old (m3.old k4 (Ne.symm k6)) (Ne.symm nap))) (Ne.symm nra.2.2), k5.mono kt6, k6, by show gu.length ≤ 200; omega, k8⟩, fun its z hz => ?_, ?_, rfl⟩
        · rw [List.append_assoc]
          exact rel _ _ (.step (by unfold stp; rw [hg]; show (if n ≤ s'.level then _ else _) = _; rw [if_pos c]) hz)
        · show (dn ++ [(h, true, n)]).length + gu.length + s'.puts.length ≤ 400
          rw [List.length_append, List.length_singleton]
          omega
      · have eP : stp s' = stpP s' := by unfold stp; rw [hg]; show (if n ≤ s'.level then _ else _) = _; rw [if_neg c]
        try walk_at "r2"
        refine ⟨!ps.isEmpty, tru_lst k4, ?_⟩
        cases hpu : s'.puts with
        | nil =>
          rw [hpu] at k5
          cases k5
          refine iteF ?_
          walk_at "r2"
          exact no (by rw [eP]; unfold stpP; rw [hpu])
        | cons p1 pu =>
          obtain ⟨h', n'⟩ := p1
          rw [hpu] at k5
          cases k5 with
          | cons hq0 qr0 =>
          rename_i pb ps'
          refine iteT ?_
          walk_at "r2"
          refine ite2 (fun c2 => ?_) fun c2 => by walk_at "r2"; exact no (by rw [eP]; unfold stpP; rw [hpu]; show (if s'.level + n' ≤ s'.most then _ else _) = _; rw [if_neg c2])
          have lp := qr0.length
          have ep := congrArg List.length hpu
          rw [List.length_cons] at ep
          walk_at "r2"
          refine ⟨⟨_, SqL.of k4⟩, ?_⟩
          walk_at "r2"
          refine ⟨by omega, _, by simp only [List.length_cons]; omega, rfl, fun H3 m3 => ?_⟩
          have npb : pb ≠ p := (tl'.ne pb _ hq0).2.2
          have hq3 := m3.old hq0 npb
          have a3 := m3.old k1 nap
          walk_at "r2"
          intro H4 m4
          have h4r := m4.old (m3.old h2 nra.2.2) nra.1
          walk_at "r2"
          intro p5 H5 hp5 g5 h5
          have h5r := g5 _ _ h4r
          walk_at "r2"
          refine ⟨by omega, fun H6 m6 => ?_⟩
          walk_at "r2"
          refine ⟨s'.gets.length + pu.length, by omega, ?_⟩
          have kt6 : ∀ c xs, H2 c = some (.tup xs) → H6 c = some (.tup xs) := fun c xs hc => m6.old (g5 _ _ (m4.old (m3.old hc (tl'.ne c xs hc).2.2) (tl'.ne c xs hc).1)) (fun z => by rw [z, h2] at hc; cases hc)
          have np5 : p5 ≠ r := (ne_of_none h4r hp5).symm
          unfold TbI
          refine ⟨sv ++ [.ref p5], dn ++ [(h', false, n')], ⟨s'.level + n', s'.most, s'.gets, pu⟩, _, _, rfl, fun c u n1 n2 n3 hc => m6.old (g5 _ _ (m4.old (m3.old (f3 c u n1 n2 n3 hc) n3) n1)) (ne_of_none hc hr1), m6.at_, (sd.mono kt6).snoc (b := false) (m6.old h5 np5), ⟨dx, _, ps', m6.old (g5 _ _ m4.at_) (Ne.symm nra.1), m6.old (g5 _ _ (m4.old (m3.old k2 k6) (Ne.symm nag))) (Ne.symm nra.2.1), k3s.mono kt6, m6.old (g5 _ _ (m4.old m3.at_ (Ne.symm nap))) (Ne.symm nra.2.2), qr0.mono kt6, k6, k7s, by show pu.length ≤ 200; omega⟩, fun its z hz => ?_, ?_, rfl⟩
          · rw [List.append_assoc]
            exact rel _ _ (.step (by rw [eP]; unfold stpP; rw [hpu]; show (if s'.level + n' ≤ s'.most then _ else _) = _; rw [if_pos c2]) hz)
          · show (dn ++ [(h', false, n')]).length + s'.gets.length + pu.length ≤ 400
            rw [List.length_append, List.length_singleton]
            omega
end
end K23

set_option Elab.async false
set_option linter.all false
set_option maxRecDepth 100000
set_option maxHeartbeats 4000000
namespace K23
open PySem L2
def takeS (t : TS) (h n : Int) : Bool × TS := if t.que ≠ [] ∨ t.free < n then (false, ⟨t.free, t.held, t.que ++ [(h, n)]⟩) else (true, outS t h n)
def giv (t : TS) (h n : Int) : Int := if getI t.held h < n then getI t.held h else n
def giveS (t : TS) (h n : Int) : List (Int × Int) × TS := srv t.que (outS t h (-(giv t h n)))
def PutR (s : SS) (h n : Int) (b : Bool) (its : List (Int × Bool × Int)) (s' : SS) : Prop := if s.puts ≠ [] ∨ s.most < s.level + n then b = false ∧ its = [] ∧ s' = ⟨s.level, s.most, s.gets, s.puts ++ [(h, n)]⟩ else b = true ∧ Sbt ⟨s.level + n, s.most, s.gets, s.puts⟩ its s'
def GetR (s : SS) (h n : Int) (b : Bool) (its : List (Int × Bool × Int)) (s' : SS) : Prop := if s.gets ≠ [] ∨ s.level < n then b = false ∧ its = [] ∧ s' = ⟨s.level, s.most, s.gets ++ [(h, n)], s.puts⟩ else b = true ∧ Sbt ⟨s.level - n, s.most, s.gets, s.puts⟩ its s'
section
variable {P : Program} {w : World} {K : PySem.W.Frag} {mg : Str → Option Value} {base : Heap}
def spTake (CG CT : Addr) : Sp := fun vs H Q _ => ∃ (g dx dt a d q : Addr) (x : V) (kv : List (Key × V)) (nm : Str) (h n : Int) (t : TS), vs = [.ref g, .int h, .str nm, .int n] ∧ H g = some (.ins CG dx [("by_tool", .ref dt), ("by_store", x)]) ∧ H dt = some (.dK kv) ∧ valV kv (Sum.inr nm) = some (.ref a) ∧ TlO CT H a d q t ∧ h ∈ hs ∧ t.que.length < 200 ∧
  ∀ (H' : Hp), Fr3 a d q H H' → TlO CT H' a d q (takeS t h n).2 → Q (.bl (takeS t h n).1) H'
theorem ok_take {CG CT : Addr} (D : MethAt K CG "take" "Goods.take" s_Goods_take ["self", "hand", "name", "n"]) (CL_Goods : Cls K CG) (N_Goods_by_tool : NoAttr K CG "by_tool") (CL_Tool : Cls K CT) (N_Tool_free : NoAttr K CT "free") (N_Tool_queue : NoAttr K CT "queue") (G_hand_out : OkD P w K mg base 1 "hand_out" ["tool", "hand", "n"] (spOut CT)) : OkM P w K mg base 2 CG "take" ["self", "hand", "name", "n"] (spTake CG CT) := by
  refine D.ok CL_Goods sc_Goods_take (fun vs H Q E h => ?_) (fun f cdv A outer s H vs Q E hr h => ?_)
  · obtain ⟨_, _, _, _, _, _, _, _, _, _, _, _, rfl, _⟩ := h; rfl
  obtain ⟨g, dx, dt, a, d, q0, x, kv, nm, h, n, t, rfl, e1, e2, e3, tl, b1, b2, q⟩ := h
  have hu := hu_of hr
  have big : 100000 ≤ sizeLine := by unfold sizeLine; decide
  obtain ⟨dx', qs, k1, k2, k3, k4, k5, k6, k7⟩ := id tl
  have lq := k4.length
  refine ⟨_, (pss_cons (ps_set (i := 4) sc_Goods_take.nd rfl (Or.inl rfl) (pe_dgetG hu (pe_fldG CL_Goods N_Goods_by_tool (pv 0)) (pv 2) (fun _ _ => rfl)))
  (pss_cons (ps_if (PW.pt (pw_or (pt_truth (pe_fldG CL_Tool N_Tool_queue (pv 4)) (fun _ => rfl)) (pw_or1 (pt_cmpR op_lt (pe_fldG CL_Tool N_Tool_free (pv 4)) (pv 3) (nomark _)))))
  (pss_cons (ps_expr (pe_appG (pe_fldG CL_Tool N_Tool_queue (pv 4)) (pe_tupG (pa_c (pv 1) (pa_c (pv 3) pa_nil)))))
  (pss_one (ps_ret pe_bl)))
  pss_nil)
  (pss_cons (ps_expr (pe_def G_hand_out hr rfl (pa_c (pv 4) (pa_c (pv 1) (pa_c (pv 3) pa_nil)))))
  (pss_one (ps_ret pe_bl))))), ?_⟩
  walk_at "rd"
  have wait : (t.que ≠ [] ∨ t.free < n) → ∀ (p : Addr) (H1 : Hp), H p = none → Same H H1 → H1 p = some (.tup [.int h, .int n]) → ∃ ys, H1 q0 = some (.lst ys) ∧ ys.length < sizeLine ∧ ∀ H3, Mu H1 q0 (.lst (ys ++ [.ref p])) H3 → Q (.bl false) H3 := fun c p H1 hp g1 h1 => by
    refine ⟨qs, g1 _ _ k3, by omega, fun H3 m3 => ?_⟩
    have et : takeS t h n = (false, ⟨t.free, t.held, t.que ++ [(h, n)]⟩) := by unfold takeS; rw [if_pos c]
    rw [et] at q
    have nq : ∀ c u, c ≠ q0 → H c = some u → H3 c = some u := fun c u nc hc => m3.old (g1 _ _ hc) nc
    have naq : a ≠ q0 := fun z => by rw [z, k3] at k1; cases k1
    have ndq : d ≠ q0 := fun z => by rw [z, k3] at k2; cases k2
    have npq : p ≠ q0 := (ne_of_none k3 hp).symm
    refine q H3 (fun c u _ _ n3 hc => nq c u n3 hc) ⟨dx', qs ++ [.ref p], nq _ _ naq k1, nq _ _ ndq k2, m3.at_, (k4.mono fun c xs hc => nq c _ (tl.ne c xs hc).2.2 hc).snoc (m3.old h1 npq), k5, ⟨k6.1, fun p hp => (List.mem_append.mp hp).elim (k6.2 p) (fun z => by rw [List.mem_singleton.mp z]; exact b1)⟩, ?_⟩
    show (t.que ++ [(h, n)]).length ≤ 200
    rw [List.length_append, List.length_singleton]; omega
  refine ⟨!qs.isEmpty, tru_lst k3, ?_⟩
  cases hq : qs with
  | cons v0 qs' =>
    have nq : t.que ≠ [] := fun z => by rw [z] at lq; rw [hq] at lq; cases lq
    exact iteT (wait (.inl nq))
  | nil =>
    have nq : t.que = [] := by
      rw [hq] at lq
      exact List.eq_nil_of_length_eq_zero lq.symm
    refine iteF (ite2 (fun c => ?_) fun c => ?_)
    · exact wait (.inr c)
    · have et : takeS t h n = (true, outS t h n) := by unfold takeS; rw [if_neg (fun z => z.elim (fun z => z nq) c)]
      rw [et] at q
      exact ⟨a, d, q0, t, h, n, rfl, tl, b1, fun H1 f1 t1 => q H1 f1 t1⟩
def spGive (CG CT : Addr) : Sp := fun vs H Q _ => ∃ (g dx dt a d q : Addr) (x : V) (kv : List (Key × V)) (nm : Str) (h n : Int) (t : TS), vs = [.ref g, .int h, .str nm, .int n] ∧ H g = some (.ins CG dx [("by_tool", .ref dt), ("by_store", x)]) ∧ H dt = some (.dK kv) ∧ valV kv (Sum.inr nm) = some (.ref a) ∧ TlO CT H a d q t ∧ h ∈ hs ∧
  ∀ (H' : Hp) (p r : Addr) (sv : List V), Fr3 a d q H H' → H r = none → H' p = some (.tup [.int (giv t h n), .ref r]) → H' r = some (.lst sv) → Svd "takes" H' sv (giveS t h n).1 → TlO CT H' a d q (giveS t h n).2 → Q (.ref p) H'
theorem ok_give {CG CT : Addr} (D : MethAt K CG "give" "Goods.give" s_Goods_give ["self", "hand", "name", "n"]) (CL_Goods : Cls K CG) (N_Goods_by_tool : NoAttr K CG "by_tool") (CL_Tool : Cls K CT) (N_Tool_held : NoAttr K CT "held") (G_hand_in : OkD P w K mg base 2 "hand_in" ["tool", "hand", "n"] (spIn CT)) (G_serve_takers : OkD P w K mg base 2 "serve_takers" ["tool"] (spServe CT)) (hmin : mg "min" = none) : OkM P w K mg base 3 CG "give" ["self", "hand", "name", "n"] (spGive CG CT) := by
  refine D.ok CL_Goods sc_Goods_give (fun vs H Q E h => ?_) (fun f cdv A outer s H vs Q E hr h => ?_)
  · obtain ⟨_, _, _, _, _, _, _, _, _, _, _, _, rfl, _⟩ := h; rfl
  obtain ⟨g, dx, dt, a, d, q0, x, kv, nm, h, n, t, rfl, e1, e2, e3, tl, b1, q⟩ := h
  have hu := hu_of hr
  obtain ⟨dx', qs, k1, k2, k3, k4, k5, k6, k7⟩ := id tl
  refine ⟨_, (pss_cons (ps_set (i := 4) sc_Goods_give.nd rfl (Or.inl rfl) (pe_dgetG hu (pe_fldG CL_Goods N_Goods_by_tool (pv 0)) (pv 2) (fun _ _ => rfl)))
  (pss_cons (ps_set (i := 5) sc_Goods_give.nd rfl (Or.inl rfl) (pe_cB (call_min2 rfl) rfl hmin (by decide +kernel) (pa_c (pv 3) (pa_c (pe_dgetDG hu (pe_fldG CL_Tool N_Tool_held (pv 4)) (pv 1) pe_int ⟨rfl, rfl, rfl, rfl⟩) pa_nil))))
  (pss_cons (ps_expr (pe_def G_hand_in hr rfl (pa_c (pv 4) (pa_c (pv 1) (pa_c (pv 5) pa_nil)))))
  (pss_one (ps_ret (pe_tupG (pa_c (pv 5) (pa_c (pe_def G_serve_takers hr rfl (pa_c (pv 4) pa_nil)) pa_nil)))))))), ?_⟩
  walk_at "rd"
  refine ⟨⟨_, rfl⟩, _, hk_get _, ?_⟩
  obtain ⟨p1, p2, p3⟩ := putI_keys (h := h) (x := getI t.held h + -(giv t h n)) t.held k5
  refine ⟨a, d, q0, t, h, giv t h n, rfl, tl, b1, fun H1 f1 t1 => ?_⟩
  refine ⟨a, d, q0, outS t h (-(giv t h n)), rfl, t1, fun r H2 sv hr2 f2 h2 sd t2 => ?_⟩
  intro p H3 hp g3 h3
  have hr0 : H r = none := by
    cases z : H r with
    | none => rfl
    | some u =>
      obtain ⟨dx1, qs1, j1, j2, j3, _⟩ := t1
      have := f1 r u (fun e => by rw [e, j1] at hr2; cases hr2) (fun e => by rw [e, j2] at hr2; cases hr2) (fun e => by rw [e, j3] at hr2; cases hr2) z
      rw [this] at hr2; cases hr2
  exact q H3 p r sv ((f1.trans f2).trans fun c u _ _ _ hc => g3 _ _ hc) hr0 h3 (g3 _ _ h2) (sd.mono fun c xs hc => g3 _ _ hc) (t2.same g3)
def spPut (CG CS : Addr) : Sp := fun vs H Q _ => ∃ (g dx ds a gg pp : Addr) (x : V) (kv : List (Key × V)) (nm : Str) (h n : Int) (s : SS), vs = [.ref g, .int h, .str nm, .int n] ∧ H g = some (.ins CG dx [("by_tool", x), ("by_store", .ref ds)]) ∧ H ds = some (.dK kv) ∧ valV kv (Sum.inr nm) = some (.ref a) ∧ StO CS H a gg pp s ∧ s.gets.length < 200 ∧ s.puts.length < 200 ∧
  ∀ (H' : Hp) (p r : Addr) (sv : List V) (b : Bool) (its : List (Int × Bool × Int)) (s' : SS), Fr3 a gg pp H H' → H r = none → H' p = some (.tup [.bl b, .ref r]) → H' r = some (.lst sv) → Sv3 H' sv its → StO CS H' a gg pp s' → PutR s h n b its s' → Q (.ref p) H'
theorem ok_put {CG CS : Addr} (D : MethAt K CG "put" "Goods.put" s_Goods_put ["self", "hand", "name", "n"]) (CL_Goods : Cls K CG) (N_Goods_by_store : NoAttr K CG "by_store") (CL_Store : Cls K CS) (N_Store_level : NoAttr K CS "level") (N_Store_most : NoAttr K CS "most") (N_Store_putters : NoAttr K CS "putters") (G_serve_by_turns : OkD P w K mg base 1 "serve_by_turns" ["store"] (spTurns CS)) : OkM P w K mg base 2 CG "put" ["self", "hand", "name", "n"] (spPut CG CS) := by
  refine D.ok CL_Goods sc_Goods_put (fun vs H Q E h => ?_) (fun f cdv A outer s H vs Q E hr h => ?_)
  · obtain ⟨_, _, _, _, _, _, _, _, _, _, _, _, rfl, _⟩ := h; rfl
  obtain ⟨g, dx, ds, a, gg, pp, x, kv, nm, h, n, ss, rfl, e1, e2, e3, tl, b1, b2, q⟩ := h
  have hu := hu_of hr
  have big : 100000 ≤ sizeLine := by unfold sizeLine; decide
  obtain ⟨dx', gs, ps, k1, k2, k3, k4, k5, k6, k7, k8⟩ := id tl
  have lq := k5.length
  have nag : gg ≠ a := fun z => by rw [z, k1] at k2; cases k2
  have nap : pp ≠ a := fun z => by rw [z, k1] at k4; cases k4
  refine ⟨_, (pss_cons (ps_set (i := 4) sc_Goods_put.nd rfl (Or.inl rfl) (pe_dgetG hu (pe_fldG CL_Goods N_Goods_by_store (pv 0)) (pv 2) (fun _ _ => rfl)))
  (pss_cons (ps_if (PW.pt (pw_or (pt_truth (pe_fldG CL_Store N_Store_putters (pv 4)) (fun _ => rfl)) (pw_or1 (pt_cmpR op_gt (pe_op op_add (pe_fldG CL_Store N_Store_level (pv 4)) (pv 3)) (pe_fldG CL_Store N_Store_most (pv 4)) (nomark _)))))
  (pss_cons (ps_expr (pe_appG (pe_fldG CL_Store N_Store_putters (pv 4)) (pe_tupG (pa_c (pv 1) (pa_c (pv 3) pa_nil)))))
  (pss_one (ps_ret (pe_tupG (pa_c pe_bl (pa_c (pe_lstG pa_nil) pa_nil))))))
  pss_nil)
  (pss_cons (ps_fldG CL_Store N_Store_level (pv 4) (pe_op op_add (pe_fldG CL_Store N_Store_level (pv 4)) (pv 3)))
  (pss_one (ps_ret (pe_tupG (pa_c pe_bl (pa_c (pe_def G_serve_by_turns hr rfl (pa_c (pv 4) pa_nil)) pa_nil)))))))), ?_⟩
  walk_at "rd"
  have wait : (ss.puts ≠ [] ∨ ss.most < ss.level + n) → ∀ (p : Addr) (H1 : Hp), H p = none → Same H H1 → H1 p = some (.tup [.int h, .int n]) → ∃ ys, H1 pp = some (.lst ys) ∧ ys.length < sizeLine ∧ ∀ H3, Mu H1 pp (.lst (ys ++ [.ref p])) H3 → ∀ (r : Addr) (H4 : Hp), H3 r = none → Same H3 H4 → H4 r = some (.lst []) → ∀ (p2 : Addr) (H5 : Hp), H4 p2 = none → Same H4 H5 → H5 p2 = some (.tup [.bl false, .ref r]) → Q (.ref p2) H5 := fun c p H1 hp g1 h1 => by
    refine ⟨ps, g1 _ _ k4, by omega, fun H3 m3 r H4 hr4 g4 h4 p2 H5 hp2 g5 h5 => ?_⟩
    have nq : ∀ c u, c ≠ pp → H c = some u → H3 c = some u := fun c u nc hc => m3.old (g1 _ _ hc) nc
    have npq : p ≠ pp := (ne_of_none k4 hp).symm
    have nrp : r ≠ pp := (ne_of_none m3.at_ hr4).symm
    have hr0 : H r = none := g1.free (by rw [← m3.else_ r nrp]; exact hr4)
    refine q H5 p2 r [] false [] ⟨ss.level, ss.most, ss.gets, ss.puts ++ [(h, n)]⟩ (fun c u _ _ n3 hc => g5 _ _ (g4 _ _ (nq c u n3 hc))) hr0 h5 (g5 _ _ h4) .nil (StO.same (g4.trans g5) ⟨dx', gs, ps ++ [.ref p], nq _ _ (Ne.symm nap) k1, nq _ _ k6 k2, k3.mono fun c xs hc => nq c _ (tl.ne c xs hc).2.2 hc, m3.at_, (k5.mono fun c xs hc => nq c _ (tl.ne c xs hc).2.2 hc).snoc (m3.old h1 npq), k6, k7, ?_⟩) ?_
    · show (ss.puts ++ [(h, n)]).length ≤ 200
      rw [List.length_append, List.length_singleton]; omega
    · unfold PutR
      rw [if_pos c]
      exact ⟨rfl, rfl, rfl⟩
  refine ⟨!ps.isEmpty, tru_lst k4, ?_⟩
  cases hq : ps with
  | cons v0 qs' =>
    have nq : ss.puts ≠ [] := fun z => by rw [z] at lq; rw [hq] at lq; cases lq
    exact iteT (wait (.inl nq))
  | nil =>
    have nq : ss.puts = [] := by
      rw [hq] at lq
      exact List.eq_nil_of_length_eq_zero lq.symm
    refine iteF (ite2 (fun c => ?_) fun c => ?_)
    · exact wait (.inr c)
    · intro H1 m1
      have kt : ∀ c xs, H c = some (.tup xs) → H1 c = some (.tup xs) := fun c xs hc => m1.old hc (tl.ne c xs hc).1
      have t1 : StO CS H1 a gg pp ⟨ss.level + n, ss.most, ss.gets, ss.puts⟩ := ⟨dx', gs, ps, m1.at_, m1.old k2 nag, k3.mono kt, m1.old k4 nap, k5.mono kt, k6, k7, k8⟩
      refine ⟨a, gg, pp, ⟨ss.level + n, ss.most, ss.gets, ss.puts⟩, rfl, t1, fun r H2 sv its s' hr2 f2 h2 sd t2 sb => ?_⟩
      intro p H3 hp g3 h3
      have nra : r ≠ a := (ne_of_none m1.at_ hr2).symm
      have hr0 : H r = none := by rw [← m1.else_ r nra]; exact hr2
      refine q H3 p r sv true its s' (fun c u n1 n2 n3 hc => g3 _ _ (f2 c u n1 n2 n3 (m1.old hc n1))) hr0 h3 (g3 _ _ h2) (sd.mono fun c xs hc => g3 _ _ hc) (t2.same g3) ?_
      unfold PutR
      rw [if_neg (fun z => z.elim (fun z => z nq) c)]
      exact ⟨rfl, sb⟩
def spGet (CG CS : Addr) : Sp := fun vs H Q _ => ∃ (g dx ds a gg pp : Addr) (x : V) (kv : List (Key × V)) (nm : Str) (h n : Int) (s : SS), vs = [.ref g, .int h, .str nm, .int n] ∧ H g = some (.ins CG dx [("by_tool", x), ("by_store", .ref ds)]) ∧ H ds = some (.dK kv) ∧ valV kv (Sum.inr nm) = some (.ref a) ∧ StO CS H a gg pp s ∧ s.gets.length < 200 ∧ s.puts.length < 200 ∧
  ∀ (H' : Hp) (p r : Addr) (sv : List V) (b : Bool) (its : List (Int × Bool × Int)) (s' : SS), Fr3 a gg pp H H' → H r = none → H' p = some (.tup [.bl b, .ref r]) → H' r = some (.lst sv) → Sv3 H' sv its → StO CS H' a gg pp s' → GetR s h n b its s' → Q (.ref p) H'
theorem ok_get {CG CS : Addr} (D : MethAt K CG "get" "Goods.get" s_Goods_get ["self", "hand", "name", "n"]) (CL_Goods : Cls K CG) (N_Goods_by_store : NoAttr K CG "by_store") (CL_Store : Cls K CS) (N_Store_level : NoAttr K CS "level") (N_Store_getters : NoAttr K CS "getters") (G_serve_by_turns : OkD P w K mg base 1 "serve_by_turns" ["store"] (spTurns CS)) : OkM P w K mg base 2 CG "get" ["self", "hand", "name", "n"] (spGet CG CS) := by
  refine D.ok CL_Goods sc_Goods_get (fun vs H Q E h => ?_) (fun f cdv A outer s H vs Q E hr h => ?_)
  · obtain ⟨_, _, _, _, _, _, _, _, _, _, _, _, rfl, _⟩ := h; rfl
  obtain ⟨g, dx, ds, a, gg, pp, x, kv, nm, h, n, ss, rfl, e1, e2, e3, tl, b1, b2, q⟩ := h
  have hu := hu_of hr
  have big : 100000 ≤ sizeLine := by unfold sizeLine; decide
  obtain ⟨dx', gs, ps, k1, k2, k3, k4, k5, k6, k7, k8⟩ := id tl
  have lq := k3.length
  have nag : gg ≠ a := fun z => by rw [z, k1] at k2; cases k2
  have nap : pp ≠ a := fun z => by rw [z, k1] at k4; cases k4
  refine ⟨_, (pss_cons (ps_set (i := 4) sc_Goods_get.nd rfl (Or.inl rfl) (pe_dgetG hu (pe_fldG CL_Goods N_Goods_by_store (pv 0)) (pv 2) (fun _ _ => rfl)))
  (pss_cons (ps_if (PW.pt (pw_or (pt_truth (pe_fldG CL_Store N_Store_getters (pv 4)) (fun _ => rfl)) (pw_or1 (pt_cmpR op_lt (pe_fldG CL_Store N_Store_level (pv 4)) (pv 3) (nomark _)))))
  (pss_cons (ps_expr (pe_appG (pe_fldG CL_Store N_Store_getters (pv 4)) (pe_tupG (pa_c (pv 1) (pa_c (pv 3) pa_nil)))))
  (pss_one (ps_ret (pe_tupG (pa_c pe_bl (pa_c (pe_lstG pa_nil) pa_nil))))))
  pss_nil)
  (pss_cons (ps_fldG CL_Store N_Store_level (pv 4) (pe_op op_sub (pe_fldG CL_Store N_Store_level (pv 4)) (pv 3)))
  (pss_one (ps_ret (pe_tupG (pa_c pe_bl (pa_c (pe_def G_serve_by_turns hr rfl (pa_c (pv 4) pa_nil)) pa_nil)))))))), ?_⟩
  walk_at "rd"
  have wait : (ss.gets ≠ [] ∨ ss.level < n) → ∀ (p : Addr) (H1 : Hp), H p = none → Same H H1 → H1 p = some (.tup [.int h, .int n]) → ∃ ys, H1 gg = some (.lst ys) ∧ ys.length < sizeLine ∧ ∀ H3, Mu H1 gg (.lst (ys ++ [.ref p])) H3 → ∀ (r : Addr) (H4 : Hp), H3 r = none → Same H3 H4 → H4 r = some (.lst []) → ∀ (p2 : Addr) (H5 : Hp), H4 p2 = none → Same H4 H5 → H5 p2 = some (.tup [.bl false, .ref r]) → Q (.ref p2) H5 := fun c p H1 hp g1 h1 => by
    refine ⟨gs, g1 _ _ k2, by omega, fun H3 m3 r H4 hr4 g4 h4 p2 H5 hp2 g5 h5 => ?_⟩
    have nq : ∀ c u, c ≠ gg → H c = some u → H3 c = some u := fun c u nc hc => m3.old (g1 _ _ hc) nc
    have npq : p ≠ gg := (ne_of_none k2 hp).symm
    have nrp : r ≠ gg := (ne_of_none m3.at_ hr4).symm
    have hr0 : H r = none := g1.free (by rw [← m3.else_ r nrp]; exact hr4)
    refine q H5 p2 r [] false [] ⟨ss.level, ss.most, ss.gets ++ [(h, n)], ss.puts⟩ (fun c u _ n2 _ hc => g5 _ _ (g4 _ _ (nq c u n2 hc))) hr0 h5 (g5 _ _ h4) .nil (StO.same (g4.trans g5) ⟨dx', gs ++ [.ref p], ps, nq _ _ (Ne.symm nag) k1, m3.at_, (k3.mono fun c xs hc => nq c _ (tl.ne c xs hc).2.1 hc).snoc (m3.old h1 npq), nq _ _ (Ne.symm k6) k4, k5.mono fun c xs hc => nq c _ (tl.ne c xs hc).2.1 hc, k6, ?_, k8⟩) ?_
    · show (ss.gets ++ [(h, n)]).length ≤ 200
      rw [List.length_append, List.length_singleton]; omega
    · unfold GetR
      rw [if_pos c]
      exact ⟨rfl, rfl, rfl⟩
  refine ⟨!gs.isEmpty, tru_lst k2, ?_⟩
  cases hq : gs with
  | cons v0 qs' =>
    have nq : ss.gets ≠ [] := fun z => by rw [z] at lq; rw [hq] at lq; cases lq
    exact iteT (wait (.inl nq))
  | nil =>
    have nq : ss.gets = [] := by
      rw [hq] at lq
      exact List.eq_nil_of_length_eq_zero lq.symm
    refine iteF (ite2 (fun c => ?_) fun c => ?_)
    · exact wait (.inr c)
    · intro H1 m1
      have kt : ∀ c xs, H c = some (.tup xs) → H1 c = some (.tup xs) := fun c xs hc => m1.old hc (tl.ne c xs hc).1
      have t1 : StO CS H1 a gg pp ⟨ss.level - n, ss.most, ss.gets, ss.puts⟩ := ⟨dx', gs, ps, m1.at_, m1.old k2 nag, k3.mono kt, m1.old k4 nap, k5.mono kt, k6, k7, k8⟩
      refine ⟨a, gg, pp, ⟨ss.level - n, ss.most, ss.gets, ss.puts⟩, rfl, t1, fun r H2 sv its s' hr2 f2 h2 sd t2 sb => ?_⟩
      intro p H3 hp g3 h3
      have nra : r ≠ a := (ne_of_none m1.at_ hr2).symm
      have hr0 : H r = none := by rw [← m1.else_ r nra]; exact hr2
      refine q H3 p r sv true its s' (fun c u n1 n2 n3 hc => g3 _ _ (f2 c u n1 n2 n3 (m1.old hc n1))) hr0 h3 (g3 _ _ h2) (sd.mono fun c xs hc => g3 _ _ hc) (t2.same g3) ?_
      unfold GetR
      rw [if_neg (fun z => z.elim (fun z => z nq) c)]
      exact ⟨rfl, sb⟩
end
end K23

set_option Elab.async false
set_option linter.all false
set_option maxRecDepth 100000
set_option maxHeartbeats 4000000
namespace K23
open PySem L2
inductive TlL (H0 H : Hp) : List V → List TS → Prop
  | nil : TlL H0 H [] []
  | cons {v : V} {t : TS} {hd : List (Int × Int)} {vs : List V} {ts : List TS} : Told H0 H v t hd → PmO hd t → TlL H0 H vs ts → TlL H0 H (v :: vs) (t :: ts)
inductive SlL (H0 H : Hp) : List V → List SS → Prop
  | nil : SlL H0 H [] []
  | cons {v : V} {s : SS} {vs : List V} {ts : List SS} : ToldS H0 H v s → SlL H0 H vs ts → SlL H0 H (v :: vs) (s :: ts)
theorem Told.mono {H0 H H' : Hp} {v : V} {t : TS} {hd : List (Int × Int)} (g : Same H H') (h : Told H0 H v t hd) : Told H0 H' v t hd := by
  obtain ⟨p, ph, pq, hs, qs, e, h1, h2, h3, h4, h5⟩ := h
  exact ⟨p, ph, pq, hs, qs, e, g _ _ h1, g _ _ h2, h3.mono fun _ _ hc => g _ _ hc, g _ _ h4, h5.1.mono fun _ _ hc => g _ _ hc, h5.2⟩
theorem ToldS.mono {H0 H H' : Hp} {v : V} {s : SS} (g : Same H H') (h : ToldS H0 H v s) : ToldS H0 H' v s := by
  obtain ⟨p, ph, pq, hs, qs, e, h1, h2, h3, h4, h5⟩ := h
  exact ⟨p, ph, pq, hs, qs, e, g _ _ h1, g _ _ h2, h3.mono fun _ _ hc => g _ _ hc, g _ _ h4, h5.1.mono fun _ _ hc => g _ _ hc, h5.2⟩
theorem Told.hid {H0 H1 H : Hp} {v : V} {t : TS} {hd : List (Int × Int)} {D : Addr} {xs : List V} (h : Told H1 H v t hd) (hD1 : H1 D = some (.lst xs)) (hD : H D = some (.lst xs)) (k : ∀ c, H1 c = none → H0 c = none) : Told H0 (hide D H) v t hd := by
  obtain ⟨p, ph, pq, hs, qs, e, h1, h2, h3, h4, h5, h6, h7⟩ := h
  have nt : ∀ c ys, H c = some (.tup ys) → hide D H c = some (.tup ys) := fun c ys hc => hide_of (fun z => by rw [z, hD] at hc; cases hc) hc
  exact ⟨p, ph, pq, hs, qs, e, nt _ _ h1, hide_of (ne_of_none hD1 h6).symm h2, h3.mono nt, hide_of (ne_of_none hD1 h7).symm h4, h5.mono nt, k _ h6, k _ h7⟩
theorem ToldS.hid {H0 H1 H : Hp} {v : V} {t : SS} {D : Addr} {xs : List V} (h : ToldS H1 H v t) (hD1 : H1 D = some (.lst xs)) (hD : H D = some (.lst xs)) (k : ∀ c, H1 c = none → H0 c = none) : ToldS H0 (hide D H) v t := by
  obtain ⟨p, ph, pq, hs, qs, e, h1, h2, h3, h4, h5, h6, h7⟩ := h
  have nt : ∀ c ys, H c = some (.tup ys) → hide D H c = some (.tup ys) := fun c ys hc => hide_of (fun z => by rw [z, hD] at hc; cases hc) hc
  exact ⟨p, ph, pq, hs, qs, e, nt _ _ h1, hide_of (ne_of_none hD1 h6).symm h2, h3.mono nt, hide_of (ne_of_none hD1 h7).symm h4, h5.mono nt, k _ h6, k _ h7⟩
theorem TlL.mono {H0 H H' : Hp} (g : Same H H') : ∀ {vs : List V} {ts : List TS}, TlL H0 H vs ts → TlL H0 H' vs ts
  | _, _, .nil => .nil
  | _, _, .cons h p r => .cons (h.mono g) p (r.mono g)
theorem TlL.snoc {H0 H : Hp} {v : V} {t : TS} {hd : List (Int × Int)} (h : Told H0 H v t hd) (pm : PmO hd t) : ∀ {vs : List V} {ts : List TS}, TlL H0 H vs ts → TlL H0 H (vs ++ [v]) (ts ++ [t])
  | _, _, .nil => .cons h pm .nil
  | _, _, .cons h' p' r => .cons h' p' (r.snoc h pm)
theorem SlL.mono {H0 H H' : Hp} (g : Same H H') : ∀ {vs : List V} {ts : List SS}, SlL H0 H vs ts → SlL H0 H' vs ts
  | _, _, .nil => .nil
  | _, _, .cons h r => .cons (h.mono g) (r.mono g)
theorem SlL.snoc {H0 H : Hp} {v : V} {t : SS} (h : ToldS H0 H v t) : ∀ {vs : List V} {ts : List SS}, SlL H0 H vs ts → SlL H0 H (vs ++ [v]) (ts ++ [t])
  | _, _, .nil => .cons h .nil
  | _, _, .cons h' r => .cons h' (r.snoc h)
theorem Told.mono2 {H0 H H' : Hp} {v : V} {t : TS} {hd : List (Int × Int)} (g : ∀ c u, (∃ xs, u = HO.tup xs ∨ u = HO.lst xs) → H c = some u → H' c = some u) (h : Told H0 H v t hd) : Told H0 H' v t hd := by
  obtain ⟨p, ph, pq, hs, qs, e, h1, h2, h3, h4, h5⟩ := h
  exact ⟨p, ph, pq, hs, qs, e, g _ _ ⟨_, .inl rfl⟩ h1, g _ _ ⟨_, .inr rfl⟩ h2, h3.mono fun _ xs hc => g _ _ ⟨xs, .inl rfl⟩ hc, g _ _ ⟨_, .inr rfl⟩ h4, h5.1.mono fun _ xs hc => g _ _ ⟨xs, .inl rfl⟩ hc, h5.2⟩
theorem ToldS.mono2 {H0 H H' : Hp} {v : V} {t : SS} (g : ∀ c u, (∃ xs, u = HO.tup xs ∨ u = HO.lst xs) → H c = some u → H' c = some u) (h : ToldS H0 H v t) : ToldS H0 H' v t := by
  obtain ⟨p, ph, pq, hs, qs, e, h1, h2, h3, h4, h5⟩ := h
  exact ⟨p, ph, pq, hs, qs, e, g _ _ ⟨_, .inl rfl⟩ h1, g _ _ ⟨_, .inr rfl⟩ h2, h3.mono fun _ xs hc => g _ _ ⟨xs, .inl rfl⟩ hc, g _ _ ⟨_, .inr rfl⟩ h4, h5.1.mono fun _ xs hc => g _ _ ⟨xs, .inl rfl⟩ hc, h5.2⟩
theorem TlL.mono2 {H0 H H' : Hp} (g : ∀ c u, (∃ xs, u = HO.tup xs ∨ u = HO.lst xs) → H c = some u → H' c = some u) : ∀ {vs : List V} {ts : List TS}, TlL H0 H vs ts → TlL H0 H' vs ts
  | _, _, .nil => .nil
  | _, _, .cons h p r => .cons (h.mono2 g) p (r.mono2 g)
theorem SlL.mono2 {H0 H H' : Hp} (g : ∀ c u, (∃ xs, u = HO.tup xs ∨ u = HO.lst xs) → H c = some u → H' c = some u) : ∀ {vs : List V} {ts : List SS}, SlL H0 H vs ts → SlL H0 H' vs ts
  | _, _, .nil => .nil
  | _, _, .cons h r => .cons (h.mono2 g) (r.mono2 g)
theorem kv_int {held : List (Int × Int)} {i : Nat} {nm : Str} {v : V} : (hk held)[i]? ≠ some (Sum.inr nm, v) := fun h => by
  obtain ⟨a, n, e, _⟩ := hk_at h
  cases e
theorem unfz {H H1 : Hp} {d : Addr} {o : Obj} {kv : List (Key × V)} (hd : H d = some (.dK kv)) (g1 : Same (upd H d (.frz o (.dK kv))) H1) : Same H (upd H1 d (.dK kv)) := fun c u hc => by
  by_cases z : c = d
  · rw [z, upd_same]; rw [z, hd] at hc; exact hc
  · rw [upd_ne z]
    exact g1 _ _ (by rw [upd_ne z]; exact hc)
section
variable {P : Program} {w : World} {K : PySem.W.Frag} {mg : Str → Option Value} {base : Heap}
def GoA (CG CT CS : Addr) (H : Hp) (g dt ds : Addr) (es : List Ent) (ss : List EntS) : Prop := (∃ dx, H g = some (.ins CG dx [("by_tool", .ref dt), ("by_store", .ref ds)])) ∧ H dt = some (.dK (kvE es)) ∧ H ds = some (.dK (kvS ss)) ∧ (∀ e ∈ es, TlO CT H e.a e.d e.q e.t) ∧ (∀ e ∈ ss, StO CS H e.a e.g e.p e.s) ∧ (g :: dt :: ds :: (adE es ++ adS ss)).Nodup ∧ (es.map (·.name)).Nodup ∧ (ss.map (·.name)).Nodup
def spGoodsI (CG CT CS : Addr) : Sp := fun vs H Q _ => ∃ (g dx pp p0 p1 : Addr) (x2 x3 : V) (ys0 ys1 : List V) (pr0 : List (Str × Int)) (pr1 : List (Str × Int × Int)), vs = [.ref g, .ref pp] ∧ H g = some (.ins CG dx []) ∧ H pp = some (.tup [.ref p0, .ref p1, x2, x3]) ∧ H p0 = some (.lst ys0) ∧ PrN H ys0 pr0 ∧ (pr0.length ≤ 10 ∧ (pr0.map (·.1)).Nodup) ∧ H p1 = some (.lst ys1) ∧ PrM H ys1 pr1 ∧ (pr1.length ≤ 10 ∧ (pr1.map (·.1)).Nodup) ∧
  ∀ (H' : Hp) (dt ds : Addr) (es : List Ent) (ss : List EntS), (∀ c u, c ≠ g → H c = some u → H' c = some u) → GoA CG CT CS H' g dt ds es ss →
    es.map (fun e => (e.name, e.c, e.t)) = pr0.map (fun p => (p.1, p.2, ⟨p.2, [], []⟩)) → ss.map (fun e => (e.name, e.s)) = pr1.map (fun p => (p.1, ⟨p.2.1, p.2.2, [], []⟩)) → (∀ c ∈ dt :: ds :: (adE es ++ adS ss), H c = none) → Q .non H'
theorem PrN.mono {H H' : Hp} (g : Same H H') : ∀ {vs : List V} {ps : List (Str × Int)}, PrN H vs ps → PrN H' vs ps
  | _, _, .nil => .nil
  | _, _, .cons h r => .cons (g _ _ h) (r.mono g)
theorem PrM.keep {H H' : Hp} (g : ∀ c xs, H c = some (.tup xs) → H' c = some (.tup xs)) : ∀ {vs : List V} {ps : List (Str × Int × Int)}, PrM H vs ps → PrM H' vs ps
  | _, _, .nil => .nil
  | _, _, .cons h r => .cons (g _ _ h) (r.keep g)
theorem ok_Goods {CG CT CS : Addr} (D : MakeAt K mg "Goods" CG "Goods.__init__" s_Goods___init__ ["self", "program"]) (CL_Goods : Cls K CG) (N_Goods_by_tool : NoAttr K CG "by_tool") (N_Goods_by_store : NoAttr K CG "by_store") (G_tools_of : OkD P w K mg base 3 "tools_of" ["program"] (spToolsOf CT)) (G_stores_of : OkD P w K mg base 3 "stores_of" ["program"] (spStoresOf CS)) : OkC P w K mg base 4 "Goods" CG ["self", "program"] (spGoodsI CG CT CS) := by
  refine D.ok sc_Goods___init__ (fun vs H Q E h => ?_) (fun f cdv A outer s H vs Q E hr h => ?_)
  · obtain ⟨_, _, _, _, _, _, _, _, _, _, _, rfl, _⟩ := h; rfl
  obtain ⟨g, dx, pp, p0, p1, x2, x3, ys0, ys1, pr0, pr1, rfl, hg, h1, h2, h3, h4, h5, h6, h7, q⟩ := h
  refine ⟨_, (pss_cons (ps_fldG CL_Goods N_Goods_by_tool (pv 0) (pe_def G_tools_of hr rfl (pa_c (pv 1) pa_nil)))
  (pss_one (ps_fldG CL_Goods N_Goods_by_store (pv 0) (pe_def G_stores_of hr rfl (pa_c (pv 1) pa_nil))))), ?_⟩
  walk_at "rd"
  refine ⟨pp, p0, _, _, _, ys0, pr0, rfl, h1, h2, h3, h4.1, h4.2, fun dt H1 es hdt g1 e1 t1 m1 n1 f1 => ?_⟩
  have hg1 := g1 _ _ hg
  have npp : pp ≠ g := fun z => by rw [z, hg] at h1; cases h1
  have np1 : p1 ≠ g := fun z => by rw [z, hg] at h5; cases h5
  have hgs := hg
  clear hg
  walk_at "rd"
  intro H2 mu2
  have hg2 := mu2.at_
  refine ⟨pp, p1, _, _, _, ys1, pr1, rfl, mu2.old (g1 _ _ h1) npp, mu2.old (g1 _ _ h5) np1, h6.keep (fun c xs hc => mu2.old (g1 _ _ hc) (fun z => by rw [z, hgs] at hc; cases hc)), h7.1, h7.2, fun ds H3 ss hds g3 e3 t3 m3 n3 f3 => ?_⟩
  have hg3 := g3 _ _ hg2
  clear hg1 hg2
  walk_at "rd"
  intro H4 mu4
  have ndt : dt ≠ g := (ne_of_none hgs hdt).symm
  have nds : ds ≠ g := (ne_of_none mu2.at_ hds).symm
  have k24 : ∀ c u, c ≠ g → H1 c = some u → H4 c = some u := fun c u nc hc => mu4.old (g3 _ _ (mu2.old hc nc)) nc
  have ne1 : ∀ c ∈ adE es, c ≠ g := fun c hc => (ne_of_none hgs (f1 c hc)).symm
  have ne3 : ∀ c ∈ adS ss, c ≠ g := fun c hc => (ne_of_none mu2.at_ (f3 c hc)).symm
  have back : ∀ c, H2 c = none → c ≠ g → H c = none := fun c hc nc => g1.free (by rw [← mu2.else_ c nc]; exact hc)
  have in1 : ∀ c ∈ dt :: adE es, ∃ u, H2 c = some u := fun c hc => by
    rcases List.mem_cons.mp hc with rfl | hc
    · exact ⟨_, mu2.old e1 ndt⟩
    · obtain ⟨u, hu⟩ := adE_has t1 c hc
      exact ⟨u, mu2.old hu (ne1 c hc)⟩
  have out3 : ∀ c ∈ ds :: adS ss, H2 c = none := fun c hc => by
    rcases List.mem_cons.mp hc with rfl | hc
    · exact hds
    · exact f3 c hc
  have dj : ∀ c ∈ dt :: adE es, ∀ c' ∈ ds :: adS ss, c ≠ c' := fun c hc c' hc' z => by
    obtain ⟨u, hu⟩ := in1 c hc
    rw [z, out3 c' hc'] at hu; cases hu
  have mE : ∀ {c}, c ∈ adE es → c ∈ dt :: adE es := fun h => List.mem_cons_of_mem _ h
  have mS : ∀ {c}, c ∈ adS ss → c ∈ ds :: adS ss := fun h => List.mem_cons_of_mem _ h
  rw [List.nodup_cons] at n1 n3
  refine q H4 dt ds es ss (fun c u nc hc => k24 c u nc (g1 _ _ hc)) ⟨⟨_, mu4.at_⟩, k24 _ _ ndt e1, mu4.old e3 nds, fun e he => (t1 e he).grow fun c u hc hu => k24 c u (fun z => ?_) hu, fun e he => (t3 e he).grow fun c u hc hu => mu4.old hu (fun z => ?_), ?_, ?_, ?_⟩ m1 m3 (fun c hc => ?_)
  · rcases hc with rfl | rfl | rfl | ⟨xs, rfl⟩
    · exact ne1 e.a (List.mem_flatMap.mpr ⟨e, he, by simp⟩) z
    · exact ne1 e.d (List.mem_flatMap.mpr ⟨e, he, by simp⟩) z
    · exact ne1 e.q (List.mem_flatMap.mpr ⟨e, he, by simp⟩) z
    · rw [z, g1 _ _ hgs] at hu; cases hu
  · rcases hc with rfl | rfl | rfl | ⟨xs, rfl⟩
    · exact ne3 e.a (List.mem_flatMap.mpr ⟨e, he, by simp⟩) z
    · exact ne3 e.g (List.mem_flatMap.mpr ⟨e, he, by simp⟩) z
    · exact ne3 e.p (List.mem_flatMap.mpr ⟨e, he, by simp⟩) z
    · rw [z, hg3] at hu; cases hu
  · refine List.nodup_cons.mpr ⟨fun z => ?_, List.nodup_cons.mpr ⟨fun z => ?_, List.nodup_cons.mpr ⟨fun z => ?_, List.nodup_append.mpr ⟨n1.2, n3.2, fun c hc c' hc' => dj c (mE hc) c' (mS hc')⟩⟩⟩⟩
    · rcases List.mem_cons.mp z with z | z
      · exact ndt z.symm
      · rcases List.mem_cons.mp z with z | z
        · exact nds z.symm
        · rcases List.mem_append.mp z with z | z
          · exact ne1 _ z rfl
          · exact ne3 _ z rfl
    · rcases List.mem_cons.mp z with z | z
      · exact dj dt List.mem_cons_self ds List.mem_cons_self z
      · rcases List.mem_append.mp z with z | z
        · exact n1.1 z
        · exact dj dt List.mem_cons_self dt (mS z) rfl
    · rcases List.mem_append.mp z with z | z
      · exact dj ds (mE z) ds List.mem_cons_self rfl
      · exact n3.1 z
  · have e := congrArg (List.map (fun x : Str × Int × TS => x.1)) m1
    rw [List.map_map, List.map_map] at e
    have e : es.map (·.name) = pr0.map (·.1) := e
    rw [e]; exact h4.2
  · have e := congrArg (List.map (fun x : Str × SS => x.1)) m3
    rw [List.map_map, List.map_map] at e
    have e : ss.map (·.name) = pr1.map (·.1) := e
    rw [e]; exact h7.2
  · rcases List.mem_cons.mp hc with rfl | hc
    · exact hdt
    · rcases List.mem_cons.mp hc with rfl | hc
      · exact back _ hds nds
      · rcases List.mem_append.mp hc with hc | hc
        · exact f1 _ hc
        · exact back _ (f3 _ hc) (ne3 _ hc)
def TsP (H : Hp) (es : List Ent) (D : Addr) (i : Nat) (ys : List V) (σ1 : St) (H' : Hp) : Prop := TlL H (hide D H') ys ((es.take i).map (·.t)) ∧ ∃ v0, σ1 = [v0]
def spTools (CG CT : Addr) : Sp := fun vs H Q _ => ∃ (g dx dt : Addr) (x : V) (es : List Ent), vs = [.ref g] ∧ H g = some (.ins CG dx [("by_tool", .ref dt), ("by_store", x)]) ∧ H dt = some (.dK (kvE es)) ∧ (∀ e ∈ es, TlO CT H e.a e.d e.q e.t) ∧ es.length ≤ 200 ∧
  ∀ (r : Addr) (H' : Hp) (vs : List V), H r = none → Same H H' → H' r = some (.lst vs) → TlL H (hide r H') vs (es.map (·.t)) → Q (.ref r) H'
theorem ok_tools {CG CT : Addr} (D : MethAt K CG "tools" "Goods.tools" s_Goods_tools ["self"]) (CL_Goods : Cls K CG) (N_Goods_by_tool : NoAttr K CG "by_tool") (G_told_tool : OkD P w K mg base 1 "told_tool" ["tool"] (spTold CT)) : OkM P w K mg base 2 CG "tools" ["self"] (spTools CG CT) := by
  refine D.ok CL_Goods sc_Goods_tools (fun vs H Q E h => ?_) (fun f cdv A outer s H vs Q E hr h => ?_)
  · obtain ⟨_, _, _, _, _, rfl, _⟩ := h; rfl
  obtain ⟨g, dx, dt, x, es, rfl, e1, e2, e3, b1, q⟩ := h
  have big : 100000 ≤ sizeLine := by unfold sizeLine; decide
  have le : (kvE es).length = es.length := by unfold kvE; rw [List.length_map]
  refine ⟨_, (pss_one (ps_ret (pe_unf (pe_compN (comp_scopeN 1 (N := ["tool"]) (cap := []) rfl rfl rfl rfl (by decide +kernel) rfl rfl rfl) rfl (pi_vals (pe_fldG CL_Goods N_Goods_by_tool (pv 0))) (fun _ _ _ _ => (pg_name (i := 0) (show List.Nodup (α := Str) ["tool"] by decide +kernel) rfl (Or.inl (lookup_relabel_local rfl)) (Or.inr (lookup_relabel_local rfl)))) (fun _ _ _ _ => pts_nil) (fun _ _ _ _ => (pe_def G_told_tool hr rfl (pa_c (pv 0) pa_nil))))))), ?_⟩
  walk_at "r2"
  refine tcomp_in ?_
  simp only [iVals]
  walk_at "r2"
  intro o nf
  refine compJD over_vals (fun H g => g _ _ upd_same) (by rw [List.length_map]; omega) (TsP H es) (fun D H' _ _ _ => by unfold TsP; exact ⟨.nil, _, rfl⟩) ?_ ?_
  · rintro D i x ys σ1 H1 hx at1 pv
    unfold TsP at pv
    obtain ⟨tl, v0, rfl⟩ := pv
    obtain ⟨e, he, rfl⟩ : ∃ e, es[i]? = some e ∧ V.ref e.a = x := by
      unfold kvE at hx
      rw [List.map_map, List.getElem?_map] at hx
      cases z : es[i]? with
      | none => rw [z] at hx; cases hx
      | some e => rw [z] at hx; cases hx; exact ⟨e, rfl, rfl⟩
    walk_at "rd"
    have t0 := e3 e (List.mem_of_getElem? he)
    have t1 : TlO CT H1 e.a e.d e.q e.t := t0.grow fun c u hc hu => at1.same _ _ (by
      rw [upd_ne (fun z => ?_)]
      · exact hu
      · obtain ⟨dx1, qs1, j1, j2, j3, _⟩ := t0
        rcases hc with rfl | rfl | rfl | ⟨xs, rfl⟩
        · rw [z, e2] at j1; cases j1
        · rw [z, e2] at j2
          have j4 : kvE es = hk e.t.held := HO.dK.inj (Option.some.inj j2)
          refine kv_int (held := e.t.held) (i := i) (nm := e.name) (v := .ref e.a) ?_
          rw [← j4]
          unfold kvE
          rw [List.getElem?_map, he]; rfl
        · rw [z, e2] at j3; cases j3
        · rw [z, e2] at hu; cases hu)
    refine ⟨e.a, e.d, e.q, e.t, rfl, t1, fun v H2 hd g2 td pm => at1.put g2 fun H3 mu => ?_⟩
    unfold TsP
    rw [take_snoc he, List.map_append]
    have fre : ∀ c, H1 c = none → H c = none := fun c hc => by
      have := at1.same.free hc
      by_cases z : c = dt
      · rw [z, upd_same] at this; cases this
      · rw [upd_ne z] at this; exact this
    exact ⟨(tl.mono ((hide_same g2).trans (hide_mu mu))).snoc ((td.hid at1.lst (g2 _ _ at1.lst) fre).mono (hide_mu mu)) pm, _, rfl⟩
  · rintro D ys σ1 H1 hD g1 hy hle pv
    unfold TsP at pv
    obtain ⟨tl, _⟩ := pv
    rw [List.length_map, le, List.take_of_length_le (Nat.le_refl _)] at tl
    have d1 : H1 dt = some (.frz o (.dK (kvE es))) := g1 _ _ upd_same
    have nDd : D ≠ dt := fun z => by rw [z, upd_same] at hD; cases hD
    have hD0 : H D = none := by rw [upd_ne nDd] at hD; exact hD
    refine ⟨dt, nf, o, _, d1, ?_⟩
    refine q D _ ys hD0 (unfz e2 g1) (by rw [upd_ne nDd]; exact hy) (tl.mono2 fun c u ⟨xs, hx⟩ hc => ?_)
    have nD := (hide_inv hc).1
    have hc := hide_le _ _ hc
    refine hide_of nD ?_
    have nc : c ≠ dt := fun z => by
      rw [z, d1] at hc
      rcases hx with rfl | rfl <;> cases hc
    rw [upd_ne nc]
    exact hc
def SsP (H : Hp) (es : List EntS) (D : Addr) (i : Nat) (ys : List V) (σ1 : St) (H' : Hp) : Prop := SlL H (hide D H') ys ((es.take i).map (·.s)) ∧ ∃ v0, σ1 = [v0]
def spStores (CG CS : Addr) : Sp := fun vs H Q _ => ∃ (g dx dt : Addr) (x : V) (es : List EntS), vs = [.ref g] ∧ H g = some (.ins CG dx [("by_tool", x), ("by_store", .ref dt)]) ∧ H dt = some (.dK (kvS es)) ∧ (∀ e ∈ es, StO CS H e.a e.g e.p e.s) ∧ es.length ≤ 200 ∧
  ∀ (r : Addr) (H' : Hp) (vs : List V), H r = none → Same H H' → H' r = some (.lst vs) → SlL H (hide r H') vs (es.map (·.s)) → Q (.ref r) H'
theorem ok_stores {CG CS : Addr} (D : MethAt K CG "stores" "Goods.stores" s_Goods_stores ["self"]) (CL_Goods : Cls K CG) (N_Goods_by_store : NoAttr K CG "by_store") (G_told_store : OkD P w K mg base 1 "told_store" ["store"] (spToldS CS)) : OkM P w K mg base 2 CG "stores" ["self"] (spStores CG CS) := by
  refine D.ok CL_Goods sc_Goods_stores (fun vs H Q E h => ?_) (fun f cdv A outer s H vs Q E hr h => ?_)
  · obtain ⟨_, _, _, _, _, rfl, _⟩ := h; rfl
  obtain ⟨g, dx, dt, x, es, rfl, e1, e2, e3, b1, q⟩ := h
  have big : 100000 ≤ sizeLine := by unfold sizeLine; decide
  have le : (kvS es).length = es.length := by unfold kvS; rw [List.length_map]
  refine ⟨_, (pss_one (ps_ret (pe_unf (pe_compN (comp_scopeN 1 (N := ["store"]) (cap := []) rfl rfl rfl rfl (by decide +kernel) rfl rfl rfl) rfl (pi_vals (pe_fldG CL_Goods N_Goods_by_store (pv 0))) (fun _ _ _ _ => (pg_name (i := 0) (show List.Nodup (α := Str) ["store"] by decide +kernel) rfl (Or.inl (lookup_relabel_local rfl)) (Or.inr (lookup_relabel_local rfl)))) (fun _ _ _ _ => pts_nil) (fun _ _ _ _ => (pe_def G_told_store hr rfl (pa_c (pv 0) pa_nil))))))), ?_⟩
  walk_at "r2"
  refine tcomp_in ?_
  simp only [iVals]
  walk_at "r2"
  intro o nf
  refine compJD over_vals (fun H g => g _ _ upd_same) (by rw [List.length_map]; omega) (SsP H es) (fun D H' _ _ _ => by unfold SsP; exact ⟨.nil, _, rfl⟩) ?_ ?_
  · rintro D i x ys σ1 H1 hx at1 pv
    unfold SsP at pv
    obtain ⟨tl, v0, rfl⟩ := pv
    obtain ⟨e, he, rfl⟩ : ∃ e, es[i]? = some e ∧ V.ref e.a = x := by
      unfold kvS at hx
      rw [List.map_map, List.getElem?_map] at hx
      cases z : es[i]? with
      | none => rw [z] at hx; cases hx
      | some e => rw [z] at hx; cases hx; exact ⟨e, rfl, rfl⟩
    walk_at "rd"
    have t0 := e3 e (List.mem_of_getElem? he)
    have t1 : StO CS H1 e.a e.g e.p e.s := t0.grow fun c u hc hu => at1.same _ _ (by
      rw [upd_ne (fun z => ?_)]
      · exact hu
      · obtain ⟨dx1, gs1, ps1, j1, j2, _, j3, _⟩ := t0
        rcases hc with rfl | rfl | rfl | ⟨xs, rfl⟩
        · rw [z, e2] at j1; cases j1
        · rw [z, e2] at j2; cases j2
        · rw [z, e2] at j3; cases j3
        · rw [z, e2] at hu; cases hu)
    refine ⟨e.a, e.g, e.p, e.s, rfl, t1, fun v H2 g2 td => at1.put g2 fun H3 mu => ?_⟩
    unfold SsP
    rw [take_snoc he, List.map_append]
    have fre : ∀ c, H1 c = none → H c = none := fun c hc => by
      have := at1.same.free hc
      by_cases z : c = dt
      · rw [z, upd_same] at this; cases this
      · rw [upd_ne z] at this; exact this
    exact ⟨(tl.mono ((hide_same g2).trans (hide_mu mu))).snoc ((td.hid at1.lst (g2 _ _ at1.lst) fre).mono (hide_mu mu)), _, rfl⟩
  · rintro D ys σ1 H1 hD g1 hy hle pv
    unfold SsP at pv
    obtain ⟨tl, _⟩ := pv
    rw [List.length_map, le, List.take_of_length_le (Nat.le_refl _)] at tl
    have d1 : H1 dt = some (.frz o (.dK (kvS es))) := g1 _ _ upd_same
    have nDd : D ≠ dt := fun z => by rw [z, upd_same] at hD; cases hD
    have hD0 : H D = none := by rw [upd_ne nDd] at hD; exact hD
    refine ⟨dt, nf, o, _, d1, ?_⟩
    refine q D _ ys hD0 (unfz e2 g1) (by rw [upd_ne nDd]; exact hy) (tl.mono2 fun c u ⟨xs, hx⟩ hc => ?_)
    have nD := (hide_inv hc).1
    have hc := hide_le _ _ hc
    refine hide_of nD ?_
    have nc : c ≠ dt := fun z => by
      rw [z, d1] at hc
      rcases hx with rfl | rfl <;> cases hc
    rw [upd_ne nc]
    exact hc
end
end K23

set_option Elab.async false
set_option linter.all false
set_option maxRecDepth 100000
set_option maxHeartbeats 4000000
namespace K23
open PySem L2
theorem nd_mid {α : Type} {A B C : List α} (nd : (A ++ (B ++ C)).Nodup) : ∀ x, x ∈ A ++ C → x ∉ B := fun x hx hb => by
  rw [List.nodup_append] at nd
  obtain ⟨_, n2, n3⟩ := nd
  rcases List.mem_append.mp hx with hx | hx
  · exact n3 x hx x (List.mem_append_left _ hb) rfl
  · rw [List.nodup_append] at n2
    exact n2.2.2 x hb x hx rfl
def FrG (cs : List Addr) (H H' : Hp) : Prop := ∀ c u, c ∉ cs → H c = some u → H' c = some u
theorem FrG.refl {cs : List Addr} {H : Hp} : FrG cs H H := fun _ _ _ h => h
theorem FrG.trans {cs : List Addr} {H H' H'' : Hp} (f : FrG cs H H') (f' : FrG cs H' H'') : FrG cs H H'' := fun c u n h => f' c u n (f c u n h)
theorem FrG.same {cs : List Addr} {H H' H'' : Hp} (f : FrG cs H H') (f' : Same H' H'') : FrG cs H H'' := fun c u n h => f' c u (f c u n h)
theorem Fr3.g {cs : List Addr} {a d q : Addr} {H H' : Hp} (f : Fr3 a d q H H') (h1 : a ∈ cs) (h2 : d ∈ cs) (h3 : q ∈ cs) : FrG cs H H' := fun c u n h => f c u (fun z => n (z ▸ h1)) (fun z => n (z ▸ h2)) (fun z => n (z ▸ h3)) h
theorem GoA.same {CG CT CS : Addr} {H H' : Hp} {g dt ds : Addr} {es : List Ent} {ss : List EntS} (k : Same H H') (G : GoA CG CT CS H g dt ds es ss) : GoA CG CT CS H' g dt ds es ss := by
  obtain ⟨⟨dx, h1⟩, h2, h3, h4, h5, h6⟩ := G
  exact ⟨⟨dx, k _ _ h1⟩, k _ _ h2, k _ _ h3, fun e he => (h4 e he).same k, fun e he => (h5 e he).same k, h6⟩
theorem adE_mid {l1 l2 : List Ent} {e : Ent} : adE (l1 ++ e :: l2) = adE l1 ++ ([e.a, e.d, e.q] ++ adE l2) := by
  unfold adE
  rw [List.flatMap_append, List.flatMap_cons]
theorem adS_mid {l1 l2 : List EntS} {e : EntS} : adS (l1 ++ e :: l2) = adS l1 ++ ([e.a, e.g, e.p] ++ adS l2) := by
  unfold adS
  rw [List.flatMap_append, List.flatMap_cons]
theorem in_adE {es : List Ent} {e : Ent} (h : e ∈ es) : e.a ∈ adE es ∧ e.d ∈ adE es ∧ e.q ∈ adE es := ⟨List.mem_flatMap.mpr ⟨e, h, by simp⟩, List.mem_flatMap.mpr ⟨e, h, by simp⟩, List.mem_flatMap.mpr ⟨e, h, by simp⟩⟩
theorem in_adS {es : List EntS} {e : EntS} (h : e ∈ es) : e.a ∈ adS es ∧ e.g ∈ adS es ∧ e.p ∈ adS es := ⟨List.mem_flatMap.mpr ⟨e, h, by simp⟩, List.mem_flatMap.mpr ⟨e, h, by simp⟩, List.mem_flatMap.mpr ⟨e, h, by simp⟩⟩
/-- one tool is another now -/
theorem GoA.tool {CG CT CS : Addr} {H H' : Hp} {g dt ds : Addr} {l1 l2 : List Ent} {e : Ent} {ss : List EntS} {t : TS} (G : GoA CG CT CS H g dt ds (l1 ++ e :: l2) ss) (f : Fr3 e.a e.d e.q H H') (h : TlO CT H' e.a e.d e.q t) : GoA CG CT CS H' g dt ds (l1 ++ { e with t := t } :: l2) ss := by
  obtain ⟨⟨dx, h1⟩, h2, h3, h4, h5, nd, n1, n2⟩ := G
  have tl := h4 e (List.mem_append_right _ List.mem_cons_self)
  have nd0 := nd
  rw [adE_mid] at nd
  have nd' : ((g :: dt :: ds :: adE l1) ++ ([e.a, e.d, e.q] ++ (adE l2 ++ adS ss))).Nodup := by
    have e1 : (g :: dt :: ds :: adE l1) ++ ([e.a, e.d, e.q] ++ (adE l2 ++ adS ss)) = g :: dt :: ds :: ((adE l1 ++ ([e.a, e.d, e.q] ++ adE l2)) ++ adS ss) := by simp [List.append_assoc]
    rw [e1]; exact nd
  have keep : ∀ c u, c ∈ (g :: dt :: ds :: adE l1) ++ (adE l2 ++ adS ss) → H c = some u → H' c = some u := fun c u hc hu => by
    have n := nd_mid nd' c hc
    exact f c u (fun z => n (by rw [z]; simp)) (fun z => n (by rw [z]; simp)) (fun z => n (by rw [z]; simp)) hu
  have kt := tl.kt f
  have mE : ∀ c, c ∈ adE l1 ∨ c ∈ adE l2 ∨ c ∈ adS ss → c ∈ (g :: dt :: ds :: adE l1) ++ (adE l2 ++ adS ss) := fun c hc => by
    rcases hc with hc | hc | hc
    · exact List.mem_append_left _ (List.mem_cons_of_mem _ (List.mem_cons_of_mem _ (List.mem_cons_of_mem _ hc)))
    · exact List.mem_append_right _ (List.mem_append_left _ hc)
    · exact List.mem_append_right _ (List.mem_append_right _ hc)
  have other : ∀ e' : Ent, (∀ c, c = e'.a ∨ c = e'.d ∨ c = e'.q → c ∈ (g :: dt :: ds :: adE l1) ++ (adE l2 ++ adS ss)) → TlO CT H e'.a e'.d e'.q e'.t → TlO CT H' e'.a e'.d e'.q e'.t := fun e' hm tl' => tl'.grow fun c u hc hu => by
    rcases hc with hc | hc | hc | ⟨xs, rfl⟩
    · exact keep c u (hm c (.inl hc)) hu
    · exact keep c u (hm c (.inr (.inl hc))) hu
    · exact keep c u (hm c (.inr (.inr hc))) hu
    · exact kt c xs hu
  have ek : kvE (l1 ++ { e with t := t } :: l2) = kvE (l1 ++ e :: l2) := by unfold kvE; rw [List.map_append, List.map_append, List.map_cons, List.map_cons]
  refine ⟨⟨dx, keep g _ (by simp) h1⟩, by rw [ek]; exact keep dt _ (by simp) h2, keep ds _ (by simp) h3, fun e' he' => ?_, fun e' he' => ?_, ?_, ?_, n2⟩
  · rcases List.mem_append.mp he' with hm | hm
    · have i1 := in_adE hm
      refine other e' (fun c hc => mE c (.inl ?_)) (h4 e' (List.mem_append_left _ hm))
      rcases hc with rfl | rfl | rfl
      · exact i1.1
      · exact i1.2.1
      · exact i1.2.2
    · rcases List.mem_cons.mp hm with rfl | hm
      · exact h
      · have i1 := in_adE hm
        refine other e' (fun c hc => mE c (.inr (.inl ?_))) (h4 e' (List.mem_append_right _ (List.mem_cons_of_mem _ hm)))
        rcases hc with rfl | rfl | rfl
        · exact i1.1
        · exact i1.2.1
        · exact i1.2.2
  · have i1 := in_adS he'
    refine (h5 e' he').grow fun c u hc hu => ?_
    rcases hc with rfl | rfl | rfl | ⟨xs, rfl⟩
    · exact keep _ u (mE _ (.inr (.inr i1.1))) hu
    · exact keep _ u (mE _ (.inr (.inr i1.2.1))) hu
    · exact keep _ u (mE _ (.inr (.inr i1.2.2))) hu
    · exact kt c xs hu
  · rw [adE_mid]; exact nd
  · rw [List.map_append, List.map_cons] at n1 ⊢; exact n1
/-- one store is another now -/
theorem GoA.store {CG CT CS : Addr} {H H' : Hp} {g dt ds : Addr} {es : List Ent} {l1 l2 : List EntS} {e : EntS} {s : SS} (G : GoA CG CT CS H g dt ds es (l1 ++ e :: l2)) (f : Fr3 e.a e.g e.p H H') (h : StO CS H' e.a e.g e.p s) : GoA CG CT CS H' g dt ds es (l1 ++ { e with s := s } :: l2) := by
  obtain ⟨⟨dx, h1⟩, h2, h3, h4, h5, nd, n1, n2⟩ := G
  have tl := h5 e (List.mem_append_right _ List.mem_cons_self)
  rw [adS_mid] at nd
  have nd' : ((g :: dt :: ds :: (adE es ++ adS l1)) ++ ([e.a, e.g, e.p] ++ adS l2)).Nodup := by
    have e1 : (g :: dt :: ds :: (adE es ++ adS l1)) ++ ([e.a, e.g, e.p] ++ adS l2) = g :: dt :: ds :: (adE es ++ (adS l1 ++ ([e.a, e.g, e.p] ++ adS l2))) := by simp [List.append_assoc]
    rw [e1]; exact nd
  have keep : ∀ c u, c ∈ (g :: dt :: ds :: (adE es ++ adS l1)) ++ adS l2 → H c = some u → H' c = some u := fun c u hc hu => by
    have n := nd_mid nd' c hc
    exact f c u (fun z => n (by rw [z]; simp)) (fun z => n (by rw [z]; simp)) (fun z => n (by rw [z]; simp)) hu
  have kt : ∀ c xs, H c = some (.tup xs) → H' c = some (.tup xs) := fun c xs hc => f c _ (tl.ne c xs hc).1 (tl.ne c xs hc).2.1 (tl.ne c xs hc).2.2 hc
  have mE : ∀ c, c ∈ adE es ∨ c ∈ adS l1 ∨ c ∈ adS l2 → c ∈ (g :: dt :: ds :: (adE es ++ adS l1)) ++ adS l2 := fun c hc => by
    rcases hc with hc | hc | hc
    · exact List.mem_append_left _ (List.mem_cons_of_mem _ (List.mem_cons_of_mem _ (List.mem_cons_of_mem _ (List.mem_append_left _ hc))))
    · exact List.mem_append_left _ (List.mem_cons_of_mem _ (List.mem_cons_of_mem _ (List.mem_cons_of_mem _ (List.mem_append_right _ hc))))
    · exact List.mem_append_right _ hc
  have other : ∀ e' : EntS, (∀ c, c = e'.a ∨ c = e'.g ∨ c = e'.p → c ∈ (g :: dt :: ds :: (adE es ++ adS l1)) ++ adS l2) → StO CS H e'.a e'.g e'.p e'.s → StO CS H' e'.a e'.g e'.p e'.s := fun e' hm tl' => tl'.grow fun c u hc hu => by
    rcases hc with hc | hc | hc | ⟨xs, rfl⟩
    · exact keep c u (hm c (.inl hc)) hu
    · exact keep c u (hm c (.inr (.inl hc))) hu
    · exact keep c u (hm c (.inr (.inr hc))) hu
    · exact kt c xs hu
  have ek : kvS (l1 ++ { e with s := s } :: l2) = kvS (l1 ++ e :: l2) := by unfold kvS; rw [List.map_append, List.map_append, List.map_cons, List.map_cons]
  refine ⟨⟨dx, keep g _ (by simp) h1⟩, keep dt _ (by simp) h2, by rw [ek]; exact keep ds _ (by simp) h3, fun e' he' => ?_, fun e' he' => ?_, ?_, n1, ?_⟩
  · have i1 := in_adE he'
    refine (h4 e' he').grow fun c u hc hu => ?_
    rcases hc with rfl | rfl | rfl | ⟨xs, rfl⟩
    · exact keep _ u (mE _ (.inl i1.1)) hu
    · exact keep _ u (mE _ (.inl i1.2.1)) hu
    · exact keep _ u (mE _ (.inl i1.2.2)) hu
    · exact kt c xs hu
  · rcases List.mem_append.mp he' with hm | hm
    · have i1 := in_adS hm
      refine other e' (fun c hc => mE c (.inr (.inl ?_))) (h5 e' (List.mem_append_left _ hm))
      rcases hc with rfl | rfl | rfl
      · exact i1.1
      · exact i1.2.1
      · exact i1.2.2
    · rcases List.mem_cons.mp hm with rfl | hm
      · exact h
      · have i1 := in_adS hm
        refine other e' (fun c hc => mE c (.inr (.inr ?_))) (h5 e' (List.mem_append_right _ (List.mem_cons_of_mem _ hm)))
        rcases hc with rfl | rfl | rfl
        · exact i1.1
        · exact i1.2.1
        · exact i1.2.2
  · rw [adS_mid]; exact nd
  · rw [List.map_append, List.map_cons] at n2 ⊢; exact n2
theorem val_kvE : ∀ {l1 l2 : List Ent} {e : Ent}, ((l1 ++ e :: l2).map (·.name)).Nodup → valV (kvE (l1 ++ e :: l2)) (Sum.inr e.name) = some (.ref e.a)
  | [], l2, e, _ => valV_pos rfl
  | x :: l1, l2, e, nd => by
    rw [List.cons_append, List.map_cons, List.nodup_cons] at nd
    have ne : x.name ≠ e.name := fun z => nd.1 (z ▸ List.mem_map_of_mem (List.mem_append_right _ List.mem_cons_self))
    unfold kvE
    rw [List.cons_append, List.map_cons, valV_neg (fun z => ne (Sum.inr.inj z))]
    exact val_kvE nd.2
theorem val_kvS : ∀ {l1 l2 : List EntS} {e : EntS}, ((l1 ++ e :: l2).map (·.name)).Nodup → valV (kvS (l1 ++ e :: l2)) (Sum.inr e.name) = some (.ref e.a)
  | [], l2, e, _ => valV_pos rfl
  | x :: l1, l2, e, nd => by
    rw [List.cons_append, List.map_cons, List.nodup_cons] at nd
    have ne : x.name ≠ e.name := fun z => nd.1 (z ▸ List.mem_map_of_mem (List.mem_append_right _ List.mem_cons_self))
    unfold kvS
    rw [List.cons_append, List.map_cons, valV_neg (fun z => ne (Sum.inr.inj z))]
    exact val_kvS nd.2
/-! ### deeds at goods -/
theorem go_take {CG CT CS : Addr} {H : Hp} {g dt ds : Addr} {l1 l2 : List Ent} {e : Ent} {ss : List EntS} {h n : Int} {Kx : VK} {E : XK} (G : GoA CG CT CS H g dt ds (l1 ++ e :: l2) ss) (hh : h ∈ hs) (hq : e.t.que.length < 200) (k : ∀ H', FrG (adE (l1 ++ e :: l2)) H H' → GoA CG CT CS H' g dt ds (l1 ++ { e with t := (takeS e.t h n).2 } :: l2) ss → Kx (.bl (takeS e.t h n).1) H') : spTake CG CT [.ref g, .int h, .str e.name, .int n] H Kx E := by
  obtain ⟨⟨dx, h1⟩, h2, h3, h4, h5, nd, n1, n2⟩ := id G
  have me : e ∈ l1 ++ e :: l2 := List.mem_append_right _ List.mem_cons_self
  have i1 := in_adE me
  exact ⟨g, dx, dt, e.a, e.d, e.q, _, _, e.name, h, n, e.t, rfl, h1, h2, val_kvE n1, h4 e me, hh, hq, fun H' f t' => k H' (f.g i1.1 i1.2.1 i1.2.2) (G.tool f t')⟩
theorem go_give {CG CT CS : Addr} {H : Hp} {g dt ds : Addr} {l1 l2 : List Ent} {e : Ent} {ss : List EntS} {h n : Int} {Kx : VK} {E : XK} (G : GoA CG CT CS H g dt ds (l1 ++ e :: l2) ss) (hh : h ∈ hs) (k : ∀ H' p r sv, FrG (adE (l1 ++ e :: l2)) H H' → H r = none → H' p = some (.tup [.int (giv e.t h n), .ref r]) → H' r = some (.lst sv) → Svd "takes" H' sv (giveS e.t h n).1 → GoA CG CT CS H' g dt ds (l1 ++ { e with t := (giveS e.t h n).2 } :: l2) ss → Kx (.ref p) H') : spGive CG CT [.ref g, .int h, .str e.name, .int n] H Kx E := by
  obtain ⟨⟨dx, h1⟩, h2, h3, h4, h5, nd, n1, n2⟩ := id G
  have me : e ∈ l1 ++ e :: l2 := List.mem_append_right _ List.mem_cons_self
  have i1 := in_adE me
  exact ⟨g, dx, dt, e.a, e.d, e.q, _, _, e.name, h, n, e.t, rfl, h1, h2, val_kvE n1, h4 e me, hh, fun H' p r sv f hr hp hl sd t' => k H' p r sv (f.g i1.1 i1.2.1 i1.2.2) hr hp hl sd (G.tool f t')⟩
theorem go_put {CG CT CS : Addr} {H : Hp} {g dt ds : Addr} {es : List Ent} {l1 l2 : List EntS} {e : EntS} {h n : Int} {Kx : VK} {E : XK} (G : GoA CG CT CS H g dt ds es (l1 ++ e :: l2)) (hg : e.s.gets.length < 200) (hp : e.s.puts.length < 200) (k : ∀ H' p r sv b its s', FrG (adS (l1 ++ e :: l2)) H H' → H r = none → H' p = some (.tup [.bl b, .ref r]) → H' r = some (.lst sv) → Sv3 H' sv its → GoA CG CT CS H' g dt ds es (l1 ++ { e with s := s' } :: l2) → PutR e.s h n b its s' → Kx (.ref p) H') : spPut CG CS [.ref g, .int h, .str e.name, .int n] H Kx E := by
  obtain ⟨⟨dx, h1⟩, h2, h3, h4, h5, nd, n1, n2⟩ := id G
  have me : e ∈ l1 ++ e :: l2 := List.mem_append_right _ List.mem_cons_self
  have i1 := in_adS me
  exact ⟨g, dx, ds, e.a, e.g, e.p, _, _, e.name, h, n, e.s, rfl, h1, h3, val_kvS n2, h5 e me, hg, hp, fun H' p r sv b its s' f hr hp hl sd t' pr => k H' p r sv b its s' (f.g i1.1 i1.2.1 i1.2.2) hr hp hl sd (G.store f t') pr⟩
theorem go_get {CG CT CS : Addr} {H : Hp} {g dt ds : Addr} {es : List Ent} {l1 l2 : List EntS} {e : EntS} {h n : Int} {Kx : VK} {E : XK} (G : GoA CG CT CS H g dt ds es (l1 ++ e :: l2)) (hg : e.s.gets.length < 200) (hp : e.s.puts.length < 200) (k : ∀ H' p r sv b its s', FrG (adS (l1 ++ e :: l2)) H H' → H r = none → H' p = some (.tup [.bl b, .ref r]) → H' r = some (.lst sv) → Sv3 H' sv its → GoA CG CT CS H' g dt ds es (l1 ++ { e with s := s' } :: l2) → GetR e.s h n b its s' → Kx (.ref p) H') : spGet CG CS [.ref g, .int h, .str e.name, .int n] H Kx E := by
  obtain ⟨⟨dx, h1⟩, h2, h3, h4, h5, nd, n1, n2⟩ := id G
  have me : e ∈ l1 ++ e :: l2 := List.mem_append_right _ List.mem_cons_self
  have i1 := in_adS me
  exact ⟨g, dx, ds, e.a, e.g, e.p, _, _, e.name, h, n, e.s, rfl, h1, h3, val_kvS n2, h5 e me, hg, hp, fun H' p r sv b its s' f hr hp hl sd t' pr => k H' p r sv b its s' (f.g i1.1 i1.2.1 i1.2.2) hr hp hl sd (G.store f t') pr⟩
section
variable {P : Program} {w : World} {K : PySem.W.Frag} {mg : Str → Option Value} {base : Heap}
def brg (s : SS) (n : Int) : Int := if (if s.most - s.level < n then s.most - s.level else n) > 0 then (if s.most - s.level < n then s.most - s.level else n) else 0
def spBring (CG CS : Addr) : Sp := fun vs H Q _ => ∃ (g dx ds a gg pp : Addr) (x : V) (kv : List (Key × V)) (nm : Str) (n : Int) (s : SS), vs = [.ref g, .str nm, .int n] ∧ H g = some (.ins CG dx [("by_tool", x), ("by_store", .ref ds)]) ∧ H ds = some (.dK kv) ∧ valV kv (Sum.inr nm) = some (.ref a) ∧ StO CS H a gg pp s ∧
  ∀ (H' : Hp) (p r : Addr) (sv : List V) (b : Int) (its : List (Int × Bool × Int)) (s' : SS), Fr3 a gg pp H H' → H r = none → H' p = some (.tup [.int b, .ref r]) → H' r = some (.lst sv) → Sv3 H' sv its → StO CS H' a gg pp s' → b = brg s n → 0 ≤ b → (b ≤ n ∨ b = 0) → (b ≤ s.most - s.level ∨ b = 0) → Sbt ⟨s.level + b, s.most, s.gets, s.puts⟩ its s' → Q (.ref p) H'
theorem ok_bring {CG CS : Addr} (D : MethAt K CG "bring" "Goods.bring" s_Goods_bring ["self", "name", "n"]) (CL_Goods : Cls K CG) (N_Goods_by_store : NoAttr K CG "by_store") (CL_Store : Cls K CS) (N_Store_level : NoAttr K CS "level") (N_Store_most : NoAttr K CS "most") (G_serve_by_turns : OkD P w K mg base 1 "serve_by_turns" ["store"] (spTurns CS)) (hmin : mg "min" = none) (hmax : mg "max" = none) : OkM P w K mg base 2 CG "bring" ["self", "name", "n"] (spBring CG CS) := by
  refine D.ok CL_Goods sc_Goods_bring (fun vs H Q E h => ?_) (fun f cdv A outer s H vs Q E hr h => ?_)
  · obtain ⟨_, _, _, _, _, _, _, _, _, _, _, rfl, _⟩ := h; rfl
  obtain ⟨g, dx, ds, a, gg, pp, x, kv, nm, n, ss, rfl, e1, e2, e3, tl, q⟩ := h
  have hu := hu_of hr
  obtain ⟨dx', gs, ps, k1, k2, k3, k4, k5, k6, k7, k8⟩ := id tl
  have nag : gg ≠ a := fun z => by rw [z, k1] at k2; cases k2
  have nap : pp ≠ a := fun z => by rw [z, k1] at k4; cases k4
  refine ⟨_, (pss_cons (ps_set (i := 3) sc_Goods_bring.nd rfl (Or.inl rfl) (pe_dgetG hu (pe_fldG CL_Goods N_Goods_by_store (pv 0)) (pv 1) (fun _ _ => rfl)))
  (pss_cons (ps_set (i := 4) sc_Goods_bring.nd rfl (Or.inl rfl) (pe_cB (call_max2 rfl) rfl hmax (by decide +kernel) (pa_c pe_int (pa_c (pe_cB (call_min2 rfl) rfl hmin (by decide +kernel) (pa_c (pv 2) (pa_c (pe_op op_sub (pe_fldG CL_Store N_Store_most (pv 3)) (pe_fldG CL_Store N_Store_level (pv 3))) pa_nil))) pa_nil))))
  (pss_cons (ps_fldG CL_Store N_Store_level (pv 3) (pe_op op_add (pe_fldG CL_Store N_Store_level (pv 3)) (pv 4)))
  (pss_one (ps_ret (pe_tupG (pa_c (pv 4) (pa_c (pe_def G_serve_by_turns hr rfl (pa_c (pv 3) pa_nil)) pa_nil)))))))), ?_⟩
  walk_at "rd"
  have hb : ∃ b : Int, (if (if ss.most - ss.level < n then ss.most - ss.level else n) > 0 then (if ss.most - ss.level < n then ss.most - ss.level else n) else 0) = b ∧ 0 ≤ b ∧ (b ≤ n ∨ b = 0) ∧ (b ≤ ss.most - ss.level ∨ b = 0) := by
    refine ⟨_, rfl, ?_, ?_, ?_⟩ <;> split <;> (try split) <;> omega
  obtain ⟨b, eb, b0, b1, b2⟩ := hb
  rw [eb]
  intro H1 m1
  have kt : ∀ c xs, H c = some (.tup xs) → H1 c = some (.tup xs) := fun c xs hc => m1.old hc (tl.ne c xs hc).1
  have t1 : StO CS H1 a gg pp ⟨ss.level + b, ss.most, ss.gets, ss.puts⟩ := ⟨dx', gs, ps, m1.at_, m1.old k2 nag, k3.mono kt, m1.old k4 nap, k5.mono kt, k6, k7, k8⟩
  refine ⟨a, gg, pp, ⟨ss.level + b, ss.most, ss.gets, ss.puts⟩, rfl, t1, fun r H2 sv its s' hr2 f2 h2 sd t2 sb => ?_⟩
  intro p H3 hp g3 h3
  have nra : r ≠ a := (ne_of_none m1.at_ hr2).symm
  have hr0 : H r = none := by rw [← m1.else_ r nra]; exact hr2
  exact q H3 p r sv b its s' (fun c u n1 n2 n3 hc => g3 _ _ (f2 c u n1 n2 n3 (m1.old hc n1))) hr0 h3 (g3 _ _ h2) (sd.mono fun c xs hc => g3 _ _ hc) (t2.same g3) (by unfold brg; exact eb.symm) b0 b1 b2 sb
theorem go_bring {CG CT CS : Addr} {H : Hp} {g dt ds : Addr} {es : List Ent} {l1 l2 : List EntS} {e : EntS} {n : Int} {Kx : VK} {E : XK} (G : GoA CG CT CS H g dt ds es (l1 ++ e :: l2)) (k : ∀ H' p r sv b its s', FrG (adS (l1 ++ e :: l2)) H H' → H r = none → H' p = some (.tup [.int b, .ref r]) → H' r = some (.lst sv) → Sv3 H' sv its → GoA CG CT CS H' g dt ds es (l1 ++ { e with s := s' } :: l2) → b = brg e.s n → 0 ≤ b → (b ≤ n ∨ b = 0) → (b ≤ e.s.most - e.s.level ∨ b = 0) → Sbt ⟨e.s.level + b, e.s.most, e.s.gets, e.s.puts⟩ its s' → Kx (.ref p) H') : spBring CG CS [.ref g, .str e.name, .int n] H Kx E := by
  obtain ⟨⟨dx, h1⟩, h2, h3, h4, h5, nd, n1, n2⟩ := id G
  have me : e ∈ l1 ++ e :: l2 := List.mem_append_right _ List.mem_cons_self
  have i1 := in_adS me
  exact ⟨g, dx, ds, e.a, e.g, e.p, _, _, e.name, n, e.s, rfl, h1, h3, val_kvS n2, h5 e me, fun H' p r sv b its s' f hr hp hl sd t' eb b0 b1 b2 pr => k H' p r sv b its s' (f.g i1.1 i1.2.1 i1.2.2) hr hp hl sd (G.store f t') eb b0 b1 b2 pr⟩
end
end K23

set_option Elab.async false
set_option linter.all false
set_option maxRecDepth 100000
set_option maxHeartbeats 4000000
namespace K23
open PySem L2
/-! ### one leaves -/
def lv1 (h : Int) (e : Ent) : Ent := if 0 < getI e.t.held h then { e with t := (giveS e.t h (getI e.t.held h)).2 } else e
def lvI (h : Int) (e : Ent) : Option (Str × Int × List (Int × Int)) := if 0 < getI e.t.held h then some (e.name, getI e.t.held h, (giveS e.t h (getI e.t.held h)).1) else none
theorem lv1_name {h : Int} {e : Ent} : (lv1 h e).name = e.name ∧ (lv1 h e).a = e.a ∧ (lv1 h e).d = e.d ∧ (lv1 h e).q = e.q ∧ (lv1 h e).c = e.c := by
  unfold lv1
  split <;> exact ⟨rfl, rfl, rfl, rfl, rfl⟩
theorem giv_self {t : TS} {h : Int} : giv t h (getI t.held h) = getI t.held h := by unfold giv; split <;> rfl
/-- what is told of it: b are the places that may change -/
inductive LvL (bad : List Addr) (H0 H : Hp) : List V → List (Str × Int × List (Int × Int)) → Prop
  | nil : LvL bad H0 H [] []
  | cons {p r : Addr} {nm : Str} {b : Int} {sv vs : List V} {its : List (Int × Int)} {l : List (Str × Int × List (Int × Int))} : H p = some (.tup [.str nm, .int b, .ref r]) → H r = some (.lst sv) → r ∉ bad → H0 r = none → Svd "takes" H sv its → LvL bad H0 H vs l → LvL bad H0 H (.ref p :: vs) ((nm, b, its) :: l)
theorem LvL.mono {bad : List Addr} {H0 H H' : Hp} (g : ∀ c xs, H c = some (.tup xs) → H' c = some (.tup xs)) (g2 : ∀ c xs, c ∉ bad → H c = some (.lst xs) → H' c = some (.lst xs)) {vs : List V} {l : List (Str × Int × List (Int × Int))} (t : LvL bad H0 H vs l) : LvL bad H0 H' vs l := by
  induction t with
  | nil => exact .nil
  | cons h1 h2 h3 h0 h4 _ ih => exact .cons (g _ _ h1) (g2 _ _ h3 h2) h3 h0 (h4.mono g) ih
theorem LvL.snoc {bad : List Addr} {H0 H : Hp} {p r : Addr} {nm : Str} {b : Int} {sv : List V} {its : List (Int × Int)} (h1 : H p = some (.tup [.str nm, .int b, .ref r])) (h2 : H r = some (.lst sv)) (h3 : r ∉ bad) (h0 : H0 r = none) (h4 : Svd "takes" H sv its) : ∀ {vs : List V} {l : List (Str × Int × List (Int × Int))}, LvL bad H0 H vs l → LvL bad H0 H (vs ++ [.ref p]) (l ++ [(nm, b, its)])
  | _, _, .nil => .cons h1 h2 h3 h0 h4 .nil
  | _, _, .cons k1 k2 k3 k0 k4 r => .cons k1 k2 k3 k0 k4 (r.snoc h1 h2 h3 h0 h4)
theorem LvL.length {bad : List Addr} {H0 H : Hp} : ∀ {vs : List V} {l : List (Str × Int × List (Int × Int))}, LvL bad H0 H vs l → vs.length = l.length
  | _, _, .nil => rfl
  | _, _, .cons _ _ _ _ _ r => by rw [List.length_cons, List.length_cons, r.length]
theorem GoA.kt {CG CT CS : Addr} {H H' : Hp} {g dt ds : Addr} {es : List Ent} {ss : List EntS} (G : GoA CG CT CS H g dt ds es ss) (f : FrG (adE es) H H') : ∀ c xs, H c = some (.tup xs) → H' c = some (.tup xs) := fun c xs hc => f c _ (fun z => by
  obtain ⟨_, _, _, h4, _⟩ := G
  obtain ⟨e, he, z⟩ := adE_mem z
  have := (h4 e he).ne c xs hc
  rcases z with rfl | rfl | rfl
  · exact this.1 rfl
  · exact this.2.1 rfl
  · exact this.2.2 rfl) hc
theorem GoA.has {CG CT CS : Addr} {H : Hp} {g dt ds : Addr} {es : List Ent} {ss : List EntS} (G : GoA CG CT CS H g dt ds es ss) : ∀ c ∈ g :: dt :: ds :: (adE es ++ adS ss), ∃ u, H c = some u := fun c hc => by
  obtain ⟨⟨dx, h1⟩, h2, h3, h4, h5, _⟩ := G
  rcases List.mem_cons.mp hc with rfl | hc
  · exact ⟨_, h1⟩
  rcases List.mem_cons.mp hc with rfl | hc
  · exact ⟨_, h2⟩
  rcases List.mem_cons.mp hc with rfl | hc
  · exact ⟨_, h3⟩
  rcases List.mem_append.mp hc with hc | hc
  · exact adE_has h4 c hc
  · exact adS_has h5 c hc
theorem GoA.grow {CG CT CS : Addr} {H H' : Hp} {g dt ds : Addr} {es : List Ent} {ss : List EntS} (G : GoA CG CT CS H g dt ds es ss) (k : ∀ c u, (c ∈ g :: dt :: ds :: (adE es ++ adS ss) ∨ ∃ xs, u = HO.tup xs) → H c = some u → H' c = some u) : GoA CG CT CS H' g dt ds es ss := by
  obtain ⟨⟨dx, h1⟩, h2, h3, h4, h5, h6⟩ := G
  have mE : ∀ {c}, c ∈ adE es → c ∈ g :: dt :: ds :: (adE es ++ adS ss) := fun h => List.mem_cons_of_mem _ (List.mem_cons_of_mem _ (List.mem_cons_of_mem _ (List.mem_append_left _ h)))
  have mS : ∀ {c}, c ∈ adS ss → c ∈ g :: dt :: ds :: (adE es ++ adS ss) := fun h => List.mem_cons_of_mem _ (List.mem_cons_of_mem _ (List.mem_cons_of_mem _ (List.mem_append_right _ h)))
  refine ⟨⟨dx, k _ _ (.inl (by simp)) h1⟩, k _ _ (.inl (by simp)) h2, k _ _ (.inl (by simp)) h3, fun e he => (h4 e he).grow fun c u hc hu => k c u ?_ hu, fun e he => (h5 e he).grow fun c u hc hu => k c u ?_ hu, h6⟩
  · have i1 := in_adE he
    rcases hc with rfl | rfl | rfl | hc
    · exact .inl (mE i1.1)
    · exact .inl (mE i1.2.1)
    · exact .inl (mE i1.2.2)
    · exact .inr hc
  · have i1 := in_adS he
    rcases hc with rfl | rfl | rfl | hc
    · exact .inl (mS i1.1)
    · exact .inl (mS i1.2.1)
    · exact .inl (mS i1.2.2)
    · exact .inr hc
theorem adE_map {h : Int} : ∀ es : List Ent, adE (es.map (lv1 h)) = adE es
  | [] => rfl
  | e :: es => by
    obtain ⟨_, h1, h2, h3, _⟩ := lv1_name (h := h) (e := e)
    have := adE_map (h := h) es
    unfold adE at this ⊢
    rw [List.map_cons, List.flatMap_cons, List.flatMap_cons, this, h1, h2, h3]
theorem adE_app {l1 l2 : List Ent} : adE (l1 ++ l2) = adE l1 ++ adE l2 := by unfold adE; rw [List.flatMap_append]
section
variable {P : Program} {w : World} {K : PySem.W.Frag} {mg : Str → Option Value} {base : Heap}
def LeI (CG CT CS g dt ds lf : Addr) (h : Int) (es : List Ent) (ss : List EntS) (H : Hp) (i : Nat) (σ : St) (H' : Hp) : Prop := ∃ (vs : List V) (v3 v4 v5 v6 : Option V), σ = [some (.ref g), some (.int h), some (.ref lf), v3, v4, v5, v6] ∧ FrG (adE es) H H' ∧ GoA CG CT CS H' g dt ds ((es.take i).map (lv1 h) ++ es.drop i) ss ∧ H' lf = some (.lst vs) ∧ LvL (lf :: adE es) H H' vs ((es.take i).filterMap (lvI h))
def spLeave (CG CT CS : Addr) : Sp := fun vs H Q _ => ∃ (g dt ds : Addr) (es : List Ent) (ss : List EntS) (h : Int), vs = [.ref g, .int h] ∧ GoA CG CT CS H g dt ds es ss ∧ h ∈ hs ∧ es.length ≤ 10 ∧
  ∀ (H' : Hp) (lf : Addr) (vs : List V), FrG (adE es) H H' → H lf = none → GoA CG CT CS H' g dt ds (es.map (lv1 h)) ss → H' lf = some (.lst vs) → LvL (lf :: adE es) H H' vs (es.filterMap (lvI h)) → Q (.ref lf) H'
theorem ok_leave {CG CT CS : Addr} (D : MethAt K CG "leave" "Goods.leave" s_Goods_leave ["self", "hand"]) (CL_Goods : Cls K CG) (N_Goods_by_tool : NoAttr K CG "by_tool") (CL_Tool : Cls K CT) (N_Tool_held : NoAttr K CT "held") (G_Goods_give : OkM P w K mg base 3 CG "give" ["self", "hand", "name", "n"] (spGive CG CT)) (hlist : mg "list" = none) : OkM P w K mg base 4 CG "leave" ["self", "hand"] (spLeave CG CT CS) := by
  refine D.ok CL_Goods sc_Goods_leave (fun vs H Q E h => ?_) (fun f cdv A outer s H vs Q E hr h => ?_)
  · obtain ⟨_, _, _, _, _, _, rfl, _⟩ := h; rfl
  obtain ⟨g, dt, ds, es, ss, h, rfl, G, hh, le, q⟩ := h
  have hu := hu_of hr
  have big : 100000 ≤ sizeLine := by unfold sizeLine; decide
  refine ⟨_, (pss_cons (ps_set (i := 2) sc_Goods_leave.nd rfl (Or.inl rfl) (pe_lstG pa_nil))
  (pss_cons (ps_for PassesOwn.never rfl (pi_list (pe_cTy call_listK rfl hlist (by decide +kernel) (pa_c (pe_fldG CL_Goods N_Goods_by_tool (pv 0)) pa_nil))) (pg_name (i := 3) sc_Goods_leave.nd rfl (Or.inl rfl))
  (pss_cons (ps_set (i := 4) sc_Goods_leave.nd rfl (Or.inl rfl) (pe_dgetDG hu (pe_fldG CL_Tool N_Tool_held (pe_dgetG hu (pe_fldG CL_Goods N_Goods_by_tool (pv 0)) (pv 3) (fun _ _ => rfl))) (pv 1) pe_int ⟨rfl, rfl, rfl, rfl⟩))
  (pss_one (ps_if (pt_cmpR op_gt (pv 4) pe_int (nomark _))
  (pss_cons (ps_asg (pe_methG G_Goods_give hr (pv 0) (pa_c (pv 1) (pa_c (pv 3) (pa_c (pv 4) pa_nil)))) (pg_tupG 2 rfl (pgs_cons (pg_name (i := 5) sc_Goods_leave.nd rfl (Or.inl rfl)) (pgs_cons (pg_name (i := 6) sc_Goods_leave.nd rfl (Or.inl rfl)) pgs_nil))))
  (pss_one (ps_expr (pe_appG (pv 2) (pe_tupG (pa_c (pv 3) (pa_c (pv 5) (pa_c (pv 6) pa_nil))))))))
  pss_nil))))
  (pss_one (ps_ret (pv 2))))), ?_⟩
  walk_at "rd"
  intro lf H1 hlf g1 h1
  have G1 := G.same g1
  obtain ⟨⟨dx, e1⟩, e2, _⟩ := id G1
  refine tfor_in ?_
  simp only [iList]
  walk_at "rd"
  have lk : (kvE es).length = es.length := by unfold kvE; rw [List.length_map]
  refine ⟨by omega, fun l H2 hl g2 h2 => ?_⟩
  have ek : (kvE es).map (fun kv => kV kv.1) = es.map (fun e => V.str e.name) := by
    unfold kvE
    rw [List.map_map]
    rfl
  rw [ek] at h2
  clear e1 e2
  refine ⟨⟨_, SqL.of h2⟩, ?_⟩
  have G2 := G1.same g2
  have nlE : ∀ {c : Addr}, H1 c = none → c ∉ adE es := fun {c} hc z => by
    obtain ⟨_, _, _, h4, _⟩ := G1
    obtain ⟨u, hu⟩ := adE_has h4 c z
    rw [hc] at hu; cases hu
  have nlfE : lf ∉ adE es := fun z => by
    obtain ⟨_, _, _, h4, _⟩ := G
    obtain ⟨u, hu⟩ := adE_has h4 lf z
    rw [hlf] at hu; cases hu
  have nll : l ≠ lf := (ne_of_none h1 hl).symm
  refine for_list (xs := es.map (fun e => V.str e.name)) (fun i σ H' => LeI CG CT CS g dt ds lf h es ss H i σ H' ∧ H' l = some (.lst (es.map fun e => V.str e.name))) ?_ ?_ ?_ ?_
  · refine ⟨?_, h2⟩
    unfold LeI
    exact ⟨[], _, _, _, _, rfl, fun c u _ hc => g2 _ _ (g1 _ _ hc), G2, g2 _ _ h1, .nil⟩
  · rintro i σ H3 hi ⟨_, h3⟩
    exact SqL.of h3
  · rintro i x σ H3 hx ⟨z, h3⟩
    unfold LeI at z
    obtain ⟨vs, v3, v4, v5, v6, rfl, f3, G3, hv3, lv3⟩ := z
    obtain ⟨e, he, rfl⟩ : ∃ e, es[i]? = some e ∧ V.str e.name = x := by
      rw [List.getElem?_map] at hx
      cases z : es[i]? with
      | none => rw [z] at hx; cases hx
      | some e => rw [z] at hx; cases hx; exact ⟨e, rfl, rfl⟩
    have hi : i < es.length := (List.getElem?_eq_some_iff.mp he).1
    have ed : es.drop i = e :: es.drop (i + 1) := by
      obtain ⟨l, e'⟩ := List.getElem?_eq_some_iff.mp he
      rw [← e']
      exact List.drop_eq_getElem_cons l
    rw [ed] at G3
    obtain ⟨⟨dx, e1⟩, e2, _, e4, _, _, n1, _⟩ := id G3
    have me : e ∈ (es.take i).map (lv1 h) ++ e :: es.drop (i + 1) := List.mem_append_right _ List.mem_cons_self
    have vE := val_kvE n1
    obtain ⟨dx', qs', k1, k2, k3, k4, k5, k6, k7⟩ := id (e4 e me)
    clear h1 h2
    walk_at "rd"
    rw [hk_get]
    have ea : adE ((es.take i).map (lv1 h) ++ e :: es.drop (i + 1)) = adE es := by
      rw [adE_app, adE_map, ← ed, ← adE_app, List.take_append_drop]
    have et : (es.take (i + 1)).map (lv1 h) ++ es.drop (i + 1) = (es.take i).map (lv1 h) ++ lv1 h e :: es.drop (i + 1) := by
      rw [take_snoc he, List.map_append, List.append_assoc]; rfl
    have ef : (es.take (i + 1)).filterMap (lvI h) = (es.take i).filterMap (lvI h) ++ (lvI h e).toList := by
      rw [take_snoc he, List.filterMap_append]
      congr 1
    refine ⟨⟨_, rfl⟩, _, rfl, ite2 (fun c => ?_) fun c => ?_⟩
    · refine go_give G3 hh fun H4 pr r sv f4 hr4 h4 hl4 sd4 G4 => ?_
      have kt4 := G3.kt f4
      rw [ea] at f4
      rw [giv_self] at h4
      have hv4 := f4 lf _ nlfE hv3
      have lv := lv3.length
      have lf2 := List.length_filterMap_le (lvI h) (es.take i)
      rw [List.length_take] at lf2
      refine ⟨pr, rfl, _, h4, rfl, _, _, rfl, _, _, rfl, rfl, vs, hv4, fun p5 H5 hp5 g5 h5 => ⟨vs, g5 _ _ hv4, by omega, fun H6 mu => ⟨?_, ?_⟩⟩⟩
      · unfold LeI
        have nr : r ∉ lf :: adE es := fun z => by
          rcases List.mem_cons.mp z with z | z
          · rw [z, hv3] at hr4; cases hr4
          · rw [← ea] at z
            obtain ⟨u, hu⟩ := adE_has e4 r z
            rw [hr4] at hu; cases hu
        have nr0 : H r = none := by
          cases z : H r with
          | none => rfl
          | some u => rw [f3 r u (fun y => nr (List.mem_cons_of_mem _ y)) z] at hr4; cases hr4
        have np5 : p5 ≠ lf := (ne_of_none hv4 hp5).symm
        have S35 : ∀ c xs, H3 c = some (.tup xs) → H5 c = some (.tup xs) := fun c xs hc => g5 _ _ (kt4 c xs hc)
        refine ⟨vs ++ [.ref p5], _, _, _, _, rfl, fun c u nc hc => mu.old (g5 _ _ (f4 c u nc (f3 c u nc hc))) (ne_of_none hc hlf), ?_, mu.at_, ?_⟩
        · rw [et]
          have e1 : lv1 h e = { e with t := (giveS e.t h (getI e.t.held h)).2 } := by unfold lv1; rw [if_pos c]
          rw [e1]
          refine (G4.same g5).grow fun c u hc hu => mu.old hu (fun z => ?_)
          rcases hc with hc | ⟨xs, rfl⟩
          · have ad : adE ((es.take i).map (lv1 h) ++ { e with t := (giveS e.t h (getI e.t.held h)).2 } :: es.drop (i + 1)) = adE es := by rw [adE_mid, ← ea, adE_mid]
            rw [ad] at hc
            obtain ⟨u0, hu0⟩ := G.has c hc
            rw [z, hlf] at hu0; cases hu0
          · rw [z, g5 _ _ hv4] at hu; cases hu
        · rw [ef]
          have e2 : lvI h e = some (e.name, getI e.t.held h, (giveS e.t h (getI e.t.held h)).1) := by unfold lvI; rw [if_pos c]
          rw [e2]
          refine LvL.mono (fun c xs hc => mu.old hc (fun z => by rw [z, g5 _ _ hv4] at hc; cases hc)) (fun c xs nc hc => mu.old hc (fun z => nc (by rw [z]; exact List.mem_cons_self))) (LvL.snoc h5 (g5 _ _ hl4) nr nr0 (sd4.mono fun c xs hc => g5 _ _ hc) (lv3.mono S35 fun c xs nc hc => g5 _ _ (f4 c _ (fun z => nc (List.mem_cons_of_mem _ z)) hc)))
      · exact mu.old (g5 _ _ (f4 l _ (nlE hl) h3)) nll
    · unfold LeI
      refine ⟨vs, _, _, _, _, rfl, f3, ?_, hv3, ?_⟩
      · rw [et]
        have e1 : lv1 h e = e := by unfold lv1; rw [if_neg c]
        rw [e1]
        exact G3
      · rw [ef]
        have e2 : lvI h e = none := by unfold lvI; rw [if_neg c]
        rw [e2]
        show LvL _ _ _ _ (_ ++ [])
        rw [List.append_nil]
        exact lv3
  · rintro σ H3 ⟨z, h3⟩
    unfold LeI at z
    obtain ⟨vs, v3, v4, v5, v6, rfl, f3, G3, hv3, lv3⟩ := z
    rw [List.length_map, List.take_of_length_le (Nat.le_refl _), List.drop_of_length_le (Nat.le_refl _), List.append_nil] at G3
    rw [List.length_map, List.take_of_length_le (Nat.le_refl _)] at lv3
    clear h1 h2
    walk_at "rd"
    try exact q H3 lf vs f3 hlf G3 hv3 lv3
end
end K23

set_option Elab.async false
set_option linter.all false
set_option maxRecDepth 100000
set_option maxHeartbeats 4000000
namespace K23
open PySem L2
theorem FrG.old {cs : List Addr} {H H' : Hp} (f : FrG cs H H') {c : Addr} {u : HO} (h : H c = some u) (n : c ∉ cs) : H' c = some u := f c u n h
/-- the deck: the cells and where one is -/
def Dk (H : Hp) (dk sp : Addr) (k : Int) : Prop := ∃ (ns : List Int) (at_ : Int), H dk = some (.lst [.ref sp, .int at_]) ∧ H sp = some (.lst (ns.map V.int)) ∧ (0 ≤ at_ ∧ at_ ≤ k) ∧ ns.length ≤ 63
theorem Dk.mono {H : Hp} {dk sp : Addr} {k k' : Int} (h : Dk H dk sp k) (l : k ≤ k') : Dk H dk sp k' := by
  obtain ⟨ns, a, h1, h2, ⟨h3, h4⟩, h5⟩ := h
  exact ⟨ns, a, h1, h2, ⟨h3, by omega⟩, h5⟩
theorem Dk.same {H H' : Hp} {dk sp : Addr} {k : Int} (g : Same H H') (h : Dk H dk sp k) : Dk H' dk sp k := by
  obtain ⟨ns, a, h1, h2, h3⟩ := h
  exact ⟨ns, a, g _ _ h1, g _ _ h2, h3⟩
theorem shaped_ints (ns : List Int) : SeqAt.shaped (.list (ns.map PyData.int)) = true := by
  unfold SeqAt.shaped
  have e : ∀ ns : List Int, PyData.canLayAll0 (ns.map PyData.int) = true := fun ns => by
    induction ns with
    | nil => rfl
    | cons n ns ih => rw [List.map_cons, PyData.canLayAll0, ih]; rfl
  have d : ∀ ns : List Int, PyData.depthAll (ns.map PyData.int) ≤ 1 := fun ns => by
    induction ns with
    | nil => simp [PyData.depthAll]
    | cons n ns ih => simp only [List.map_cons, PyData.depthAll, PyData.depth] at ih ⊢; omega
  have e1 : PyData.canLay0 (.list (ns.map PyData.int)) = true := by
    simp only [PyData.canLay0]
    exact e ns
  have d1 := d ns
  rw [e1, Bool.true_and, decide_eq_true_eq]
  simp only [PyData.depth]
  omega
theorem rp_ints {K : PySem.W.Frag} {H : Hp} : ∀ ns : List Int, RpL K H (ns.map V.int) (ns.map PyData.int)
  | [] => .nil
  | n :: ns => .cons (.int n) (rp_ints ns)
theorem eqv_nil {ds : List PyData} : PyData.eqv (.list ds) (.list []) = ds.isEmpty := by
  cases ds with
  | nil => decide
  | cons d ds => simp [PyData.eqv, PyData.eqvAll]
theorem ne_nil {K : PySem.W.Frag} {H : Hp} {a p : Addr} {xs : List V} {ds : List PyData} {Kx : VK} (ha : H a = some (.lst xs)) (r : RpL K H xs ds) (sh : SeqAt.shaped (.list ds) = true) (hp : H p = some (.lst [])) (k : Kx (.bl (!xs.isEmpty)) H) : rNeD K (.ref a) (.ref p) H Kx := by
  refine ⟨.list ds, .list [], .lst ha r, .lst hp .nil, sh, by decide, ?_⟩
  rw [eqv_nil]
  have : ds.isEmpty = xs.isEmpty := by cases r <;> rfl
  rw [this]
  exact k
theorem bnd {y b : Int} (h0 : 0 ≤ y) (h1 : y < b) (hb : b ≤ 18446744073709551616) : -18446744073709551616 < y ∧ y < 18446744073709551616 := ⟨by omega, by omega⟩
theorem bnd5 {y k : Int} (h0 : 0 ≤ y) (h1 : y ≤ k) (hk : k ≤ 1000000) : -18446744073709551616 < 51437 * (y + 1) ∧ 51437 * (y + 1) < 18446744073709551616 := ⟨by omega, by omega⟩
section
variable {P : Program} {w : World} {K : PySem.W.Frag} {mg : Str → Option Value} {base : Heap}
def spNx : Sp := fun vs H Q _ => ∃ (dk sp : Addr) (k : Int), vs = [.ref dk] ∧ Dk H dk sp k ∧ k ≤ 1000000 ∧ ∀ (m : Int) (H' : Hp), 0 ≤ m → FrG [dk] H H' → Dk H' dk sp (k + 1) → Q (.int m) H'
theorem ok_nx (D : DefAt K mg "_law_next" s__law_next ["deck"]) (hlen : mg "len" = none) (hmax : mg "max" = none) (hmin : mg "min" = none) (hrange : mg "range" = none) : OkD P w K mg base 1 "_law_next" ["deck"] spNx := by
  refine D.ok sc__law_next (fun vs H Q E h => ?_) (fun f cdv A outer s H vs Q E hr h => ?_)
  · obtain ⟨_, _, _, rfl, _⟩ := h; rfl
  obtain ⟨dk, sp, k, rfl, ⟨ns, at_, h1, h2, ⟨h0, h01⟩, h63⟩, hk, q⟩ := h
  have hu := hu_of hr
  have hu64 := hr.units
  have big : 100000 ≤ sizeLine := by unfold sizeLine; decide
  have nsd : sp ≠ dk := fun z => by
    rw [z, h1] at h2
    have h3 := HO.lst.inj (Option.some.inj h2)
    cases ns with
    | nil => cases h3
    | cons n ns => rw [List.map_cons] at h3; cases h3
  refine ⟨_, (pss_cons (ps_set (i := 1) sc__law_next.nd rfl (Or.inl rfl) (pe_ix ix_g (pv 0) pe_int (fun _ _ => rfl)))
  (pss_cons (ps_asg (pe_op op_add (pv 1) pe_int) (pg_sub (pv 0) pe_int set_listG))
  (pss_cons (ps_set (i := 2) sc__law_next.nd rfl (Or.inl rfl) (pe_cB (call_max2 rfl) rfl hmax (by decide +kernel) (pa_c pe_int (pa_c (pe_cB call_len_seq rfl hlen PySem.boot_len (pa_c (pe_ix ix_g (pv 0) pe_int (fun _ _ => rfl)) pa_nil)) pa_nil))))
  (pss_cons (ps_set (i := 3) sc__law_next.nd rfl (Or.inl rfl) pe_int)
  (pss_cons (ps_if (pt_cmpR (op_neD hu64) (pe_ix ix_g (pv 0) pe_int (fun _ _ => rfl)) (pe_lstG pa_nil) (nomark _))
  (pss_one (ps_set (i := 3) sc__law_next.nd rfl (Or.inl rfl) (pe_ix ix_g (pe_ix ix_g (pv 0) pe_int (fun _ _ => rfl)) (pe_op op_mod (pv 1) (pv 2)) (fun _ _ => rfl))))
  pss_nil)
  (pss_cons (ps_if (pt_cmpR op_ge (pv 3) (pe_op op_pow pe_int pe_int) (nomark _))
  (pss_cons (ps_for PassesOwn.never rfl (pi_range1 rfl hrange (pa_c (pe_cB (call_min2 rfl) rfl hmin (by decide +kernel) (pa_c pe_int (pa_c (pe_op op_fdiv (pv 1) (pv 2)) pa_nil))) pa_nil)) (pg_name (i := 4) sc__law_next.nd rfl (Or.inl rfl))
  (pss_one (ps_set (i := 3) sc__law_next.nd rfl (Or.inl rfl) (pe_op op_fdiv (pv 3) pe_int))))
  (pss_one (ps_ret (pe_op op_mod (pv 3) pe_int))))
  pss_nil)
  (pss_cons (ps_set (i := 5) sc__law_next.nd rfl (Or.inl rfl) (pe_op op_mod (pe_op op_add (pe_op op_add (pe_op op_mod (pv 3) pe_int) (pe_op op_mul (pe_op op_mul pe_int (pe_op op_add (pv 1) pe_int)) (pe_op op_add (pv 1) pe_int))) pe_int) pe_int))
  (pss_cons (ps_set (i := 5) sc__law_next.nd rfl (Or.inl rfl) (pe_op op_mod (pe_op op_mul (pv 5) (pv 5)) pe_int))
  (pss_cons (ps_set (i := 5) sc__law_next.nd rfl (Or.inl rfl) (pe_op op_mod (pe_op op_add (pe_op op_add (pe_op op_mul (pv 5) pe_int) (pe_op op_mul pe_int (pv 1))) pe_int) pe_int))
  (pss_one (ps_ret (pe_op op_fdiv (pe_op op_mod (pe_op op_mul (pv 5) (pv 5)) pe_int) pe_int)))))))))))), ?_⟩
  walk_at "rz"
  refine ⟨1, rfl, fun H1 m1 => ?_⟩
  have d1 : H1 dk = some (.lst [.ref sp, .int (at_ + 1)]) := m1.at_
  have s1 := m1.old h2 nsd
  have fin : ∀ (m : Int) (H' : Hp), 0 ≤ m → Same H1 H' → Q (.int m) H' := fun m H' hm g => q m H' hm (fun c u nc hc => g _ _ (m1.old hc (fun z => nc (by rw [z]; exact List.mem_singleton_self _)))) ⟨ns, at_ + 1, g _ _ d1, g _ _ s1, ⟨by omega, by omega⟩, h63⟩
  clear h1 h2
  walk_at "rz"
  refine ⟨_, .inl (SqL.of s1), ?_⟩
  walk_at "rz"
  intro p2 H2 hp2 g2 h2
  refine ne_nil (g2 _ _ s1) (rp_ints ns) (shaped_ints ns) h2 ?_
  have d2 := g2 _ _ d1
  have s2 := g2 _ _ s1
  clear d1 s1
  walk_at "rz"
  have num : ∀ i : Int, ∃ y : Int, (((i % 2147483629 + 51437 * (at_ + 1) * (at_ + 3) + 1409) % 2147483629) = y) ∧ 0 ≤ y ∧ y < 2147483629 := fun i => ⟨_, rfl, Int.emod_nonneg _ (by decide), Int.emod_lt_of_pos _ (by decide)⟩
  have num2 : ∀ z : Int, ∃ y : Int, z % 2147483579 = y ∧ 0 ≤ y ∧ y < 2147483579 := fun i => ⟨_, rfl, Int.emod_nonneg _ (by decide), Int.emod_lt_of_pos _ (by decide)⟩
  refine ite2 (fun c => ?_) fun c => ?_
  · walk_at "rz"
    have c0 : 0 < ns.length := by
      cases ns with
      | nil => simp at c
      | cons n ns => simp
    have lm : (ns.map V.int).length = ns.length := List.length_map _
    rw [lm]
    generalize hm : (if (ns.length : Int) > 1 then (ns.length : Int) else 1) = many
    have m0 : 0 < many ∧ many ≤ ns.length := by rw [← hm]; split <;> omega
    have r0 := Int.emod_nonneg at_ (show many ≠ 0 by omega)
    have r1 := Int.emod_lt_of_pos at_ m0.1
    obtain ⟨v, ev, vm, _⟩ := atI_in (xs := ns.map V.int) r0 (by rw [lm]; omega)
    obtain ⟨i, _, rfl⟩ := List.mem_map.mp vm
    refine ⟨m0.1, ?_⟩
    walk_at "rz"
    refine ite2 (fun c2 => ?_) fun c2 => ?_
    · walk_at "rz"
      refine tfor_in ?_
      simp only [iRng1]
      walk_at "rd"
      have q0 : 0 ≤ at_ / many := Int.ediv_nonneg h0 (by omega)
      refine ⟨by omega, by split <;> omega, by split <;> omega, for_range (fun _ σ H' => H' = H2 ∧ ∃ (c' : Int) (v4 : Option V), σ = [some (.ref dk), some (.int at_), some (.int many), some (.int c'), v4, none]) ⟨rfl, i, _, rfl⟩ ?_ ?_⟩
      · rintro i σ H' hi ⟨rfl, c', v4, rfl⟩
        walk_at "rd"
        try exact ⟨_, rfl⟩
      · rintro σ H' ⟨rfl, c', v4, rfl⟩
        walk_at "rd"
        exact fin _ _ (Int.emod_nonneg _ (by decide)) g2
    · walk_at "rd"
      refine ⟨.inl (bnd5 h0 h01 hk), ?_⟩
      obtain ⟨y, ey, y0, y1⟩ := num i
      rw [ey]
      refine ⟨.inl (bnd y0 y1 (by decide)), ?_⟩
      obtain ⟨y2, ey2, y20, y21⟩ := num2 (y * y % 2147483587 * 69621 + 401 * at_ + 7)
      rw [ey2]
      refine ⟨.inl (bnd y20 y21 (by decide)), fin _ _ ?_ g2⟩
      have := Int.emod_nonneg (y2 * y2) (show (2147483563 : Int) ≠ 0 by decide)
      omega
  · walk_at "rd"
    refine ⟨.inl (bnd5 h0 h01 hk), ?_⟩
    obtain ⟨y, ey, y0, y1⟩ := num 0
    rw [ey]
    refine ⟨.inl (bnd y0 y1 (by decide)), ?_⟩
    obtain ⟨y2, ey2, y20, y21⟩ := num2 (y * y % 2147483587 * 69621 + 401 * at_ + 7)
    rw [ey2]
    refine ⟨.inl (bnd y20 y21 (by decide)), fin _ _ ?_ g2⟩
    have := Int.emod_nonneg (y2 * y2) (show (2147483563 : Int) ≠ 0 by decide)
    omega
end
end K23

set_option Elab.async false
set_option linter.all false
set_option maxRecDepth 100000
set_option maxHeartbeats 4000000
namespace K23
open PySem L2
def nmT : List Str := ["saw", "jig", "a", "hammer", "pin", "zz"]
def nmS : List Str := ["tank", "bin", "vat", "silo", "b", "urn"]
def nth (l : List Str) (spin k : Nat) : Str := l.getD ((k + spin) % 6) ""
theorem nd_T : ∀ sp < 6, ((List.range 6).map (nth nmT sp)).Nodup := by with_unfolding_all decide
theorem nd_S : ∀ sp < 6, ((List.range 6).map (nth nmS sp)).Nodup := by with_unfolding_all decide
theorem ok_T : ∀ x ∈ nmT, PyData.strOk x = true := by with_unfolding_all decide
theorem ok_S : ∀ x ∈ nmS, PyData.strOk x = true := by with_unfolding_all decide
theorem nth_at {l : List Str} {sp k : Nat} (h : l.length = 6) : atI (l.map V.str) ((((k : Nat) : Int) + (sp : Int)) % 6) = some (.str (nth l sp k)) := by
  have e : ((k : Nat) : Int) + (sp : Int) = ((k + sp : Nat) : Int) := by omega
  have e2 : (((k + sp : Nat) : Int)) % 6 = (((k + sp) % 6 : Nat) : Int) := by omega
  rw [e, e2]
  refine atI_nat ?_
  have lt : (k + sp) % 6 < l.length := by omega
  unfold nth
  rw [List.getElem?_map, List.getD_eq_getElem?_getD, List.getElem?_eq_getElem lt]; rfl
theorem nth_mem {l : List Str} {sp k : Nat} (h : l.length = 6) : nth l sp k ∈ l := by
  have lt : (k + sp) % 6 < l.length := by omega
  unfold nth
  rw [List.getD_eq_getElem?_getD, List.getElem?_eq_getElem lt]
  exact List.getElem_mem lt
theorem PrN.snoc {H : Hp} {p : Addr} {s : Str} {n : Int} (h : H p = some (.tup [.str s, .int n])) : ∀ {vs : List V} {ps : List (Str × Int)}, PrN H vs ps → PrN H (vs ++ [.ref p]) (ps ++ [(s, n)])
  | _, _, .nil => .cons h .nil
  | _, _, .cons k r => .cons k (r.snoc h)
theorem PrN.keep {H H' : Hp} (g : ∀ c xs, H c = some (.tup xs) → H' c = some (.tup xs)) : ∀ {vs : List V} {ps : List (Str × Int)}, PrN H vs ps → PrN H' vs ps
  | _, _, .nil => .nil
  | _, _, .cons h r => .cons (g _ _ h) (r.keep g)
theorem PrM.snoc {H : Hp} {p : Addr} {s : Str} {n m : Int} (h : H p = some (.tup [.str s, .int n, .int m])) : ∀ {vs : List V} {ps : List (Str × Int × Int)}, PrM H vs ps → PrM H (vs ++ [.ref p]) (ps ++ [(s, n, m)])
  | _, _, .nil => .cons h .nil
  | _, _, .cons k r => .cons k (r.snoc h)
/-- the program, as it is drawn -/
structure Prg (H : Hp) (pp p0 p1 : Addr) (ys0 ys1 : List V) (pr0 : List (Str × Int)) (pr1 : List (Str × Int × Int)) : Prop where
  tu : ∃ x2 x3, H pp = some (.tup [.ref p0, .ref p1, x2, x3])
  l0 : H p0 = some (.lst ys0)
  l1 : H p1 = some (.lst ys1)
  n0 : PrN H ys0 pr0
  n1 : PrM H ys1 pr1
def Pr0 (pr : List (Str × Int)) : Prop := pr.length ≤ 6 ∧ (pr.map (·.1)).Nodup ∧ ∀ p ∈ pr, 1 ≤ p.2 ∧ p.2 ≤ 9 ∧ PyData.strOk p.1 = true
def Pr1 (pr : List (Str × Int × Int)) : Prop := pr.length ≤ 6 ∧ (pr.map (·.1)).Nodup ∧ ∀ p ∈ pr, 0 ≤ p.2.1 ∧ p.2.1 ≤ p.2.2 ∧ 1 ≤ p.2.2 ∧ p.2.2 ≤ 999 ∧ PyData.strOk p.1 = true
theorem Dk.tup {H : Hp} {dk s0 : Addr} {k : Int} (h : Dk H dk s0 k) {c : Addr} {xs : List V} (hc : H c = some (.tup xs)) : c ∉ [dk] := fun z => by
  obtain ⟨_, _, h1, _⟩ := h
  rw [List.mem_singleton.mp z, h1] at hc; cases hc
theorem Dk.off {H : Hp} {dk s0 : Addr} {k : Int} (h : Dk H dk s0 k) {c : Addr} (hc : H c = none) : c ∉ [dk] := fun z => by
  obtain ⟨_, _, h1, _⟩ := h
  rw [List.mem_singleton.mp z, h1] at hc; cases hc
theorem Dk.kt {H H' : Hp} {dk s0 : Addr} {k : Int} (h : Dk H dk s0 k) (f : FrG [dk] H H') : ∀ c xs, H c = some (.tup xs) → H' c = some (.tup xs) := fun c xs hc => f c _ (h.tup hc) hc
theorem Dk.mu {H H' : Hp} {dk s0 D : Addr} {k : Int} {o : HO} (h : Dk H dk s0 k) (m : Mu H D o H') (n1 : D ≠ dk) (n2 : D ≠ s0) : Dk H' dk s0 k := by
  obtain ⟨ns, a, h1, h2, h3⟩ := h
  exact ⟨ns, a, m.old h1 (Ne.symm n1), m.old h2 (Ne.symm n2), h3⟩
theorem pick {xs : List V} {i : Int} (n : Int) (hn : n = xs.length) (h : 0 < n) : ∃ v, atI xs (i % n) = some v ∧ v ∈ xs := by
  obtain ⟨v, e, m, _⟩ := atI_in (xs := xs) (Int.emod_nonneg i (show n ≠ 0 by omega)) (by rw [← hn]; exact Int.emod_lt_of_pos i h)
  exact ⟨v, e, m⟩
section
variable {P : Program} {w : World} {K : PySem.W.Frag} {mg : Str → Option Value} {base : Heap}
def PtI (dk s0 tl : Addr) (k : Int) (sp : Nat) (H : Hp) (i : Nat) (σ : St) (H' : Hp) : Prop := ∃ (ys : List V) (pr : List (Str × Int)) (v3 v4 : Option V), σ = [some (.ref dk), some (.ref tl), some (.int sp), v3, v4, none, none] ∧ FrG [dk] H H' ∧ Dk H' dk s0 (k + 3 + 2 * i) ∧ H' tl = some (.lst ys) ∧ PrN H' ys pr ∧ pr.map (·.1) = (List.range i).map (nth nmT sp) ∧ ∀ p ∈ pr, 1 ≤ p.2 ∧ p.2 ≤ 9
def PsI (dk s0 tl sl : Addr) (k : Int) (sp : Nat) (ys0 : List V) (pr0 : List (Str × Int)) (H : Hp) (i : Nat) (σ : St) (H' : Hp) : Prop := ∃ (ys : List V) (pr : List (Str × Int × Int)) (v3 v4 v6 : Option V), σ = [some (.ref dk), some (.ref tl), some (.int sp), v3, v4, some (.ref sl), v6] ∧ FrG [dk] H H' ∧ Dk H' dk s0 (k + 20 + 3 * i) ∧ H' tl = some (.lst ys0) ∧ PrN H' ys0 pr0 ∧ H' sl = some (.lst ys) ∧ PrM H' ys pr ∧ pr.map (·.1) = (List.range i).map (nth nmS sp) ∧ ∀ p ∈ pr, 0 ≤ p.2.1 ∧ p.2.1 ≤ p.2.2 ∧ 1 ≤ p.2.2 ∧ p.2.2 ≤ 999
theorem nd_take {l : List Str} {n sp : Nat} (h : ((List.range 6).map (nth l sp)).Nodup) (hn : n ≤ 6) : ((List.range n).map (nth l sp)).Nodup := by
  have e : (List.range n).map (nth l sp) = ((List.range 6).map (nth l sp)).take n := by
    rw [← List.map_take, List.take_range, Nat.min_eq_left hn]
  rw [e]
  exact (List.take_sublist _ _).nodup h
def spPrg : Sp := fun vs H Q _ => ∃ (dk s0 : Addr) (k : Int), vs = [.ref dk] ∧ Dk H dk s0 k ∧ k ≤ 1000 ∧ ∀ (H' : Hp) (pp p0 p1 : Addr) (ys0 ys1 : List V) (pr0 : List (Str × Int)) (pr1 : List (Str × Int × Int)), FrG [dk] H H' → Dk H' dk s0 (k + 100) → Prg H' pp p0 p1 ys0 ys1 pr0 pr1 → Pr0 pr0 → Pr1 pr1 → H p0 = none → H p1 = none → Q (.ref pp) H'
theorem ok_prg (D : DefAt K mg "_law_program" s__law_program ["deck"]) (G__law_next : OkD P w K mg base 1 "_law_next" ["deck"] spNx) (hrange : mg "range" = none) : OkD P w K mg base 2 "_law_program" ["deck"] spPrg := by
  refine D.ok sc__law_program (fun vs H Q E h => ?_) (fun f cdv A outer s H vs Q E hr h => ?_)
  · obtain ⟨_, _, _, rfl, _⟩ := h; rfl
  obtain ⟨dk, s0, k, rfl, D0, hk, q⟩ := h
  have hu := hu_of hr
  have big : 100000 ≤ sizeLine := by unfold sizeLine; decide
  refine ⟨_, (pss_cons (ps_set (i := 1) sc__law_program.nd rfl (Or.inl rfl) (pe_lstG pa_nil))
  (pss_cons (ps_set (i := 2) sc__law_program.nd rfl (Or.inl rfl) (pe_op op_mod (pe_def G__law_next hr rfl (pa_c (pv 0) pa_nil)) pe_int))
  (pss_cons (ps_for PassesOwn.never rfl (pi_range1 rfl hrange (pa_c (pe_op op_mod (pe_def G__law_next hr rfl (pa_c (pv 0) pa_nil)) (pe_ix ix_g (pe_lstG (pa_c pe_int (pa_c pe_int (pa_c pe_int (pa_c pe_int pa_nil))))) (pe_op op_mod (pe_def G__law_next hr rfl (pa_c (pv 0) pa_nil)) pe_int) (fun _ _ => rfl))) pa_nil)) (pg_name (i := 3) sc__law_program.nd rfl (Or.inl rfl))
  (pss_cons (ps_set (i := 4) sc__law_program.nd rfl (Or.inl rfl) (pe_ix ix_g (pe_lstG (pa_c pe_str (pa_c pe_str (pa_c pe_str (pa_c pe_str (pa_c pe_str (pa_c pe_str pa_nil))))))) (pe_op op_mod (pe_op op_add (pv 3) (pv 2)) pe_int) (fun _ _ => rfl)))
  (pss_one (ps_expr (pe_appG (pv 1) (pe_tupG (pa_c (pv 4) (pa_c (pe_op op_add pe_int (pe_op op_mod (pe_def G__law_next hr rfl (pa_c (pv 0) pa_nil)) (pe_ix ix_g (pe_lstG (pa_c pe_int (pa_c pe_int pa_nil))) (pe_op op_mod (pe_def G__law_next hr rfl (pa_c (pv 0) pa_nil)) pe_int) (fun _ _ => rfl)))) pa_nil))))))))
  (pss_cons (ps_set (i := 5) sc__law_program.nd rfl (Or.inl rfl) (pe_lstG pa_nil))
  (pss_cons (ps_for PassesOwn.never rfl (pi_range1 rfl hrange (pa_c (pe_op op_mod (pe_def G__law_next hr rfl (pa_c (pv 0) pa_nil)) (pe_ix ix_g (pe_lstG (pa_c pe_int (pa_c pe_int (pa_c pe_int (pa_c pe_int pa_nil))))) (pe_op op_mod (pe_def G__law_next hr rfl (pa_c (pv 0) pa_nil)) pe_int) (fun _ _ => rfl))) pa_nil)) (pg_name (i := 3) sc__law_program.nd rfl (Or.inl rfl))
  (pss_cons (ps_set (i := 4) sc__law_program.nd rfl (Or.inl rfl) (pe_ix ix_g (pe_lstG (pa_c pe_str (pa_c pe_str (pa_c pe_str (pa_c pe_str (pa_c pe_str (pa_c pe_str pa_nil))))))) (pe_op op_mod (pe_op op_add (pv 3) (pv 2)) pe_int) (fun _ _ => rfl)))
  (pss_cons (ps_set (i := 6) sc__law_program.nd rfl (Or.inl rfl) (pe_op op_add pe_int (pe_op op_mod (pe_def G__law_next hr rfl (pa_c (pv 0) pa_nil)) (pe_ix ix_g (pe_lstG (pa_c pe_int (pa_c pe_int pa_nil))) (pe_op op_mod (pe_def G__law_next hr rfl (pa_c (pv 0) pa_nil)) pe_int) (fun _ _ => rfl)))))
  (pss_one (ps_expr (pe_appG (pv 5) (pe_tupG (pa_c (pv 4) (pa_c (pe_op op_mod (pe_def G__law_next hr rfl (pa_c (pv 0) pa_nil)) (pe_op op_add (pv 6) pe_int)) (pa_c (pv 6) pa_nil))))))))))
  (pss_one (ps_ret (pe_tupG (pa_c (pv 1) (pa_c (pv 5) (pa_c (pe_lstG pa_nil) (pa_c (pe_lstG (pa_c (pe_tupG (pa_c pe_str (pa_c (pe_lstG pa_nil) (pa_c (pe_lstG pa_nil) pa_nil)))) pa_nil)) pa_nil)))))))))))), ?_⟩
  walk_at "rz"
  intro tl H1 htl g1 h1
  walk_at "rz"
  refine ⟨dk, s0, k, rfl, D0.same g1, by omega, fun m1 H2 m10 f2 D2 => ?_⟩
  walk_at "rz"
  have ntl : tl ∉ [dk] := D0.off htl
  have nts : tl ≠ s0 := fun z => by
    obtain ⟨_, _, _, z1, _⟩ := D0
    rw [z, z1] at htl; cases htl
  have h2 := f2.old h1 ntl
  obtain ⟨sp, esp, sp6⟩ : ∃ sp : Nat, m1 % 6 = (sp : Int) ∧ sp < 6 := ⟨(m1 % 6).toNat, by omega, by omega⟩
  rw [esp]
  refine tfor_in ?_
  simp only [iRng1]
  walk_at "rd"
  refine ⟨dk, s0, k + 1, rfl, D2, by omega, fun m2 H3 m20 f3 D3 p3 H4 hp3 g4 h4 => ?_⟩
  refine ⟨dk, s0, k + 1 + 1, rfl, D3.same g4, by omega, fun m3 H5 m30 f5 D5 => ⟨m3, rfl, _, .inr (f5.old h4 (D3.off hp3)), ?_⟩⟩
  obtain ⟨v, ev, hv⟩ := pick (xs := [V.int 4, V.int 4, V.int 4, V.int 7]) (i := m3) 4 rfl (by decide)
  obtain ⟨c, rfl, c0, c1⟩ : ∃ c, v = .int c ∧ 0 < c ∧ c ≤ 7 := by
    simp at hv
    rcases hv with rfl | rfl <;> exact ⟨_, rfl, by decide, by decide⟩
  have e0 := Int.emod_nonneg m2 (show c ≠ 0 by omega)
  have e1 := Int.emod_lt_of_pos m2 c0
  refine ⟨_, ev, m2, rfl, c, rfl, c0, by omega, by omega, ?_⟩
  obtain ⟨n0, en0, n06⟩ : ∃ n0 : Nat, (m2 % c).toNat = n0 ∧ n0 ≤ 6 := ⟨_, rfl, by omega⟩
  rw [en0]
  have h5 := f5.old (g4 _ _ (f3.old h2 ntl)) ntl
  have F5 : FrG [dk] H H5 := fun c u nc hc => f5 c u nc (g4 _ _ (f3 c u nc (f2 c u nc (g1 _ _ hc))))
  have D5 := D5.mono (show k + 1 + 1 + 1 ≤ k + 3 + 2 * ((0 : Nat) : Int) by omega)
  clear h1 h2 h4
  refine for_range (PtI dk s0 tl k sp H) ?_ ?_ ?_
  · unfold PtI
    exact ⟨[], [], _, _, rfl, F5, D5, h5, .nil, rfl, fun p hp => absurd hp List.not_mem_nil⟩
  · intro i σ H6 hi z
    unfold PtI at z
    obtain ⟨ys, pr, v3, v4, rfl, F6, D6, h6, pn, em, bd⟩ := z
    clear h5
    walk_at "rd"
    intro p7 H7 hp7 g7 h7
    have lp := pn.length
    have li : pr.length = i := by have := congrArg List.length em; rw [List.length_map, List.length_map, List.length_range] at this; exact this
    refine ⟨_, .inr h7, _, (by rw [Int.zero_add]; exact nth_at (l := nmT) rfl), ys, g7 _ _ h6, dk, s0, k + 3 + 2 * i, rfl, D6.same g7, by omega, fun m4 H8 m40 f8 D8 p9 H9 hp9 g9 h9 => ?_⟩
    refine ⟨dk, s0, k + 3 + 2 * i + 1, rfl, D8.same g9, by omega, fun m5 H10 m50 f10 D10 => ⟨m5, rfl, _, .inr (f10.old h9 (D8.off hp9)), ?_⟩⟩
    obtain ⟨v, ev, hv⟩ := pick (xs := [V.int 3, V.int 9]) (i := m5) 2 rfl (by decide)
    obtain ⟨c, rfl, c0, c1⟩ : ∃ c, v = .int c ∧ 0 < c ∧ c ≤ 9 := by
      simp at hv
      rcases hv with rfl | rfl <;> exact ⟨_, rfl, by decide, by decide⟩
    have e0 := Int.emod_nonneg m4 (show c ≠ 0 by omega)
    have e1 := Int.emod_lt_of_pos m4 c0
    have t11 := f10.old (g9 _ _ (f8.old (g7 _ _ h6) ntl)) ntl
    refine ⟨_, ev, m4, rfl, c, rfl, c0, fun p11 H11 hp11 g11 h11 => ⟨ys, g11 _ _ t11, by omega, fun H12 mu => ?_⟩⟩
    unfold PtI
    have kt : ∀ c xs, H6 c = some (.tup xs) → H12 c = some (.tup xs) := fun c xs hc => mu.old (g11 _ _ ((D8.same g9).kt f10 c xs (g9 _ _ ((D6.same g7).kt f8 c xs (g7 _ _ hc))))) (fun z => by rw [z, h6] at hc; cases hc)
    have np : p11 ≠ tl := (ne_of_none t11 hp11).symm
    refine ⟨ys ++ [.ref p11], pr ++ [(nth nmT sp i, 1 + m4 % c)], _, _, rfl, fun c u nc hc => mu.old (g11 _ _ (f10 c u nc (g9 _ _ (f8 c u nc (g7 _ _ (F6 c u nc hc)))))) (ne_of_none hc htl), ((D10.same g11).mu mu (fun z => ntl (by rw [z]; exact List.mem_singleton_self _)) nts).mono (by omega), mu.at_, (pn.keep kt).snoc (mu.old h11 np), by rw [List.map_append, em, List.range_succ, List.map_append]; rfl, fun p hp => ?_⟩
    rcases List.mem_append.mp hp with hp | hp
    · exact bd p hp
    · rw [List.mem_singleton.mp hp]
      exact ⟨by show 1 ≤ 1 + m4 % c; omega, by show 1 + m4 % c ≤ 9; omega⟩
  · intro σ H6 z
    unfold PtI at z
    obtain ⟨ys, pr, v3, v4, rfl, F6, D6, h6, pn, em, bd⟩ := z
    clear h5
    walk_at "rz"
    intro sl H7 hsl g7 h7
    walk_at "rz"
    have lp0 := pn.length
    have li0 : pr.length = n0 := by have := congrArg List.length em; rw [List.length_map, List.length_map, List.length_range] at this; exact this
    have nsl : sl ∉ [dk] := D6.off hsl
    have nss : sl ≠ s0 := fun z => by
      obtain ⟨_, _, _, z1, _⟩ := D6
      rw [z, z1] at hsl; cases hsl
    have ntsl : tl ≠ sl := ne_of_none h6 hsl
    have hsl0 : H sl = none := by
      cases z : H sl with
      | none => rfl
      | some u => rw [F6 sl u nsl z] at hsl; cases hsl
    refine tfor_in ?_
    simp only [iRng1]
    walk_at "rd"
    refine ⟨dk, s0, _, rfl, D6.same g7, by omega, fun m2 H8 m20 f8 D8 p9 H9 hp9 g9 h9 => ?_⟩
    refine ⟨dk, s0, _, rfl, D8.same g9, by omega, fun m3 H10 m30 f10 D10 => ⟨m3, rfl, _, .inr (f10.old h9 (D8.off hp9)), ?_⟩⟩
    obtain ⟨v, ev, hv⟩ := pick (xs := [V.int 3, V.int 3, V.int 3, V.int 7]) (i := m3) 4 rfl (by decide)
    obtain ⟨c, rfl, c0, c1⟩ : ∃ c, v = .int c ∧ 0 < c ∧ c ≤ 7 := by
      simp at hv
      rcases hv with rfl | rfl <;> exact ⟨_, rfl, by decide, by decide⟩
    have e0 := Int.emod_nonneg m2 (show c ≠ 0 by omega)
    have e1 := Int.emod_lt_of_pos m2 c0
    refine ⟨_, ev, m2, rfl, c, rfl, c0, by omega, by omega, ?_⟩
    obtain ⟨n1, en1, n16⟩ : ∃ n1 : Nat, (m2 % c).toNat = n1 ∧ n1 ≤ 6 := ⟨_, rfl, by omega⟩
    rw [en1]
    have t10 := f10.old (g9 _ _ (f8.old (g7 _ _ h6) ntl)) ntl
    have s10 := f10.old (g9 _ _ (f8.old h7 nsl)) nsl
    have kt10 : ∀ c xs, H6 c = some (.tup xs) → H10 c = some (.tup xs) := fun c xs hc => (D8.same g9).kt f10 c xs (g9 _ _ ((D6.same g7).kt f8 c xs (g7 _ _ hc)))
    have F10 : FrG [dk] H H10 := fun c u nc hc => f10 c u nc (g9 _ _ (f8 c u nc (g7 _ _ (F6 c u nc hc))))
    have D10' := D10.mono (show k + 3 + 2 * (n0 : Int) + 1 + 1 ≤ k + 20 + 3 * ((0 : Nat) : Int) by omega)
    clear h6 h7 h9
    refine for_range (PsI dk s0 tl sl k sp ys pr H) ?_ ?_ ?_
    · unfold PsI
      exact ⟨[], [], _, _, _, rfl, F10, D10', t10, pn.keep kt10, s10, .nil, rfl, fun p hp => absurd hp List.not_mem_nil⟩
    · intro i σ H11 hi z
      unfold PsI at z
      obtain ⟨ys1, pr1, w3, w4, w6, rfl, F11, D11, t11, pn11, s11, pm11, em1, bd1⟩ := z
      clear t10 s10
      walk_at "rd"
      intro p12 H12 hp12 g12 h12
      have lp1 := pm11.length
      have li1 : pr1.length = i := by have := congrArg List.length em1; rw [List.length_map, List.length_map, List.length_range] at this; exact this
      refine ⟨_, .inr h12, _, (by rw [Int.zero_add]; exact nth_at (l := nmS) rfl), dk, s0, _, rfl, D11.same g12, by omega, fun m4 H13 m40 f13 D13 p14 H14 hp14 g14 h14 => ?_⟩
      refine ⟨dk, s0, _, rfl, D13.same g14, by omega, fun m5 H15 m50 f15 D15 => ⟨m5, rfl, _, .inr (f15.old h14 (D13.off hp14)), ?_⟩⟩
      obtain ⟨v, ev, hv⟩ := pick (xs := [V.int 6, V.int 999]) (i := m5) 2 rfl (by decide)
      obtain ⟨c2, rfl, c20, c21⟩ : ∃ c, v = .int c ∧ 0 < c ∧ c ≤ 999 := by
        simp at hv
        rcases hv with rfl | rfl <;> exact ⟨_, rfl, by decide, by decide⟩
      have u0 := Int.emod_nonneg m4 (show c2 ≠ 0 by omega)
      have u1 := Int.emod_lt_of_pos m4 c20
      generalize hms : 1 + m4 % c2 = ms
      have t15 := f15.old (g14 _ _ (f13.old (g12 _ _ t11) ntl)) ntl
      have s15 := f15.old (g14 _ _ (f13.old (g12 _ _ s11) nsl)) nsl
      refine ⟨_, ev, m4, rfl, c2, rfl, c20, ?_⟩
      rw [hms]
      refine ⟨ys1, s15, dk, s0, _, rfl, D15, by omega, fun m6 H16 m60 f16 D16 => ⟨m6, rfl, by omega, fun p17 H17 hp17 g17 h17 => ?_⟩⟩
      have s16 := f16.old s15 nsl
      have w0 := Int.emod_nonneg m6 (show ms + 1 ≠ 0 by omega)
      have w1 := Int.emod_lt_of_pos m6 (show 0 < ms + 1 by omega)
      refine ⟨ys1, g17 _ _ s16, by omega, fun H18 mu => ?_⟩
      unfold PsI
      have kt : ∀ c xs, H11 c = some (.tup xs) → H18 c = some (.tup xs) := fun c xs hc => mu.old (g17 _ _ (D15.kt f16 c xs ((D13.same g14).kt f15 c xs (g14 _ _ ((D11.same g12).kt f13 c xs (g12 _ _ hc)))))) (fun z => by rw [z, s11] at hc; cases hc)
      have np : p17 ≠ sl := (ne_of_none s16 hp17).symm
      refine ⟨ys1 ++ [.ref p17], pr1 ++ [(nth nmS sp i, m6 % (ms + 1), ms)], _, _, _, rfl, fun c u nc hc => mu.old (g17 _ _ (f16 c u nc (f15 c u nc (g14 _ _ (f13 c u nc (g12 _ _ (F11 c u nc hc))))))) (ne_of_none hc hsl0), ((D16.same g17).mu mu (fun z => nsl (by rw [z]; exact List.mem_singleton_self _)) nss).mono (by omega), mu.old (g17 _ _ (f16.old t15 ntl)) ntsl, pn11.keep kt, mu.at_, (pm11.keep kt).snoc (mu.old h17 np), by rw [List.map_append, em1, List.range_succ, List.map_append]; rfl, fun p hp => ?_⟩
      rcases List.mem_append.mp hp with hp | hp
      · exact bd1 p hp
      · rw [List.mem_singleton.mp hp]
        exact ⟨w0, by show m6 % (ms + 1) ≤ ms; omega, by show 1 ≤ ms; omega, by show ms ≤ 999; omega⟩
    · intro σ H11 z
      unfold PsI at z
      obtain ⟨ys1, pr1, w3, w4, w6, rfl, F11, D11, t11, pn11, s11, pm11, em1, bd1⟩ := z
      clear t10 s10
      walk_at "rd"
      intro p12 H12 hp12 g12 h12 p13 H13 hp13 g13 h13 p14 H14 hp14 g14 h14 p15 H15 hp15 g15 h15 p16 H16 hp16 g16 h16 p17 H17 hp17 g17 h17
      have S17 : Same H11 H17 := ((((g12.trans g13).trans g14).trans g15).trans g16).trans g17
      have li1 : pr1.length = n1 := by have := congrArg List.length em1; rw [List.length_map, List.length_map, List.length_range] at this; exact this
      refine q H17 p17 tl sl ys ys1 pr pr1 (F11.same S17) ((D11.same S17).mono (by omega)) ⟨⟨_, _, h17⟩, S17 _ _ t11, S17 _ _ s11, pn11.mono S17, pm11.keep fun c xs hc => S17 _ _ hc⟩ ⟨by omega, ?_, fun p hp => ?_⟩ ⟨by omega, ?_, fun p hp => ?_⟩ htl hsl0
      · rw [em]; exact nd_take (nd_T sp sp6) n06
      · have := bd p hp
        refine ⟨this.1, this.2, ?_⟩
        have hm : p.1 ∈ pr.map (·.1) := List.mem_map_of_mem hp
        rw [em] at hm
        obtain ⟨j, _, ej⟩ := List.mem_map.mp hm
        rw [← ej]
        exact ok_T _ (nth_mem rfl)
      · rw [em1]; exact nd_take (nd_S sp sp6) n16
      · have := bd1 p hp
        refine ⟨this.1, this.2.1, this.2.2.1, this.2.2.2, ?_⟩
        have hm : p.1 ∈ pr1.map (·.1) := List.mem_map_of_mem hp
        rw [em1] at hm
        obtain ⟨j, _, ej⟩ := List.mem_map.mp hm
        rw [← ej]
        exact ok_S _ (nth_mem rfl)
end
end K23

set_option Elab.async false
set_option linter.all false
set_option maxRecDepth 100000
set_option maxHeartbeats 4000000
namespace K23
open PySem L2
def nD (pr : List (Str × Int)) : List PyData := pr.map fun p => .tuple [.str p.1, .int p.2]
def mD (pr : List (Str × Int × Int)) : List PyData := pr.map fun p => .tuple [.str p.1, .int p.2.1, .int p.2.2]
theorem PrN.rp {K : PySem.W.Frag} {H : Hp} : ∀ {vs : List V} {pr : List (Str × Int)}, PrN H vs pr → RpL K H vs (nD pr)
  | _, _, .nil => .nil
  | _, _, .cons h r => .cons (.tup h (.cons (.str _) (.cons (.int _) .nil))) r.rp
theorem PrM.rp {K : PySem.W.Frag} {H : Hp} : ∀ {vs : List V} {pr : List (Str × Int × Int)}, PrM H vs pr → RpL K H vs (mD pr)
  | _, _, .nil => .nil
  | _, _, .cons h r => .cons (.tup h (.cons (.str _) (.cons (.int _) (.cons (.int _) .nil)))) r.rp
theorem sh_of {ds : List PyData} (c : PyData.canLayAll0 ds = true) (d : PyData.depthAll ds ≤ 3) : SeqAt.shaped (.list ds) = true := by
  unfold SeqAt.shaped
  have e : PyData.canLay0 (.list ds) = true := by
    simp only [PyData.canLay0]
    exact c
  rw [e, Bool.true_and, decide_eq_true_eq]
  simp only [PyData.depth]
  omega
theorem sh_nD {pr : List (Str × Int)} (h : ∀ p ∈ pr, PyData.strOk p.1 = true) : SeqAt.shaped (.list (nD pr)) = true := by
  refine sh_of ?_ ?_
  · induction pr with
    | nil => rfl
    | cons p pr ih =>
      have := ih fun p hp => h p (List.mem_cons_of_mem _ hp)
      have h0 := h p List.mem_cons_self
      unfold nD at this ⊢
      simp only [List.map_cons, PyData.canLayAll0, PyData.canLay0, h0, Bool.and_true, Bool.true_and]
      exact this
  · clear h
    induction pr with
    | nil => simp [nD, PyData.depthAll]
    | cons p pr ih =>
      unfold nD at ih ⊢
      simp only [List.map_cons, PyData.depthAll, PyData.depth] at ih ⊢
      omega
theorem sh_mD {pr : List (Str × Int × Int)} (h : ∀ p ∈ pr, PyData.strOk p.1 = true) : SeqAt.shaped (.list (mD pr)) = true := by
  refine sh_of ?_ ?_
  · induction pr with
    | nil => rfl
    | cons p pr ih =>
      have := ih fun p hp => h p (List.mem_cons_of_mem _ hp)
      have h0 := h p List.mem_cons_self
      unfold mD at this ⊢
      simp only [List.map_cons, PyData.canLayAll0, PyData.canLay0, h0, Bool.and_true, Bool.true_and]
      exact this
  · clear h
    induction pr with
    | nil => simp [mD, PyData.depthAll]
    | cons p pr ih =>
      unfold mD at ih ⊢
      simp only [List.map_cons, PyData.depthAll, PyData.depth] at ih ⊢
      omega
theorem Prg.fr {H H' : Hp} {dk s0 pp p0 p1 : Addr} {k : Int} {ys0 ys1 : List V} {pr0 : List (Str × Int)} {pr1 : List (Str × Int × Int)} (D : Dk H dk s0 k) (f : FrG [dk] H H') (n0 : p0 ∉ [dk]) (n1 : p1 ∉ [dk]) (h : Prg H pp p0 p1 ys0 ys1 pr0 pr1) : Prg H' pp p0 p1 ys0 ys1 pr0 pr1 := by
  obtain ⟨⟨x2, x3, t⟩, a, b, c, d⟩ := h
  exact ⟨⟨x2, x3, f _ _ (D.tup t) t⟩, f _ _ n0 a, f _ _ n1 b, c.keep (D.kt f), d.keep (D.kt f)⟩
theorem Prg.same {H H' : Hp} {pp p0 p1 : Addr} {ys0 ys1 : List V} {pr0 : List (Str × Int)} {pr1 : List (Str × Int × Int)} (g : Same H H') (h : Prg H pp p0 p1 ys0 ys1 pr0 pr1) : Prg H' pp p0 p1 ys0 ys1 pr0 pr1 := by
  obtain ⟨⟨x2, x3, t⟩, a, b, c, d⟩ := h
  exact ⟨⟨x2, x3, g _ _ t⟩, g _ _ a, g _ _ b, c.mono g, d.keep fun _ _ hc => g _ _ hc⟩
theorem rep1 (b : Bool) (xs : List V) : (List.replicate (if b = true then (1 : Int) else 0).toNat xs).flatten = if b = true then xs else [] := by cases b <;> simp
def Deed (pr0 : List (Str × Int)) (pr1 : List (Str × Int × Int)) (word : Str) (h : Int) (nm : Str) (n : Int) : Prop := h ∈ hs ∧ 0 < n ∧ (word = "leave" ∨ ((word = "take" ∨ word = "give") ∧ nm ∈ pr0.map (·.1)) ∨ ((word = "put" ∨ word = "get" ∨ word = "bring") ∧ nm ∈ pr1.map (·.1)))
section
variable {P : Program} {w : World} {K : PySem.W.Frag} {mg : Str → Option Value} {base : Heap}
def spDeed : Sp := fun vs H Q _ => ∃ (dk s0 pp p0 p1 : Addr) (k : Int) (ys0 ys1 : List V) (pr0 : List (Str × Int)) (pr1 : List (Str × Int × Int)), vs = [.ref dk, .ref pp] ∧ Dk H dk s0 k ∧ k ≤ 10000 ∧ Prg H pp p0 p1 ys0 ys1 pr0 pr1 ∧ Pr0 pr0 ∧ Pr1 pr1 ∧ p0 ∉ [dk] ∧ p1 ∉ [dk] ∧
  ∀ (H' : Hp) (dp : Addr) (word nm : Str) (h n : Int), FrG [dk] H H' → Dk H' dk s0 (k + 10) → H' dp = some (.tup [.str word, .int h, .str nm, .int n]) → Deed pr0 pr1 word h nm n → Q (.ref dp) H'
theorem ok_deed (D : DefAt K mg "_law_deed" s__law_deed ["deck", "program"]) (G__law_next : OkD P w K mg base 1 "_law_next" ["deck"] spNx) (hlen : mg "len" = none) (hmax : mg "max" = none) (hint : mg "int" = none) : OkD P w K mg base 2 "_law_deed" ["deck", "program"] spDeed := by
  refine D.ok sc__law_deed (fun vs H Q E h => ?_) (fun f cdv A outer s H vs Q E hr h => ?_)
  · obtain ⟨_, _, _, _, _, _, _, _, _, _, rfl, _⟩ := h; rfl
  obtain ⟨dk, s0, pp, p0, p1, k, ys0, ys1, pr0, pr1, rfl, D0, hk, G0, b0, b1, n0, n1, q⟩ := h
  have hu := hu_of hr
  have hu64 := hr.units
  have big : 100000 ≤ sizeLine := by unfold sizeLine; decide
  obtain ⟨⟨x2, x3, t0⟩, l0, l1, pn, pm⟩ := id G0
  have z0 := pn.length
  have z1 := pm.length
  refine ⟨_, (pss_cons (ps_set (i := 2) sc__law_deed.nd rfl (Or.inl rfl) (pe_op op_repG (pe_lstG (pa_c pe_str (pa_c pe_str (pa_c pe_str (pa_c pe_str pa_nil))))) (pe_cTy call_intB rfl hint (by decide +kernel) (pa_c (pe_cmpR (op_neD hu64) (pe_ix ix_g (pv 1) pe_int (fun _ _ => rfl)) (pe_lstG pa_nil) (nomark _)) pa_nil))))
  (pss_cons (ps_set (i := 2) sc__law_deed.nd rfl (Or.inl rfl) (pe_op op_catG (pv 2) (pe_op op_repG (pe_lstG (pa_c pe_str (pa_c pe_str (pa_c pe_str (pa_c pe_str pa_nil))))) (pe_cTy call_intB rfl hint (by decide +kernel) (pa_c (pe_cmpR (op_neD hu64) (pe_ix ix_g (pv 1) pe_int (fun _ _ => rfl)) (pe_lstG pa_nil) (nomark _)) pa_nil)))))
  (pss_cons (ps_set (i := 3) sc__law_deed.nd rfl (Or.inl rfl) (pe_ix ix_g (pe_op op_catG (pv 2) (pe_lstG (pa_c pe_str pa_nil))) (pe_op op_mod (pe_def G__law_next hr rfl (pa_c (pv 0) pa_nil)) (pe_cB (call_max2 rfl) rfl hmax (by decide +kernel) (pa_c pe_int (pa_c (pe_cB call_len_seq rfl hlen PySem.boot_len (pa_c (pv 2) pa_nil)) pa_nil)))) (fun _ _ => rfl)))
  (pss_cons (ps_set (i := 4) sc__law_deed.nd rfl (Or.inl rfl) (pe_ix ix_g (pv 1) (pe_cTy call_intB rfl hint (by decide +kernel) (pa_c (pe_cmpR op_inG (pv 3) (pe_tupG (pa_c pe_str (pa_c pe_str (pa_c pe_str pa_nil)))) (by with_unfolding_all rfl)) pa_nil)) (fun _ _ => rfl)))
  (pss_cons (ps_set (i := 5) sc__law_deed.nd rfl (Or.inl rfl) pe_str)
  (pss_cons (ps_set (i := 6) sc__law_deed.nd rfl (Or.inl rfl) pe_int)
  (pss_cons (ps_if (pt_cmpR (op_neD hu64) (pv 4) (pe_lstG pa_nil) (nomark _))
  (pss_cons (ps_set (i := 7) sc__law_deed.nd rfl (Or.inl rfl) (pe_ix ix_g (pv 4) (pe_op op_mod (pe_def G__law_next hr rfl (pa_c (pv 0) pa_nil)) (pe_cB call_len_seq rfl hlen PySem.boot_len (pa_c (pv 4) pa_nil))) (fun _ _ => rfl)))
  (pss_cons (ps_set (i := 5) sc__law_deed.nd rfl (Or.inl rfl) (pe_ix ix_g (pv 7) pe_int (fun _ _ => rfl)))
  (pss_one (ps_set (i := 6) sc__law_deed.nd rfl (Or.inl rfl) (pe_op op_add pe_int (pe_op op_mod (pe_def G__law_next hr rfl (pa_c (pv 0) pa_nil)) (pe_ix ix_g (pe_lstG (pa_c (pe_op op_add (pe_ix ix_g (pv 7) (pe_un un_neg pe_int) (fun _ _ => rfl)) pe_int) (pa_c pe_int (pa_c (pe_op op_pow pe_int pe_int) pa_nil)))) (pe_ix ix_g (pe_lstG (pa_c pe_int (pa_c pe_int (pa_c pe_int (pa_c pe_int (pa_c pe_int (pa_c pe_int pa_nil))))))) (pe_op op_mod (pe_def G__law_next hr rfl (pa_c (pv 0) pa_nil)) pe_int) (fun _ _ => rfl)) (fun _ _ => rfl))))))))
  pss_nil)
  (pss_cons (ps_if (pt_cmpR op_eq (pv 3) pe_str (nomark _))
  (pss_one (ps_set (i := 6) sc__law_deed.nd rfl (Or.inl rfl) (pe_op op_add pe_int (pe_op op_mod (pv 6) pe_int))))
  pss_nil)
  (pss_one (ps_ret (pe_tupG (pa_c (pv 3) (pa_c (pe_ix ix_g (pe_lstG (pa_c pe_int (pa_c pe_int (pa_c pe_int (pa_c pe_int (pa_c pe_int (pa_c pe_int (pa_c pe_int pa_nil)))))))) (pe_op op_mod (pe_def G__law_next hr rfl (pa_c (pv 0) pa_nil)) pe_int) (fun _ _ => rfl)) (pa_c (pv 5) (pa_c (pv 6) pa_nil))))))))))))))), ?_⟩
  walk_at "rz"
  intro q1 H1 hq1 g1 h1
  have sh0 := sh_nD (pr := pr0) fun p hp => (b0.2.2 p hp).2.2
  have sh1 := sh_mD (pr := pr1) fun p hp => (b1.2.2 p hp).2.2.2.2
  have t1 := g1 _ _ t0
  walk_at "rz"
  intro q2 H2 hq2 g2 h2
  refine ne_nil (g2 _ _ (g1 _ _ l0)) ((pn.mono (g1.trans g2)).rp) sh0 h2 ?_
  generalize hB0 : (!ys0.isEmpty) = B0
  have h12 := g2 _ _ h1
  walk_at "rz"
  refine ⟨by split <;> omega, by split <;> omega, by cases B0 <;> simp <;> omega, fun q3 H3 hq3 g3 h3 => ?_⟩
  rw [rep1] at h3
  clear h12 t1 h1 h2
  walk_at "rz"
  intro q4 H4 hq4 g4 h4
  have S4 : Same H H4 := ((g1.trans g2).trans g3).trans g4
  have t4 := S4 _ _ t0
  walk_at "rz"
  intro q5 H5 hq5 g5 h5
  refine ne_nil (g5 _ _ (S4 _ _ l1)) ((pm.keep fun c xs hc => g5 _ _ (S4 _ _ hc)).rp) sh1 h5 ?_
  generalize hB1 : (!ys1.isEmpty) = B1
  have h45 := g5 _ _ h4
  walk_at "rz"
  refine ⟨by split <;> omega, by split <;> omega, by cases B1 <;> simp <;> omega, fun q6 H6 hq6 g6 h6 => ?_⟩
  rw [rep1] at h6
  have h36 := g6 _ _ (g5 _ _ (g4 _ _ h3))
  have S6 : Same H H6 := (S4.trans g5).trans g6
  have hW : ∃ W : List Str, (if B0 = true then [V.str "take", V.str "take", V.str "give", V.str "leave"] else []) ++ (if B1 = true then [V.str "put", V.str "get", V.str "bring", V.str "get"] else []) = W.map V.str ∧ W.length ≤ 8 ∧ ∀ x ∈ W, ((x = "take" ∨ x = "give" ∨ x = "leave") ∧ B0 = true) ∨ ((x = "put" ∨ x = "get" ∨ x = "bring") ∧ B1 = true) := by
    cases B0 <;> cases B1
    · exact ⟨[], rfl, by simp, fun x hx => absurd hx List.not_mem_nil⟩
    · exact ⟨["put", "get", "bring", "get"], rfl, by simp, fun x hx => .inr ⟨by simp at hx; rcases hx with h | h | h | h <;> simp [h], rfl⟩⟩
    · exact ⟨["take", "take", "give", "leave"], rfl, by simp, fun x hx => .inl ⟨by simp at hx; rcases hx with h | h | h <;> simp [h], rfl⟩⟩
    · exact ⟨["take", "take", "give", "leave", "put", "get", "bring", "get"], rfl, by simp, fun x hx => by simp at hx; rcases hx with h | h | h | h | h | h | h <;> simp [h]⟩
  obtain ⟨W, eW, lW, mW⟩ := hW
  clear h3 h4 h45 h5 t0 t4 l0 l1
  walk_at "rz"
  have off : ∀ {H' : Hp} {c : Addr}, Same H H' → H' c = none → c ∉ [dk] := fun g hc => (D0.same g).off hc
  refine ⟨by cases B0 <;> cases B1 <;> simp <;> omega, fun q7 H7 hq7 g7 h7 => ?_⟩
  rw [eW] at h7
  clear h36 h6 eW
  walk_at "rz"
  intro q8 H8 hq8 g8 h8
  have h78 := g8 _ _ h7
  walk_at "rz"
  refine ⟨by rw [List.length_map]; omega, fun q9 H9 hq9 g9 h9 => ?_⟩
  have S9 : Same H H9 := ((S6.trans g7).trans g8).trans g9
  clear h78
  walk_at "rz"
  refine ⟨dk, s0, k, rfl, D0.same S9, by omega, fun m1 H10 m10 f10 D10 => ?_⟩
  have h7' := f10.old (g9 _ _ (g8 _ _ h7)) (off S6 hq7)
  have h10 := f10.old h9 (off ((S6.trans g7).trans g8) hq9)
  walk_at "rz"
  refine ⟨W.map V.str, .inl (SqL.of h7'), ?_⟩
  walk_at "rz"
  rw [List.length_map]
  generalize hmx : (if (W.length : Int) > 1 then (W.length : Int) else 1) = mx
  have mx0 : 0 < mx ∧ mx ≤ W.length + 1 := by rw [← hmx]; split <;> omega
  obtain ⟨word, ev, hw⟩ : ∃ word, atI (W.map V.str ++ [V.str "leave"]) (m1 % mx) = some (.str word) ∧ (word = "leave" ∨ ((word = "take" ∨ word = "give") ∧ B0 = true) ∨ ((word = "put" ∨ word = "get" ∨ word = "bring") ∧ B1 = true)) := by
    obtain ⟨v, e, m, _⟩ := atI_in (xs := W.map V.str ++ [V.str "leave"]) (Int.emod_nonneg m1 (show mx ≠ 0 by omega)) (by have := Int.emod_lt_of_pos m1 mx0.1; rw [List.length_append, List.length_map, List.length_singleton]; omega)
    rcases List.mem_append.mp m with m | m
    · obtain ⟨x, hx, rfl⟩ := List.mem_map.mp m
      refine ⟨x, e, ?_⟩
      rcases mW x hx with ⟨h | h | h, hb⟩ | ⟨h, hb⟩
      · exact .inr (.inl ⟨.inl h, hb⟩)
      · exact .inr (.inl ⟨.inr h, hb⟩)
      · exact .inl h
      · exact .inr (.inr ⟨h, hb⟩)
    · rw [List.mem_singleton.mp m] at e
      exact ⟨_, e, .inl rfl⟩
  refine ⟨mx0.1, ?_⟩
  walk_at "rz"
  intro q11 H11 hq11 g11 h11
  have F11 : FrG [dk] H H11 := fun c u nc hc => g11 _ _ (f10 c u nc (S9 _ _ hc))
  have G11 := ((G0.same S9).fr (D0.same S9) f10 n0 n1).same g11
  have D11 := D10.same g11
  clear h7 h7' h8 h9 h10 f10 ev
  walk_at "rz"
  obtain ⟨⟨y2, y3, t11⟩, l011, l111, pn11, pm11⟩ := id G11
  have tail : ∀ (H' : Hp) (nm : Str) (n k' : Int), FrG [dk] H H' → Dk H' dk s0 k' → k' ≤ k + 9 → 0 < n → (∀ h ∈ hs, Deed pr0 pr1 word h nm n) → (7 ≤ sizeLine ∧ ∀ (p : Addr) (H1 : Hp), H' p = none → Same H' H1 → H1 p = some (.lst [.int 1, .int 2, .int 3, .int 9, .int 10, .int 11, .int 100]) → spNx [.ref dk] H1 (fun x H2 => ∃ i, x = V.int i ∧ ∃ x, (H2 p = some (.tup x) ∨ H2 p = some (.lst x)) ∧ ∃ x_2, atI x (i % 7) = some x_2 ∧ ∀ (p : Addr) (H3 : Hp), H2 p = none → Same H2 H3 → H3 p = some (.tup [.str word, x_2, .str nm, .int n]) → Q (.ref p) H3) E0) := fun H' nm n k' F' D' hk' hn hd => by
    refine ⟨by omega, fun p H1 hp g1 h1 => ⟨dk, s0, k', rfl, D'.same g1, by omega, fun m2 H2 m20 f2 D2 => ⟨m2, rfl, _, .inr (f2.old h1 (D'.off hp)), ?_⟩⟩⟩
    obtain ⟨v, ev, hv⟩ := pick (xs := [V.int 1, V.int 2, V.int 3, V.int 9, V.int 10, V.int 11, V.int 100]) (i := m2) 7 rfl (by decide)
    obtain ⟨h, rfl, hh⟩ : ∃ h, v = .int h ∧ h ∈ hs := by
      simp at hv
      rcases hv with rfl | rfl | rfl | rfl | rfl | rfl | rfl <;> exact ⟨_, rfl, by decide⟩
    exact ⟨_, ev, fun p3 H3 hp3 g3 h3 => q H3 p3 word nm h n (fun c u nc hc => g3 _ _ (f2 c u nc (g1 _ _ (F' c u nc hc)))) ((D2.same g3).mono (by omega)) h3 (hd h hh)⟩
  obtain ⟨ps, ys, ds, nms, ea, nps, hps, rps, shp, hys, lnk⟩ : ∃ (ps : Addr) (ys : List V) (ds : List PyData) (nms : List Str), atI [V.ref p0, V.ref p1, y2, y3] (if inV (V.str word) [V.str (Str.ofString "put"), V.str (Str.ofString "get"), V.str (Str.ofString "bring")] = true then 1 else 0) = some (.ref ps) ∧ ps ∉ [dk] ∧ H11 ps = some (.lst ys) ∧ RpL K H11 ys ds ∧ SeqAt.shaped (.list ds) = true ∧ (∀ v ∈ ys, ∃ p nm xs c, v = .ref p ∧ H11 p = some (.tup xs) ∧ atI xs 0 = some (.str nm) ∧ atI xs (-1) = some (.int c) ∧ nm ∈ nms ∧ 0 ≤ c) ∧ (word = "leave" ∨ (ys ≠ [] ∧ (((word = "take" ∨ word = "give") ∧ nms = pr0.map (·.1)) ∨ ((word = "put" ∨ word = "get" ∨ word = "bring") ∧ nms = pr1.map (·.1))))) := by
    have i0 : ∀ v ∈ ys0, ∃ p nm xs c, v = V.ref p ∧ H11 p = some (.tup xs) ∧ atI xs 0 = some (.str nm) ∧ atI xs (-1) = some (.int c) ∧ nm ∈ pr0.map (·.1) ∧ 0 ≤ c := fun v hv => by
      obtain ⟨i, hi⟩ := List.mem_iff_getElem?.mp hv
      obtain ⟨p, nm, c, rfl, e, hp⟩ := pn11.get hi
      have := b0.2.2 _ (List.mem_of_getElem? e)
      exact ⟨p, nm, _, c, rfl, hp, atI_0, atI_last [V.str nm] _, List.mem_map_of_mem (f := (·.1)) (List.mem_of_getElem? e), by have := this.1; simp only at this; omega⟩
    have i1 : ∀ v ∈ ys1, ∃ p nm xs c, v = V.ref p ∧ H11 p = some (.tup xs) ∧ atI xs 0 = some (.str nm) ∧ atI xs (-1) = some (.int c) ∧ nm ∈ pr1.map (·.1) ∧ 0 ≤ c := fun v hv => by
      obtain ⟨i, hi⟩ := List.mem_iff_getElem?.mp hv
      obtain ⟨p, nm, n, c, rfl, e, hp⟩ := pm11.get hi
      have := b1.2.2 _ (List.mem_of_getElem? e)
      exact ⟨p, nm, _, c, rfl, hp, atI_0, atI_last [V.str nm, V.int n] _, List.mem_map_of_mem (f := (·.1)) (List.mem_of_getElem? e), by have := this.2.2.1; simp only at this; omega⟩
    have ne0 : B0 = true → ys0 ≠ [] := fun hb z => by rw [← hB0, z] at hb; cases hb
    have ne1 : B1 = true → ys1 ≠ [] := fun hb z => by rw [← hB1, z] at hb; cases hb
    have c0 : inV (V.str word) [V.str (Str.ofString "put"), V.str (Str.ofString "get"), V.str (Str.ofString "bring")] = false → atI [V.ref p0, V.ref p1, y2, y3] (if inV (V.str word) [V.str (Str.ofString "put"), V.str (Str.ofString "get"), V.str (Str.ofString "bring")] = true then 1 else 0) = some (.ref p0) := fun z => by rw [z]; exact atI_0
    have c1 : inV (V.str word) [V.str (Str.ofString "put"), V.str (Str.ofString "get"), V.str (Str.ofString "bring")] = true → atI [V.ref p0, V.ref p1, y2, y3] (if inV (V.str word) [V.str (Str.ofString "put"), V.str (Str.ofString "get"), V.str (Str.ofString "bring")] = true then 1 else 0) = some (.ref p1) := fun z => by rw [z]; exact atI_1
    have iv : ∀ x : Str, inV (V.str x) [V.str (Str.ofString "put"), V.str (Str.ofString "get"), V.str (Str.ofString "bring")] = (decide (Str.ofString "put" = x) || (decide (Str.ofString "get" = x) || decide (Str.ofString "bring" = x))) := fun x => by
      simp only [inV_cons, inV_nil, eqV_ss, Bool.or_false]
    rcases hw with rfl | ⟨hw, hb⟩ | ⟨hw, hb⟩
    · exact ⟨p0, ys0, _, _, c0 (by rw [iv]; simp only [ofString_inj, String.reduceEq, decide_false, Bool.or_self]), n0, l011, pn11.rp, sh0, i0, .inl rfl⟩
    · refine ⟨p0, ys0, _, _, c0 ?_, n0, l011, pn11.rp, sh0, i0, .inr ⟨ne0 hb, .inl ⟨hw, rfl⟩⟩⟩
      rw [iv]
      rcases hw with rfl | rfl <;> simp only [ofString_inj, String.reduceEq, decide_false, Bool.or_self]
    · refine ⟨p1, ys1, _, _, c1 ?_, n1, l111, pm11.rp, sh1, i1, .inr ⟨ne1 hb, .inr ⟨hw, rfl⟩⟩⟩
      rw [iv]
      rcases hw with rfl | rfl | rfl <;> simp only [ofString_inj, String.reduceEq, decide_false, decide_true, Bool.or_self, Bool.or_true, Bool.true_or, Bool.or_false, Bool.false_or]
  simp only [inV_cons, inV_nil, eqV_ss, Bool.or_false] at ea
  refine ⟨_, .inl t11, _, ea, ?_⟩
  clear t11 h11
  walk_at "rz"
  intro q12 H12 hq12 g12 h12
  refine ne_nil (g12 _ _ hps) (rps.mono g12) shp h12 ?_
  walk_at "rd"
  have F12 : FrG [dk] H H12 := F11.same g12
  have D12 := D11.same g12
  cases hy : ys with
  | nil =>
    refine iteF ?_
    have wl : word = "leave" := lnk.elim id fun z => absurd hy z.1
    have dd : ∀ n : Int, 0 < n → ∀ h ∈ hs, Deed pr0 pr1 word h (Str.ofString "") n := fun n hn h hh => ⟨hh, hn, .inl wl⟩
    refine ite2 (fun _ => ?_) fun _ => ?_
    · exact tail H12 (Str.ofString "") (1 + 1 % 999) _ F12 D12 (by omega) (by decide) (dd _ (by decide))
    · exact tail H12 (Str.ofString "") 1 _ F12 D12 (by omega) (by decide) (dd _ (by decide))
  | cons v0 ys' =>
    refine iteT ?_
    have hne : 0 < ys.length := by rw [hy]; simp
    clear h12
    refine ⟨dk, s0, _, rfl, D12, by omega, fun m2 H13 m20 f13 D13 => ?_⟩
    have hps13 := f13.old (g12 _ _ hps) nps
    obtain ⟨v, ev2, hvm, _⟩ := atI_in (xs := ys) (Int.emod_nonneg m2 (show (ys.length : Int) ≠ 0 by omega)) (Int.emod_lt_of_pos m2 (by omega))
    obtain ⟨p, nm, xs, c, rfl, hp, a0, a1, hnm, hc⟩ := hys v hvm
    have hp13 := f13.old (g12 _ _ hp) (D12.tup (g12 _ _ hp))
    refine ⟨ys, .inl (SqL.of hps13), m2, rfl, by omega, ys, .inr hps13, _, ev2, p, rfl, xs, .inl hp13, _, a0, dk, s0, _, rfl, D13, by omega, fun m3 H14 m30 f14 D14 => ⟨p, rfl, xs, .inl (f14.old hp13 (D13.tup hp13)), _, a1, c, rfl, fun q15 H15 hq15 g15 h15 => ?_⟩⟩
    intro q16 H16 hq16 g16 h16
    have D16 := (D14.same g15).same g16
    refine ⟨dk, s0, _, rfl, D16, by omega, fun m4 H17 m40 f17 D17 => ⟨m4, rfl, _, .inr (f17.old h16 ((D14.same g15).off hq16)), ?_⟩⟩
    obtain ⟨v, ev3, hv⟩ := pick (xs := [V.int 0, V.int 0, V.int 1, V.int 1, V.int 1, V.int 2]) (i := m4) 6 rfl (by decide)
    obtain ⟨j, rfl, j0, j2⟩ : ∃ j, v = .int j ∧ 0 ≤ j ∧ j ≤ 2 := by
      simp at hv
      rcases hv with rfl | rfl | rfl <;> exact ⟨_, rfl, by decide, by decide⟩
    obtain ⟨v, ev4, hv4, _⟩ := atI_in (xs := [V.int (c + 1), V.int 3, V.int 1000000]) j0 (by simp; omega)
    obtain ⟨c4, rfl, c40⟩ : ∃ c4, v = .int c4 ∧ 0 < c4 := by
      simp at hv4
      rcases hv4 with rfl | rfl | rfl
      · exact ⟨_, rfl, by omega⟩
      · exact ⟨_, rfl, by decide⟩
      · exact ⟨_, rfl, by decide⟩
    have F17 : FrG [dk] H H17 := fun c u nc hc => f17 c u nc (g16 _ _ (g15 _ _ (f14 c u nc (f13 c u nc (F12 c u nc hc)))))
    have r0 := Int.emod_nonneg m3 (show c4 ≠ 0 by omega)
    have dd : ∀ n : Int, 0 < n → ∀ h ∈ hs, Deed pr0 pr1 word h nm n := fun n hn h hh => ⟨hh, hn, lnk.elim (fun z => .inl z) fun z => .inr (z.2.elim (fun y => .inl ⟨y.1, y.2 ▸ hnm⟩) fun y => .inr ⟨y.1, y.2 ▸ hnm⟩)⟩
    refine ⟨_, ev3, j, rfl, _, .inr (f17.old (g16 _ _ h15) ((D14).off hq15)), _, ev4, m3, rfl, c4, rfl, c40, ite2 (fun _ => ?_) fun _ => ?_⟩
    · have s0' := Int.emod_nonneg (1 + m3 % c4) (show (999 : Int) ≠ 0 by decide)
      exact tail H17 nm (1 + (1 + m3 % c4) % 999) _ F17 D17 (by omega) (by omega) (dd _ (by omega))
    · exact tail H17 nm (1 + m3 % c4) _ F17 D17 (by omega) (by omega) (dd _ (by omega))
end
end K23

set_option Elab.async false
set_option linter.all false
set_option maxRecDepth 100000
set_option maxHeartbeats 4000000
namespace K23
open PySem L2
theorem nd_re {A B : List Addr} {a d q d' q' : Addr} (nd : (A ++ ([a, d, q] ++ B)).Nodup) (h1 : d' ∉ A ++ ([a, d, q] ++ B)) (h2 : q' ∉ A ++ ([a, d, q] ++ B)) (ne : d' ≠ q') : (A ++ ([a, d', q'] ++ B)).Nodup := by
  simp only [List.nodup_append, List.nodup_cons, List.cons_append, List.nil_append, List.mem_cons, List.mem_append, not_or, List.nodup_nil] at nd h1 h2 ⊢
  obtain ⟨nA, ⟨n1, n2, n3, nB⟩, dj⟩ := nd
  refine ⟨nA, ⟨⟨fun z => h1.2.1 z.symm, fun z => h2.2.1 z.symm, n1.2.2⟩, ⟨ne, h1.2.2.2.2⟩, h2.2.2.2.2, nB⟩, fun x hx y hy => ?_⟩
  rcases hy with rfl | rfl | rfl | hy
  · exact dj x hx _ (.inl rfl)
  · exact fun z => h1.1 (z ▸ hx)
  · exact fun z => h2.1 (z ▸ hx)
  · exact dj x hx y (.inr (.inr (.inr hy)))
/-- one tool stands anew: what it keeps lies elsewhere now -/
theorem GoA.re {CG CT CS : Addr} {H H' : Hp} {g dt ds d' q' : Addr} {l1 l2 : List Ent} {e : Ent} {ss : List EntS} {t : TS} (G : GoA CG CT CS H g dt ds (l1 ++ e :: l2) ss) (f : ∀ c u, c ≠ e.a → H c = some u → H' c = some u) (hd : H d' = none) (hq : H q' = none) (ne : d' ≠ q') (h : TlO CT H' e.a d' q' t) : GoA CG CT CS H' g dt ds (l1 ++ { e with d := d', q := q', t := t } :: l2) ss := by
  have has := G.has
  obtain ⟨⟨dx, h1⟩, h2, h3, h4, h5, nd, n1, n2⟩ := G
  have tl := h4 e (List.mem_append_right _ List.mem_cons_self)
  have e1 : g :: dt :: ds :: (adE (l1 ++ e :: l2) ++ adS ss) = (g :: dt :: ds :: adE l1) ++ ([e.a, e.d, e.q] ++ (adE l2 ++ adS ss)) := by rw [adE_mid]; simp [List.append_assoc]
  rw [e1] at nd has
  have out : ∀ c, H c = none → c ∉ (g :: dt :: ds :: adE l1) ++ ([e.a, e.d, e.q] ++ (adE l2 ++ adS ss)) := fun c hc z => by
    obtain ⟨u, hu⟩ := has c z
    rw [hc] at hu; cases hu
  have keep : ∀ c u, c ∈ (g :: dt :: ds :: adE l1) ++ (adE l2 ++ adS ss) → H c = some u → H' c = some u := fun c u hc hu => by
    have n := nd_mid nd c hc
    exact f c u (fun z => n (by rw [z]; simp)) hu
  have kt : ∀ c xs, H c = some (.tup xs) → H' c = some (.tup xs) := fun c xs hc => f c _ (fun z => by
    obtain ⟨dx, qs, k1, _⟩ := tl
    rw [z, k1] at hc; cases hc) hc
  have mE : ∀ c, c ∈ adE l1 ∨ c ∈ adE l2 ∨ c ∈ adS ss → c ∈ (g :: dt :: ds :: adE l1) ++ (adE l2 ++ adS ss) := fun c hc => by
    rcases hc with hc | hc | hc
    · exact List.mem_append_left _ (List.mem_cons_of_mem _ (List.mem_cons_of_mem _ (List.mem_cons_of_mem _ hc)))
    · exact List.mem_append_right _ (List.mem_append_left _ hc)
    · exact List.mem_append_right _ (List.mem_append_right _ hc)
  have other : ∀ e' : Ent, (∀ c, c = e'.a ∨ c = e'.d ∨ c = e'.q → c ∈ (g :: dt :: ds :: adE l1) ++ (adE l2 ++ adS ss)) → TlO CT H e'.a e'.d e'.q e'.t → TlO CT H' e'.a e'.d e'.q e'.t := fun e' hm tl' => tl'.grow fun c u hc hu => by
    rcases hc with hc | hc | hc | ⟨xs, rfl⟩
    · exact keep c u (hm c (.inl hc)) hu
    · exact keep c u (hm c (.inr (.inl hc))) hu
    · exact keep c u (hm c (.inr (.inr hc))) hu
    · exact kt c xs hu
  have ek : kvE (l1 ++ { e with d := d', q := q', t := t } :: l2) = kvE (l1 ++ e :: l2) := by unfold kvE; rw [List.map_append, List.map_append, List.map_cons, List.map_cons]
  refine ⟨⟨dx, keep g _ (by simp) h1⟩, by rw [ek]; exact keep dt _ (by simp) h2, keep ds _ (by simp) h3, fun e' he' => ?_, fun e' he' => ?_, ?_, ?_, n2⟩
  · rcases List.mem_append.mp he' with hm | hm
    · have i1 := in_adE hm
      refine other e' (fun c hc => mE c (.inl ?_)) (h4 e' (List.mem_append_left _ hm))
      rcases hc with rfl | rfl | rfl
      · exact i1.1
      · exact i1.2.1
      · exact i1.2.2
    · rcases List.mem_cons.mp hm with rfl | hm
      · exact h
      · have i1 := in_adE hm
        refine other e' (fun c hc => mE c (.inr (.inl ?_))) (h4 e' (List.mem_append_right _ (List.mem_cons_of_mem _ hm)))
        rcases hc with rfl | rfl | rfl
        · exact i1.1
        · exact i1.2.1
        · exact i1.2.2
  · have i1 := in_adS he'
    refine (h5 e' he').grow fun c u hc hu => ?_
    rcases hc with rfl | rfl | rfl | ⟨xs, rfl⟩
    · exact keep _ u (mE _ (.inr (.inr i1.1))) hu
    · exact keep _ u (mE _ (.inr (.inr i1.2.1))) hu
    · exact keep _ u (mE _ (.inr (.inr i1.2.2))) hu
    · exact kt c xs hu
  · have := nd_re nd (out _ hd) (out _ hq) ne
    rw [adE_mid]
    have e2 : (g :: dt :: ds :: adE l1) ++ ([e.a, d', q'] ++ (adE l2 ++ adS ss)) = g :: dt :: ds :: ((adE l1 ++ ([e.a, d', q'] ++ adE l2)) ++ adS ss) := by simp [List.append_assoc]
    rw [e2] at this
    exact this
  · rw [List.map_append, List.map_cons] at n1 ⊢; exact n1
/-- one store stands anew -/
theorem GoA.reS {CG CT CS : Addr} {H H' : Hp} {g dt ds d' q' : Addr} {es : List Ent} {l1 l2 : List EntS} {e : EntS} {s : SS} (G : GoA CG CT CS H g dt ds es (l1 ++ e :: l2)) (f : ∀ c u, c ≠ e.a → H c = some u → H' c = some u) (hd : H d' = none) (hq : H q' = none) (ne : d' ≠ q') (h : StO CS H' e.a d' q' s) : GoA CG CT CS H' g dt ds es (l1 ++ { e with g := d', p := q', s := s } :: l2) := by
  have has := G.has
  obtain ⟨⟨dx, h1⟩, h2, h3, h4, h5, nd, n1, n2⟩ := G
  have tl := h5 e (List.mem_append_right _ List.mem_cons_self)
  have e1 : g :: dt :: ds :: (adE es ++ adS (l1 ++ e :: l2)) = (g :: dt :: ds :: (adE es ++ adS l1)) ++ ([e.a, e.g, e.p] ++ adS l2) := by rw [adS_mid]; simp [List.append_assoc]
  rw [e1] at nd has
  have out : ∀ c, H c = none → c ∉ (g :: dt :: ds :: (adE es ++ adS l1)) ++ ([e.a, e.g, e.p] ++ adS l2) := fun c hc z => by
    obtain ⟨u, hu⟩ := has c z
    rw [hc] at hu; cases hu
  have keep : ∀ c u, c ∈ (g :: dt :: ds :: (adE es ++ adS l1)) ++ adS l2 → H c = some u → H' c = some u := fun c u hc hu => by
    have n := nd_mid nd c hc
    exact f c u (fun z => n (by rw [z]; simp)) hu
  have kt : ∀ c xs, H c = some (.tup xs) → H' c = some (.tup xs) := fun c xs hc => f c _ (fun z => by
    obtain ⟨dx, gs, ps, k1, _⟩ := tl
    rw [z, k1] at hc; cases hc) hc
  have mE : ∀ c, c ∈ adE es ∨ c ∈ adS l1 ∨ c ∈ adS l2 → c ∈ (g :: dt :: ds :: (adE es ++ adS l1)) ++ adS l2 := fun c hc => by
    rcases hc with hc | hc | hc
    · exact List.mem_append_left _ (List.mem_cons_of_mem _ (List.mem_cons_of_mem _ (List.mem_cons_of_mem _ (List.mem_append_left _ hc))))
    · exact List.mem_append_left _ (List.mem_cons_of_mem _ (List.mem_cons_of_mem _ (List.mem_cons_of_mem _ (List.mem_append_right _ hc))))
    · exact List.mem_append_right _ hc
  have ek : kvS (l1 ++ { e with g := d', p := q', s := s } :: l2) = kvS (l1 ++ e :: l2) := by unfold kvS; rw [List.map_append, List.map_append, List.map_cons, List.map_cons]
  have other : ∀ e' : EntS, (∀ c, c = e'.a ∨ c = e'.g ∨ c = e'.p → c ∈ (g :: dt :: ds :: (adE es ++ adS l1)) ++ adS l2) → StO CS H e'.a e'.g e'.p e'.s → StO CS H' e'.a e'.g e'.p e'.s := fun e' hm tl' => tl'.grow fun c u hc hu => by
    rcases hc with hc | hc | hc | ⟨xs, rfl⟩
    · exact keep c u (hm c (.inl hc)) hu
    · exact keep c u (hm c (.inr (.inl hc))) hu
    · exact keep c u (hm c (.inr (.inr hc))) hu
    · exact kt c xs hu
  refine ⟨⟨dx, keep g _ (by simp) h1⟩, keep dt _ (by simp) h2, by rw [ek]; exact keep ds _ (by simp) h3, fun e' he' => ?_, fun e' he' => ?_, ?_, n1, ?_⟩
  · have i1 := in_adE he'
    refine (h4 e' he').grow fun c u hc hu => ?_
    rcases hc with rfl | rfl | rfl | ⟨xs, rfl⟩
    · exact keep _ u (mE _ (.inl i1.1)) hu
    · exact keep _ u (mE _ (.inl i1.2.1)) hu
    · exact keep _ u (mE _ (.inl i1.2.2)) hu
    · exact kt c xs hu
  · rcases List.mem_append.mp he' with hm | hm
    · have i1 := in_adS hm
      refine other e' (fun c hc => mE c (.inr (.inl ?_))) (h5 e' (List.mem_append_left _ hm))
      rcases hc with rfl | rfl | rfl
      · exact i1.1
      · exact i1.2.1
      · exact i1.2.2
    · rcases List.mem_cons.mp hm with rfl | hm
      · exact h
      · have i1 := in_adS hm
        refine other e' (fun c hc => mE c (.inr (.inr ?_))) (h5 e' (List.mem_append_right _ (List.mem_cons_of_mem _ hm)))
        rcases hc with rfl | rfl | rfl
        · exact i1.1
        · exact i1.2.1
        · exact i1.2.2
  · have := nd_re nd (out _ hd) (out _ hq) ne
    rw [adS_mid]
    have e2 : (g :: dt :: ds :: (adE es ++ adS l1)) ++ ([e.a, d', q'] ++ adS l2) = g :: dt :: ds :: (adE es ++ (adS l1 ++ ([e.a, d', q'] ++ adS l2))) := by simp [List.append_assoc]
    rw [e2] at this
    exact this
  · rw [List.map_append, List.map_cons] at n2 ⊢; exact n2
/-- told tools, as they are handed in -/
inductive TdL (H : Hp) : List V → List TS → Prop
  | nil : TdL H [] []
  | cons {p ph pq : Addr} {hv qv : List V} {t : TS} {vs : List V} {ts : List TS} : H p = some (.tup [.int t.free, .ref ph, .ref pq]) → H ph = some (.lst hv) → Prs H hv t.held → H pq = some (.lst qv) → Prs H qv t.que → (t.held.map (·.1)).Nodup → HsOk t → t.que.length ≤ 200 → TdL H vs ts → TdL H (.ref p :: vs) (t :: ts)
theorem TdL.get {H : Hp} {vs : List V} {ts : List TS} (t : TdL H vs ts) : ∀ {i : Nat} {v : V}, vs[i]? = some v → ∃ p ph pq hv qv t, v = .ref p ∧ ts[i]? = some t ∧ H p = some (.tup [.int t.free, .ref ph, .ref pq]) ∧ H ph = some (.lst hv) ∧ Prs H hv t.held ∧ H pq = some (.lst qv) ∧ Prs H qv t.que ∧ (t.held.map (·.1)).Nodup ∧ HsOk t ∧ t.que.length ≤ 200 := by
  induction t with
  | nil => intro i v e; simp at e
  | cons a b c d e' f g h _ ih =>
    intro i v e
    cases i with
    | zero => simp at e; exact ⟨_, _, _, _, _, _, e.symm, rfl, a, b, c, d, e', f, g, h⟩
    | succ i => simpa using ih (i := i) (v := v) (by simpa using e)
theorem TdL.length {H : Hp} {vs : List V} {ts : List TS} (t : TdL H vs ts) : vs.length = ts.length := by
  induction t with
  | nil => rfl
  | cons _ _ _ _ _ _ _ _ _ ih => rw [List.length_cons, List.length_cons, ih]
theorem TdL.grow {H H' : Hp} (g : ∀ c u, (∃ xs, u = HO.tup xs ∨ u = HO.lst xs) → H c = some u → H' c = some u) {vs : List V} {ts : List TS} (t : TdL H vs ts) : TdL H' vs ts := by
  induction t with
  | nil => exact .nil
  | cons a b c d e f k h _ ih => exact .cons (g _ _ ⟨_, .inl rfl⟩ a) (g _ _ ⟨_, .inr rfl⟩ b) (c.mono fun _ xs hc => g _ _ ⟨xs, .inl rfl⟩ hc) (g _ _ ⟨_, .inr rfl⟩ d) (e.mono fun _ xs hc => g _ _ ⟨xs, .inl rfl⟩ hc) f k h ih
end K23

set_option Elab.async false
set_option linter.all false
set_option maxRecDepth 100000
set_option maxHeartbeats 4000000
namespace K23
open PySem L2
/-- told stores, as they are handed in -/
inductive SdL (H : Hp) : List V → List SS → Prop
  | nil : SdL H [] []
  | cons {p pg pp : Addr} {gv pv : List V} {s : SS} {vs : List V} {ts : List SS} : H p = some (.tup [.int s.level, .ref pg, .ref pp]) → H pg = some (.lst gv) → Prs H gv s.gets → H pp = some (.lst pv) → Prs H pv s.puts → s.gets.length ≤ 200 → s.puts.length ≤ 200 → SdL H vs ts → SdL H (.ref p :: vs) (s :: ts)
theorem SdL.get {H : Hp} {vs : List V} {ts : List SS} (t : SdL H vs ts) : ∀ {i : Nat} {v : V}, vs[i]? = some v → ∃ p pg pp gv pv s, v = .ref p ∧ ts[i]? = some s ∧ H p = some (.tup [.int s.level, .ref pg, .ref pp]) ∧ H pg = some (.lst gv) ∧ Prs H gv s.gets ∧ H pp = some (.lst pv) ∧ Prs H pv s.puts ∧ s.gets.length ≤ 200 ∧ s.puts.length ≤ 200 := by
  induction t with
  | nil => intro i v e; simp at e
  | cons a b c d e' f g _ ih =>
    intro i v e
    cases i with
    | zero => simp at e; exact ⟨_, _, _, _, _, _, e.symm, rfl, a, b, c, d, e', f, g⟩
    | succ i => simpa using ih (i := i) (v := v) (by simpa using e)
theorem SdL.length {H : Hp} {vs : List V} {ts : List SS} (t : SdL H vs ts) : vs.length = ts.length := by
  induction t with
  | nil => rfl
  | cons _ _ _ _ _ _ _ _ ih => rw [List.length_cons, List.length_cons, ih]
theorem SdL.grow {H H' : Hp} (g : ∀ c u, (∃ xs, u = HO.tup xs ∨ u = HO.lst xs) → H c = some u → H' c = some u) {vs : List V} {ts : List SS} (t : SdL H vs ts) : SdL H' vs ts := by
  induction t with
  | nil => exact .nil
  | cons a b c d e f k _ ih => exact .cons (g _ _ ⟨_, .inl rfl⟩ a) (g _ _ ⟨_, .inr rfl⟩ b) (c.mono fun _ xs hc => g _ _ ⟨xs, .inl rfl⟩ hc) (g _ _ ⟨_, .inr rfl⟩ d) (e.mono fun _ xs hc => g _ _ ⟨xs, .inl rfl⟩ hc) f k ih
theorem Prs.prk {H : Hp} : ∀ {vs : List V} {ps : List (Int × Int)}, Prs H vs ps → PrK H vs (hk ps)
  | _, _, .nil => .nil
  | _, _, .cons (h := h) hp r => .cons (k := .inl h) hp r.prk
theorem hk_all {l : List (Int × Int)} (nd : (l.map (·.1)).Nodup) : putAll (hk l) = hk l := by
  unfold putAll
  rw [putAll_nd _ [] ?_, List.nil_append]
  rw [List.nil_append]
  unfold hk
  rw [List.map_map]
  have : ∀ l : List Int, l.Nodup → (l.map (Sum.inl : Int → Key)).Nodup := by
    intro l
    induction l with
    | nil => intro _; exact .nil
    | cons x r ih =>
      intro h
      rw [List.nodup_cons] at h
      rw [List.map_cons, List.nodup_cons]
      refine ⟨fun z => ?_, ih h.2⟩
      obtain ⟨y, hy, e⟩ := List.mem_map.mp z
      cases e
      exact h.1 hy
  have h2 := this _ nd
  rw [List.map_map] at h2
  exact h2
theorem zw_a {β γ : Type} {f : β → Addr} {g : β → γ → Addr} (h : ∀ b c, g b c = f b) : ∀ {l : List β} {m : List γ}, l.length ≤ m.length → List.zipWith g l m = l.map f
  | [], _, _ => by simp
  | b :: l, [], hl => absurd hl (by simp)
  | b :: l, c :: m, hl => by rw [List.zipWith_cons_cons, List.map_cons, h, zw_a h (by simpa using hl)]
def tE (e : Ent) : Str × Addr × Int × TS := (e.name, e.a, e.c, e.t)
def sE (e : EntS) : Str × Addr × SS := (e.name, e.a, e.s)
section
variable {P : Program} {w : World} {K : PySem.W.Frag} {mg : Str → Option Value} {base : Heap}
def spStand (CG CT CS : Addr) : Sp := fun vs H Q _ => ∃ (g dt ds lt ls : Addr) (es : List Ent) (ss : List EntS) (vt vl : List V) (ts : List TS) (sl : List SS), vs = [.ref g, .ref lt, .ref ls] ∧ GoA CG CT CS H g dt ds es ss ∧ H lt = some (.lst vt) ∧ TdL H vt ts ∧ ts.length = es.length ∧ es.length ≤ 200 ∧ H ls = some (.lst vl) ∧ SdL H vl sl ∧ sl.length = ss.length ∧ ss.length ≤ 200 ∧
  ∀ (H' : Hp) (es' : List Ent) (ss' : List EntS), FrG (es.map (·.a) ++ ss.map (·.a)) H H' → GoA CG CT CS H' g dt ds es' ss' → es'.map tE = List.zipWith (fun e t => (e.name, e.a, e.c, t)) es ts → ss'.map sE = List.zipWith (fun e s => (e.name, e.a, ⟨s.level, e.s.most, s.gets, s.puts⟩)) ss sl → (∀ c ∈ adE es' ++ adS ss', c ∈ es.map (·.a) ++ ss.map (·.a) ∨ H c = none) → Q .non H'
def SaI (CG CT CS g dt ds lt ls : Addr) (o : Obj) (es : List Ent) (ss : List EntS) (ts : List TS) (H : Hp) (i : Nat) (σ : St) (H' : Hp) : Prop := ∃ (es1 : List Ent) (v3 v4 v5 : Option V), σ = [some (.ref g), some (.ref lt), some (.ref ls), v3, v4, v5] ∧ H' dt = some (.frz o (.dK (kvE es))) ∧ GoA CG CT CS (upd H' dt (.dK (kvE es))) g dt ds (es1 ++ es.drop i) ss ∧ FrG (es.map (·.a)) H (upd H' dt (.dK (kvE es))) ∧
  es1.map tE = List.zipWith (fun e t => (e.name, e.a, e.c, t)) (es.take i) (ts.take i) ∧ ∀ c ∈ adE es1, c ∈ es.map (·.a) ∨ H c = none
def SbI (CG CT CS g dt ds lt ls : Addr) (o : Obj) (es : List Ent) (ss : List EntS) (sl : List SS) (H : Hp) (i : Nat) (σ : St) (H' : Hp) : Prop := ∃ (ss1 : List EntS) (v3 v4 v5 : Option V), σ = [some (.ref g), some (.ref lt), some (.ref ls), v3, v4, v5] ∧ H' ds = some (.frz o (.dK (kvS ss))) ∧ GoA CG CT CS (upd H' ds (.dK (kvS ss))) g dt ds es (ss1 ++ ss.drop i) ∧ FrG (ss.map (·.a)) H (upd H' ds (.dK (kvS ss))) ∧
  ss1.map sE = List.zipWith (fun e s => (e.name, e.a, ⟨s.level, e.s.most, s.gets, s.puts⟩)) (ss.take i) (sl.take i) ∧ ∀ c ∈ adS ss1, c ∈ ss.map (·.a) ∨ H c = none
theorem ok_stand {CG CT CS : Addr} (D : MethAt K CG "stand" "Goods.stand" s_Goods_stand ["self", "tools", "stores"]) (CL_Goods : Cls K CG) (N_Goods_by_tool : NoAttr K CG "by_tool") (N_Goods_by_store : NoAttr K CG "by_store") (CL_Tool : Cls K CT) (N_Tool_free : NoAttr K CT "free") (N_Tool_held : NoAttr K CT "held") (N_Tool_queue : NoAttr K CT "queue")
    (CL_Store : Cls K CS) (N_Store_level : NoAttr K CS "level") (N_Store_getters : NoAttr K CS "getters") (N_Store_putters : NoAttr K CS "putters") (hzip : mg "zip" = none) (hdict : mg "dict" = none) (hlist : mg "list" = none) : OkM P w K mg base 1 CG "stand" ["self", "tools", "stores"] (spStand CG CT CS) := by
  refine D.ok CL_Goods sc_Goods_stand (fun vs H Q E h => ?_) (fun f cdv A outer s H vs Q E hr h => ?_)
  · obtain ⟨_, _, _, _, _, _, _, _, _, _, _, rfl, _⟩ := h; rfl
  obtain ⟨g, dt, ds, lt, ls, es, ss, vt, vl, ts, sl, rfl, G, ht, td, lte, le, hs, sd, lse, lss, q⟩ := h
  have big : 100000 ≤ sizeLine := by unfold sizeLine; decide
  have lk : (kvE es).length = es.length := by unfold kvE; rw [List.length_map]
  have lv := td.length
  obtain ⟨⟨dx, g1⟩, g2, g3, g4, g5, nd, n1, n2⟩ := id G
  refine ⟨_, (pss_cons (ps_forU PassesOwn.never rfl (pi_zipV rfl hzip (pa_c (pe_valsE (pe_fldG CL_Goods N_Goods_by_tool (pv 0))) (pa_c (pv 1) pa_nil))) (pg_tupG 2 rfl (pgs_cons (pg_name (i := 3) sc_Goods_stand.nd rfl (Or.inl rfl)) (pgs_cons (pg_name (i := 4) sc_Goods_stand.nd rfl (Or.inl rfl)) pgs_nil)))
  (pss_cons (ps_fldG CL_Tool N_Tool_free (pv 3) (pe_ix ix_g (pv 4) pe_int (fun _ _ => rfl)))
  (pss_cons (ps_fldG CL_Tool N_Tool_held (pv 3) (pe_cTy call_dictP rfl hdict (by decide +kernel) (pa_c (pe_ix ix_g (pv 4) pe_int (fun _ _ => rfl)) pa_nil)))
  (pss_one (ps_fldG CL_Tool N_Tool_queue (pv 3) (pe_cTy call_listG rfl hlist (by decide +kernel) (pa_c (pe_ix ix_g (pv 4) pe_int (fun _ _ => rfl)) pa_nil)))))))
  (pss_one (ps_forU PassesOwn.never rfl (pi_zipV rfl hzip (pa_c (pe_valsE (pe_fldG CL_Goods N_Goods_by_store (pv 0))) (pa_c (pv 2) pa_nil))) (pg_tupG 2 rfl (pgs_cons (pg_name (i := 5) sc_Goods_stand.nd rfl (Or.inl rfl)) (pgs_cons (pg_name (i := 4) sc_Goods_stand.nd rfl (Or.inl rfl)) pgs_nil)))
  (pss_cons (ps_fldG CL_Store N_Store_level (pv 5) (pe_ix ix_g (pv 4) pe_int (fun _ _ => rfl)))
  (pss_cons (ps_fldG CL_Store N_Store_getters (pv 5) (pe_cTy call_listG rfl hlist (by decide +kernel) (pa_c (pe_ix ix_g (pv 4) pe_int (fun _ _ => rfl)) pa_nil)))
  (pss_one (ps_fldG CL_Store N_Store_putters (pv 5) (pe_cTy call_listG rfl hlist (by decide +kernel) (pa_c (pe_ix ix_g (pv 4) pe_int (fun _ _ => rfl)) pa_nil))))))))), ?_⟩
  walk_at "r2"
  unfold tForU
  refine tfor_in ?_
  simp only [iZipV]
  walk_at "r2"
  simp only [tValsE]
  walk_at "r2"
  intro pv H1 hpv s1 h1
  have G1 := G.same s1
  have t1 := s1 _ _ ht
  have d1 := s1 _ _ g2
  have td1 := td.grow fun c u _ hc => s1 c u hc
  have npd : dt ≠ pv := fun z => by rw [z, hpv] at g2; cases g2
  refine ⟨pv, rfl, dt, lt, _, rfl, h1, d1, ⟨_, SqL.of t1⟩, fun o nf => ?_⟩
  have U0 : upd (upd H1 dt (.frz o (.dK (kvE es)))) dt (.dK (kvE es)) = H1 := by
    funext c
    by_cases z : c = dt
    · rw [z, upd_same, d1]
    · rw [upd_ne z, upd_ne z]
  refine for_zipV (ys := vt) (by rw [lk, lv, lte]) (SaI CG CT CS g dt ds lt ls o es ss ts H) ?_ ?_ ?_ ?_
  · unfold SaI
    rw [U0]
    exact ⟨[], _, _, _, rfl, upd_same, G1, fun c u _ hc => s1 c u hc, rfl, fun c hc => absurd hc List.not_mem_nil⟩
  · intro i σ H2 hi z
    unfold SaI at z
    obtain ⟨es1, v3, v4, v5, rfl, f2, G2, fr2, e2, a2⟩ := z
    refine ⟨f2, ?_⟩
    have nl : lt ≠ dt := fun z => by rw [z, g2] at ht; cases ht
    have h2 := fr2 lt _ (fun z => by
      obtain ⟨e, he, rfl⟩ := List.mem_map.mp z
      obtain ⟨dx1, qs1, j1, _⟩ := g4 e he
      rw [j1] at ht; cases ht) ht
    rw [upd_ne nl] at h2
    exact SqL.of h2
  · intro i k x y σ H2 p H3 hx hy z hp s3 h3
    unfold SaI at z
    obtain ⟨es1, v3, v4, v5, rfl, f2, G2, fr2, e2, a2⟩ := z
    have hi : i < es.length := by have := (List.getElem?_eq_some_iff.mp hy).1; omega
    obtain ⟨e, he⟩ : ∃ e, es[i]? = some e := ⟨_, List.getElem?_eq_getElem hi⟩
    obtain ⟨hi', ee⟩ := List.getElem?_eq_some_iff.mp he
    have xe : x = .ref e.a := by
      unfold kvE at hx
      rw [List.getElem?_map, he] at hx
      cases hx; rfl
    subst xe
    obtain ⟨pt, ph, pq, hv, qv, t, rfl, et, k1, k2, k3, k4, k5, k6, k7, k8⟩ := td.get hy
    have notA : ∀ c u, (∃ xs, u = HO.tup xs ∨ u = HO.lst xs) → H c = some u → c ∉ es.map (·.a) := fun c u hu hc z => by
      obtain ⟨e', he', rfl⟩ := List.mem_map.mp z
      obtain ⟨dx1, qs1, j1, _⟩ := g4 e' he'
      rw [j1] at hc
      obtain ⟨xs, rfl | rfl⟩ := hu <;> cases hc
    have carry : ∀ c u, (∃ xs, u = HO.tup xs ∨ u = HO.lst xs) → H c = some u → H3 c = some u := fun c u hu hc => by
      have h2 := fr2 c u (notA c u hu hc) hc
      have nc : c ≠ dt := fun z => by
        rw [z, g2] at hc
        obtain ⟨xs, rfl | rfl⟩ := hu <;> cases hc
      rw [upd_ne nc] at h2
      exact s3 _ _ h2
    have c1 := carry _ _ ⟨_, .inl rfl⟩ k1
    have c2 := carry _ _ ⟨_, .inr rfl⟩ k2
    have c4 := carry _ _ ⟨_, .inr rfl⟩ k4
    have c3 := k3.mono fun c xs hc => carry c _ ⟨xs, .inl rfl⟩ hc
    have c5 := k5.mono fun c xs hc => carry c _ ⟨xs, .inl rfl⟩ hc
    rw [List.drop_eq_getElem_cons hi', ee] at G2
    obtain ⟨dxa, qs0, j1, j2, j3, _⟩ := G2.2.2.2.1 e (List.mem_append_right _ List.mem_cons_self)
    have nea : e.a ≠ dt := fun z => by rw [z, upd_same] at j1; cases j1
    have j3 : H3 e.a = _ := s3 _ _ (by rw [upd_ne nea] at j1; exact j1)
    have j3' := j3
    clear k1 k2 k3 k4 k5 j1 j2 h1 d1 t1 hs g1 g2 g3 ht
    walk_at "r2"
    intro H4 m4
    have a4 : H4 e.a = some (.ins CT dxa [("free", .int t.free), ("held", .ref e.d), ("queue", .ref e.q)]) := by rw [m4.at_]; rfl
    have old4 : ∀ c u, (∃ xs, u = HO.tup xs ∨ u = HO.lst xs) → H3 c = some u → H4 c = some u := fun c u hu hc => m4.old hc fun z => by
      rw [z, j3] at hc
      obtain ⟨xs, rfl | rfl⟩ := hu <;> cases hc
    have f1 := old4 _ _ ⟨_, .inl rfl⟩ c1
    have f2' := old4 _ _ ⟨_, .inr rfl⟩ c2
    have f4 := old4 _ _ ⟨_, .inr rfl⟩ c4
    have f3 := c3.mono fun c xs hc => old4 c _ ⟨xs, .inl rfl⟩ hc
    clear h3
    walk_at "r2"
    have hl := held_len k6 k7
    refine ⟨hk t.held, f3.prk, by unfold hk; rw [List.length_map]; omega, fun d' H5 hd' s5 h5 => ?_⟩
    rw [hk_all k6] at h5
    have a5 := s5 _ _ a4
    have b1 := s5 _ _ f1
    have b4 := s5 _ _ f4
    clear a4 f1 f2' f4 c1 c2 c4 j3
    walk_at "r2"
    intro H6 m6
    have nd' : d' ≠ e.a := fun z => by rw [z] at hd'; have := m4.at_; rw [hd'] at this; cases this
    have a6 : H6 e.a = some (.ins CT dxa [("free", .int t.free), ("held", .ref d'), ("queue", .ref e.q)]) := by rw [m6.at_]; rfl
    have old6 : ∀ c u, c ≠ e.a → H5 c = some u → H6 c = some u := fun c u hc hu => m6.old hu hc
    have npt : pt ≠ e.a := fun z => by rw [z, a5] at b1; cases b1
    have npq : pq ≠ e.a := fun z => by rw [z, a5] at b4; cases b4
    have b1' := old6 _ _ npt b1
    have b4' := old6 _ _ npq b4
    clear b1 b4 a5
    walk_at "r2"
    intro q' H7 hq' s7 h7
    have a7 := s7 _ _ a6
    clear a6
    walk_at "r2"
    intro H8 m8
    have a8 : H8 e.a = some (.ins CT dxa [("free", .int t.free), ("held", .ref d'), ("queue", .ref q')]) := by rw [m8.at_]; rfl
    have nq' : q' ≠ e.a := fun z => by rw [z] at hq'; rw [m6.at_] at hq'; cases hq'
    have all8 : ∀ c u, c ≠ e.a → H2 c = some u → H8 c = some u := fun c u hc hu => m8.old (s7 _ _ (m6.old (s5 _ _ (m4.old (s3 _ _ hu) hc)) hc)) hc
    have f8 := all8 dt _ nea.symm f2
    have u8 : ∀ c u, c ≠ e.a → upd H2 dt (.dK (kvE es)) c = some u → upd H8 dt (.dK (kvE es)) c = some u := fun c u hc hu => by
      by_cases z : c = dt
      · rw [z, upd_same] at hu ⊢; exact hu
      · rw [upd_ne z] at hu ⊢; exact all8 c u hc hu
    have d8 : H8 d' = some (.dK (hk t.held)) := m8.old (s7 _ _ (m6.old h5 nd')) nd'
    have q8 : H8 q' = some (.lst qv) := m8.old h7 nq'
    have nd2 : H2 d' = none := by
      cases z : H2 d' with
      | none => rfl
      | some u =>
        have := m4.old (s3 _ _ z) nd'
        rw [hd'] at this; cases this
    have nq2 : H2 q' = none := by
      cases z : H2 q' with
      | none => rfl
      | some u =>
        have := m6.old (s5 _ _ (m4.old (s3 _ _ z) nq')) nq'
        rw [hq'] at this; cases this
    have dnd : d' ≠ dt := fun z => by rw [z, f2] at nd2; cases nd2
    have qnd : q' ≠ dt := fun z => by rw [z, f2] at nq2; cases nq2
    have dq : d' ≠ q' := fun z => by rw [z, q8] at d8; cases d8
    have pr8 : Prs (upd H8 dt (.dK (kvE es))) qv t.que := c5.mono fun c xs hc => by
      have hc8 : H8 c = some (.tup xs) := m8.old (s7 _ _ (m6.old (s5 _ _ (m4.old hc (fun z => by rw [z, j3'] at hc; cases hc))) (fun z => by rw [z, j3'] at hc; cases hc))) (fun z => by rw [z, j3'] at hc; cases hc)
      rw [upd_ne (fun z => by rw [z, f8] at hc8; cases hc8)]
      exact hc8
    have tl8 : TlO CT (upd H8 dt (.dK (kvE es))) e.a d' q' t := ⟨dxa, qv, by rw [upd_ne nea]; exact a8, by rw [upd_ne dnd]; exact d8, by rw [upd_ne qnd]; exact q8, pr8, k6, k7, k8⟩
    have G8 := G2.re u8 (by rw [upd_ne dnd]; exact nd2) (by rw [upd_ne qnd]; exact nq2) dq tl8
    unfold SaI
    refine ⟨es1 ++ [{ e with d := d', q := q', t := t }], _, _, _, rfl, f8, by rw [List.append_assoc]; exact G8, fun c u hc hu => ?_, ?_, fun c hc => ?_⟩
    · exact u8 c u (fun z => hc (by rw [z]; exact List.mem_map_of_mem (f := (·.a)) (List.mem_of_getElem? he))) (fr2 c u hc hu)
    · rw [List.map_append, e2, take_snoc he, take_snoc et, List.zipWith_append (by rw [List.length_take, List.length_take]; omega)]
      rfl
    · unfold adE at hc
      rw [List.flatMap_append] at hc
      rcases List.mem_append.mp hc with hc | hc
      · exact a2 c hc
      · simp only [List.flatMap_cons, List.flatMap_nil, List.append_nil, List.mem_cons, List.not_mem_nil, or_false] at hc
        have back : ∀ c, H2 c = none → c ≠ dt → H c = none := fun c h1 h2 => by
          cases z : H c with
          | none => rfl
          | some u =>
            have hA : c ∉ es.map (·.a) := fun y => by
              obtain ⟨e', he', rfl⟩ := List.mem_map.mp y
              have i1 := fr2
              obtain ⟨u', hu'⟩ := G2.has e'.a (by
                have : e'.a ∈ adE (es1 ++ e :: es.drop (i + 1)) := by
                  have ea : es1.map (·.a) = (es.take i).map (·.a) := by
                    have := congrArg (List.map fun x : Str × Addr × Int × TS => x.2.1) e2
                    rw [List.map_map, List.map_zipWith] at this
                    rw [show es1.map (·.a) = es1.map ((fun x : Str × Addr × Int × TS => x.2.1) ∘ tE) from rfl, this]
                    exact zw_a (f := fun x : Ent => x.a) (g := fun (x : Ent) (y : TS) => x.a) (l := es.take i) (m := ts.take i) (fun _ _ => rfl) (by rw [List.length_take, List.length_take]; omega)
                  have ce : e :: es.drop (i + 1) = es.drop i := by rw [List.drop_eq_getElem_cons hi', ee]
                  rw [ce]
                  rw [← List.take_append_drop i es] at he'
                  rcases List.mem_append.mp he' with hm | hm
                  · obtain ⟨e1, m1, q1⟩ := List.mem_map.mp (show e'.a ∈ es1.map (·.a) by rw [ea]; exact List.mem_map_of_mem hm)
                    rw [← q1]
                    exact (in_adE (List.mem_append_left _ m1)).1
                  · exact (in_adE (List.mem_append_right _ hm)).1
                exact List.mem_cons_of_mem _ (List.mem_cons_of_mem _ (List.mem_cons_of_mem _ (List.mem_append_left _ this))))
              rw [upd_ne h2, h1] at hu'; cases hu'
            have := fr2 c u hA z
            rw [upd_ne h2, h1] at this; cases this
        rcases hc with rfl | rfl | rfl
        · exact .inl (List.mem_map_of_mem (f := (·.a)) (List.mem_of_getElem? he))
        · exact .inr (back _ nd2 dnd)
        · exact .inr (back _ nq2 qnd)
  · intro σ H2 z
    unfold SaI at z
    obtain ⟨es1, v3, v4, v5, rfl, f2, G2, fr2, e2, a2⟩ := z
    rw [List.drop_of_length_le (by omega), List.append_nil] at G2
    rw [List.take_of_length_le (by omega), List.take_of_length_le (by omega)] at e2
    refine ⟨dt, o, _, nf, f2, ?_⟩
    generalize hU : upd H2 dt (.dK (kvE es)) = U at G2 fr2
    clear hU f2 U0 h1 d1 t1 G1 td1
    have notT : ∀ c u, (∃ xs, u = HO.tup xs ∨ u = HO.lst xs) → H c = some u → U c = some u := fun c u hu hc => fr2 c u (fun z => by
      obtain ⟨e', he', rfl⟩ := List.mem_map.mp z
      obtain ⟨dx1, qs1, j1, _⟩ := g4 e' he'
      rw [j1] at hc
      obtain ⟨xs, rfl | rfl⟩ := hu <;> cases hc) hc
    have sdU := sd.grow notT
    have lsU := notT _ _ ⟨_, .inr rfl⟩ hs
    have lvs := sd.length
    have lkS : (kvS ss).length = ss.length := by unfold kvS; rw [List.length_map]
    obtain ⟨⟨dxU, u1⟩, u2, u3, u4, u5, ndU, _, _⟩ := id G2
    clear ht hs g1 g2 g3
    refine tfor_in ?_
    simp only [iZipV]
    walk_at "r2"
    simp only [tValsE]
    walk_at "r2"
    intro pv2 H3 hpv2 s3 h3
    have G3 := G2.same s3
    have t3 := s3 _ _ lsU
    have d3 := s3 _ _ u3
    refine ⟨pv2, rfl, ds, ls, _, rfl, h3, d3, ⟨_, SqL.of t3⟩, fun o2 nf2 => ?_⟩
    have U3 : upd (upd H3 ds (.frz o2 (.dK (kvS ss)))) ds (.dK (kvS ss)) = H3 := by
      funext c
      by_cases z : c = ds
      · rw [z, upd_same, d3]
      · rw [upd_ne z, upd_ne z]
    refine for_zipV (ys := vl) (by rw [lkS, lvs, lse]) (SbI CG CT CS g dt ds lt ls o2 es1 ss sl U) ?_ ?_ ?_ ?_
    · unfold SbI
      rw [U3]
      exact ⟨[], _, _, _, rfl, upd_same, G3, fun c u _ hc => s3 c u hc, rfl, fun c hc => absurd hc List.not_mem_nil⟩
    · intro i σ H4 hi z
      unfold SbI at z
      obtain ⟨ss1, v3', v4', v5', rfl, f4, G4, fr4, e4, a4⟩ := z
      refine ⟨f4, ?_⟩
      have nl : ls ≠ ds := fun z => by rw [z, u3] at lsU; cases lsU
      have h2 := fr4 ls _ (fun z => by
        obtain ⟨e, he, rfl⟩ := List.mem_map.mp z
        obtain ⟨dx1, gs1, ps1, j1, _⟩ := u5 e he
        rw [j1] at lsU; cases lsU) lsU
      rw [upd_ne nl] at h2
      exact SqL.of h2
    · intro i k x y σ H4 p H5 hx hy z hp s5 h5
      unfold SbI at z
      obtain ⟨ss1, v3', v4', v5', rfl, f4, G4, fr4, e4, a4⟩ := z
      have hi : i < ss.length := by have := (List.getElem?_eq_some_iff.mp hy).1; omega
      obtain ⟨e, he⟩ : ∃ e, ss[i]? = some e := ⟨_, List.getElem?_eq_getElem hi⟩
      obtain ⟨hi', ee⟩ := List.getElem?_eq_some_iff.mp he
      have xe : x = .ref e.a := by
        unfold kvS at hx
        rw [List.getElem?_map, he] at hx
        cases hx; rfl
      subst xe
      obtain ⟨pt, pg, pp, gv, pv', t, rfl, et, k1, k2, k3, k4, k5, k6, k7⟩ := sdU.get hy
      have carry : ∀ c u, (∃ xs, u = HO.tup xs ∨ u = HO.lst xs) → U c = some u → H5 c = some u := fun c u hu hc => by
        have h2 := fr4 c u (fun z => by
          obtain ⟨e', he', rfl⟩ := List.mem_map.mp z
          obtain ⟨dx1, gs1, ps1, j1, _⟩ := u5 e' he'
          rw [j1] at hc
          obtain ⟨xs, rfl | rfl⟩ := hu <;> cases hc) hc
        have nc : c ≠ ds := fun z => by
          rw [z, u3] at hc
          obtain ⟨xs, rfl | rfl⟩ := hu <;> cases hc
        rw [upd_ne nc] at h2
        exact s5 _ _ h2
      have c1 := carry _ _ ⟨_, .inl rfl⟩ k1
      have c2 := carry _ _ ⟨_, .inr rfl⟩ k2
      have c4 := carry _ _ ⟨_, .inr rfl⟩ k4
      have c3 := k3.mono fun c xs hc => carry c _ ⟨xs, .inl rfl⟩ hc
      have c5 := k5.mono fun c xs hc => carry c _ ⟨xs, .inl rfl⟩ hc
      rw [List.drop_eq_getElem_cons hi', ee] at G4
      obtain ⟨dxa, gs0, ps0, j1, j2, j3, _⟩ := G4.2.2.2.2.1 e (List.mem_append_right _ List.mem_cons_self)
      have nea : e.a ≠ ds := fun z => by rw [z, upd_same] at j1; cases j1
      have j4 : H5 e.a = _ := s5 _ _ (by rw [upd_ne nea] at j1; exact j1)
      have j4' := j4
      clear k1 k2 k3 k4 k5 j1 j2 j3 h3 d3 t3 lsU u1 u2 u3
      walk_at "r2"
      intro H6 m6
      have a6 : H6 e.a = some (.ins CS dxa [("level", .int t.level), ("most", .int e.s.most), ("getters", .ref e.g), ("putters", .ref e.p)]) := by rw [m6.at_]; rfl
      have old6 : ∀ c u, (∃ xs, u = HO.tup xs ∨ u = HO.lst xs) → H5 c = some u → H6 c = some u := fun c u hu hc => m6.old hc fun z => by
        rw [z, j4'] at hc
        obtain ⟨xs, rfl | rfl⟩ := hu <;> cases hc
      have f1 := old6 _ _ ⟨_, .inl rfl⟩ c1
      have f2' := old6 _ _ ⟨_, .inr rfl⟩ c2
      have f4' := old6 _ _ ⟨_, .inr rfl⟩ c4
      clear h5 c1 c2 c4 j4
      walk_at "r2"
      intro g' H7 hg' s7 h7
      have a7 := s7 _ _ a6
      have b1 := s7 _ _ f1
      have b4 := s7 _ _ f4'
      have ng' : g' ≠ e.a := fun z => by rw [z, m6.at_] at hg'; cases hg'
      clear a6 f1 f2' f4'
      walk_at "r2"
      intro H8 m8
      have a8 : H8 e.a = some (.ins CS dxa [("level", .int t.level), ("most", .int e.s.most), ("getters", .ref g'), ("putters", .ref e.p)]) := by rw [m8.at_]; rfl
      have npt : pt ≠ e.a := fun z => by rw [z, a7] at b1; cases b1
      have npq : pp ≠ e.a := fun z => by rw [z, a7] at b4; cases b4
      have b1' := m8.old b1 npt
      have b4' := m8.old b4 npq
      clear b1 b4 a7
      walk_at "r2"
      intro q' H9 hq' s9 h9
      have a9 := s9 _ _ a8
      have nq' : q' ≠ e.a := fun z => by rw [z, m8.at_] at hq'; cases hq'
      clear a8
      walk_at "r2"
      intro Ha ma
      have aa : Ha e.a = some (.ins CS dxa [("level", .int t.level), ("most", .int e.s.most), ("getters", .ref g'), ("putters", .ref q')]) := by rw [ma.at_]; rfl
      have alla : ∀ c u, c ≠ e.a → H4 c = some u → Ha c = some u := fun c u hc hu => ma.old (s9 _ _ (m8.old (s7 _ _ (m6.old (s5 _ _ hu) hc)) hc)) hc
      have fa := alla ds _ nea.symm f4
      have ua : ∀ c u, c ≠ e.a → upd H4 ds (.dK (kvS ss)) c = some u → upd Ha ds (.dK (kvS ss)) c = some u := fun c u hc hu => by
        by_cases z : c = ds
        · rw [z, upd_same] at hu ⊢; exact hu
        · rw [upd_ne z] at hu ⊢; exact alla c u hc hu
      have ga : Ha g' = some (.lst gv) := ma.old (s9 _ _ (m8.old h7 ng')) ng'
      have qa : Ha q' = some (.lst pv') := ma.old h9 nq'
      have ng4 : H4 g' = none := by
        cases z : H4 g' with
        | none => rfl
        | some u =>
          have := m6.old (s5 _ _ z) ng'
          rw [hg'] at this; cases this
      have nq4 : H4 q' = none := by
        cases z : H4 q' with
        | none => rfl
        | some u =>
          have := m8.old (s7 _ _ (m6.old (s5 _ _ z) nq')) nq'
          rw [hq'] at this; cases this
      have gnd : g' ≠ ds := fun z => by rw [z, f4] at ng4; cases ng4
      have qnd : q' ≠ ds := fun z => by rw [z, f4] at nq4; cases nq4
      have gq : g' ≠ q' := fun z => by
        have := m8.old h7 ng'
        rw [z, hq'] at this; cases this
      have kta : ∀ c xs, H5 c = some (.tup xs) → upd Ha ds (.dK (kvS ss)) c = some (.tup xs) := fun c xs hc => by
        have nc : c ≠ e.a := fun z => by rw [z, j4'] at hc; cases hc
        have hca : Ha c = some (.tup xs) := ma.old (s9 _ _ (m8.old (s7 _ _ (m6.old hc nc)) nc)) nc
        rw [upd_ne (fun z => by rw [z, fa] at hca; cases hca)]
        exact hca
      have tla : StO CS (upd Ha ds (.dK (kvS ss))) e.a g' q' ⟨t.level, e.s.most, t.gets, t.puts⟩ := ⟨dxa, gv, pv', by rw [upd_ne nea]; exact aa, by rw [upd_ne gnd]; exact ga, c3.mono kta, by rw [upd_ne qnd]; exact qa, c5.mono kta, gq, k6, k7⟩
      have Ga := G4.reS ua (by rw [upd_ne gnd]; exact ng4) (by rw [upd_ne qnd]; exact nq4) gq tla
      unfold SbI
      refine ⟨ss1 ++ [{ e with g := g', p := q', s := ⟨t.level, e.s.most, t.gets, t.puts⟩ }], _, _, _, rfl, fa, by rw [List.append_assoc]; exact Ga, fun c u hc hu => ?_, ?_, fun c hc => ?_⟩
      · exact ua c u (fun z => hc (by rw [z]; exact List.mem_map_of_mem (f := (·.a)) (List.mem_of_getElem? he))) (fr4 c u hc hu)
      · rw [List.map_append, e4, take_snoc he, take_snoc et, List.zipWith_append (by rw [List.length_take, List.length_take]; omega)]
        rfl
      · unfold adS at hc
        rw [List.flatMap_append] at hc
        rcases List.mem_append.mp hc with hc | hc
        · exact a4 c hc
        · simp only [List.flatMap_cons, List.flatMap_nil, List.append_nil, List.mem_cons, List.not_mem_nil, or_false] at hc
          have back : ∀ c, H4 c = none → c ≠ ds → U c = none := fun c h1 h2 => by
            cases z : U c with
            | none => rfl
            | some u =>
              have hA : c ∉ ss.map (·.a) := fun y => by
                obtain ⟨e', he', rfl⟩ := List.mem_map.mp y
                obtain ⟨u', hu'⟩ := G4.has e'.a (by
                  have : e'.a ∈ adS (ss1 ++ e :: ss.drop (i + 1)) := by
                    have ea : ss1.map (·.a) = (ss.take i).map (·.a) := by
                      have := congrArg (List.map fun x : Str × Addr × SS => x.2.1) e4
                      rw [List.map_map, List.map_zipWith] at this
                      rw [show ss1.map (·.a) = ss1.map ((fun x : Str × Addr × SS => x.2.1) ∘ sE) from rfl, this]
                      exact zw_a (f := fun x : EntS => x.a) (g := fun (x : EntS) (y : SS) => x.a) (l := ss.take i) (m := sl.take i) (fun _ _ => rfl) (by rw [List.length_take, List.length_take]; omega)
                    have ce : e :: ss.drop (i + 1) = ss.drop i := by rw [List.drop_eq_getElem_cons hi', ee]
                    rw [ce]
                    rw [← List.take_append_drop i ss] at he'
                    rcases List.mem_append.mp he' with hm | hm
                    · obtain ⟨e1, m1, q1⟩ := List.mem_map.mp (show e'.a ∈ ss1.map (·.a) by rw [ea]; exact List.mem_map_of_mem hm)
                      rw [← q1]
                      exact (in_adS (List.mem_append_left _ m1)).1
                    · exact (in_adS (List.mem_append_right _ hm)).1
                  exact List.mem_cons_of_mem _ (List.mem_cons_of_mem _ (List.mem_cons_of_mem _ (List.mem_append_right _ this))))
                rw [upd_ne h2, h1] at hu'; cases hu'
              have := fr4 c u hA z
              rw [upd_ne h2, h1] at this; cases this
          rcases hc with rfl | rfl | rfl
          · exact .inl (List.mem_map_of_mem (f := (·.a)) (List.mem_of_getElem? he))
          · exact .inr (back _ ng4 gnd)
          · exact .inr (back _ nq4 qnd)
    · intro σ H4 z
      unfold SbI at z
      obtain ⟨ss1, v3', v4', v5', rfl, f4, G4, fr4, e4, a4⟩ := z
      rw [List.drop_of_length_le (by omega), List.append_nil] at G4
      rw [List.take_of_length_le (by omega), List.take_of_length_le (by omega)] at e4
      refine ⟨ds, o2, _, nf2, f4, ?_⟩
      refine q _ es1 ss1 (fun c u hc hu => ?_) G4 e2 e4 fun c hc => ?_
      · rw [List.mem_append, not_or] at hc
        exact fr4 c u hc.2 (fr2 c u hc.1 hu)
      · rcases List.mem_append.mp hc with hc | hc
        · exact (a2 c hc).imp (fun h => List.mem_append_left _ h) id
        · rcases a4 c hc with h | h
          · exact .inl (List.mem_append_right _ h)
          · by_cases hA : c ∈ es.map (·.a)
            · exact .inl (List.mem_append_left _ hA)
            · refine .inr ?_
              cases z : H c with
              | none => rfl
              | some u => rw [fr2 c u hA z] at h; cases h
end
end K23

set_option Elab.async false
set_option linter.all false
set_option maxRecDepth 100000
set_option maxHeartbeats 4000000
namespace K23
open PySem L2
/-! ### two tools that are alike -/
theorem getI_put {h x k : Int} : ∀ held : List (Int × Int), getI (putI held h x) k = if h = k then x else getI held k
  | [] => by
    show (if h = k then x else 0) = _
    by_cases c : h = k
    · rw [if_pos c, if_pos c]
    · rw [if_neg c, if_neg c]; rfl
  | (j, y) :: r => by
    unfold putI
    by_cases c : j = h
    · rw [if_pos c]
      subst c
      show (if j = k then x else getI r k) = if j = k then x else (if j = k then y else getI r k)
      by_cases d : j = k
      · rw [if_pos d, if_pos d]
      · rw [if_neg d, if_neg d, if_neg d]
    · rw [if_neg c]
      show (if j = k then y else getI (putI r h x) k) = if h = k then x else (if j = k then y else getI r k)
      rw [getI_put r]
      by_cases d : j = k
      · rw [if_pos d, if_pos d, if_neg (fun z => c (d.trans z.symm))]
      · rw [if_neg d, if_neg d]
structure AlT (t u : TS) : Prop where
  fr : t.free = u.free
  qu : t.que = u.que
  hd : ∀ h, getI t.held h = getI u.held h
theorem AlT.refl (t : TS) : AlT t t := ⟨rfl, rfl, fun _ => rfl⟩
theorem AlT.out {t u : TS} (a : AlT t u) (h n : Int) : AlT (outS t h n) (outS u h n) := ⟨by unfold outS; rw [a.fr], by unfold outS; exact a.qu, fun k => by
  unfold outS
  rw [getI_put, getI_put, a.hd h, a.hd k]⟩
theorem AlT.srv : ∀ (q : List (Int × Int)) {t u : TS}, AlT t u → (K23.srv q t).1 = (K23.srv q u).1 ∧ AlT (K23.srv q t).2 (K23.srv q u).2
  | [], t, u, a => ⟨rfl, a⟩
  | (h, n) :: q, t, u, a => by
    unfold K23.srv
    by_cases c : n ≤ t.free
    · rw [if_pos c, if_pos (by rw [← a.fr]; exact c)]
      have i := AlT.srv q (t := outS ⟨t.free, t.held, q⟩ h n) (u := outS ⟨u.free, u.held, q⟩ h n) (AlT.out (t := ⟨t.free, t.held, q⟩) (u := ⟨u.free, u.held, q⟩) ⟨a.fr, rfl, a.hd⟩ h n)
      exact ⟨by rw [i.1], i.2⟩
    · rw [if_neg c, if_neg (by rw [← a.fr]; exact c)]
      exact ⟨rfl, a⟩
theorem AlT.take {t u : TS} (a : AlT t u) (h n : Int) : (takeS t h n).1 = (takeS u h n).1 ∧ AlT (takeS t h n).2 (takeS u h n).2 := by
  unfold takeS
  rw [a.qu, a.fr]
  by_cases c : u.que ≠ [] ∨ u.free < n
  · rw [if_pos c, if_pos c]; exact ⟨rfl, rfl, rfl, a.hd⟩
  · rw [if_neg c, if_neg c]; exact ⟨rfl, a.out h n⟩
theorem AlT.giv {t u : TS} (a : AlT t u) (h n : Int) : K23.giv t h n = K23.giv u h n := by unfold K23.giv; rw [a.hd]
theorem AlT.give {t u : TS} (a : AlT t u) (h n : Int) : (giveS t h n).1 = (giveS u h n).1 ∧ AlT (giveS t h n).2 (giveS u h n).2 := by
  unfold giveS
  rw [a.giv, a.qu]
  exact AlT.srv _ (a.out h _)
/-- what is told of alike tools is the same -/
theorem getI_mem : ∀ {l : List (Int × Int)}, (l.map (·.1)).Nodup → ∀ {k x : Int}, (k, x) ∈ l → getI l k = x
  | (j, y) :: r, nd, k, x, h => by
    rw [List.map_cons, List.nodup_cons] at nd
    rcases List.mem_cons.mp h with e | h
    · cases e
      show (if j = j then y else _) = y
      rw [if_pos rfl]
    · have : j ≠ k := fun z => nd.1 (z ▸ List.mem_map_of_mem (f := (·.1)) h)
      show (if j = k then y else getI r k) = x
      rw [if_neg this]
      exact getI_mem nd.2 h
theorem mem_getI : ∀ {l : List (Int × Int)} {k : Int}, getI l k ≠ 0 → (k, getI l k) ∈ l
  | [], k, h => absurd rfl h
  | (j, y) :: r, k, h => by
    by_cases c : j = k
    · have e : getI ((j, y) :: r) k = y := if_pos c
      rw [e, ← c]
      exact List.mem_cons_self
    · have e : getI ((j, y) :: r) k = getI r k := if_neg c
      rw [e] at h ⊢
      exact List.mem_cons_of_mem _ (mem_getI h)
theorem rise_eq : ∀ {l m : List (Int × Int)}, l.Pairwise (fun p r => p.1 < r.1) → m.Pairwise (fun p r => p.1 < r.1) → (∀ p, p ∈ l ↔ p ∈ m) → l = m
  | [], [], _, _, _ => rfl
  | [], b :: m, _, _, h => absurd ((h b).mpr List.mem_cons_self) List.not_mem_nil
  | a :: l, [], _, _, h => absurd ((h a).mp List.mem_cons_self) List.not_mem_nil
  | a :: l, b :: m, hl, hm, h => by
    rw [List.pairwise_cons] at hl hm
    have ab : a = b := by
      rcases List.mem_cons.mp ((h a).mp List.mem_cons_self) with e | e
      · exact e
      · rcases List.mem_cons.mp ((h b).mpr List.mem_cons_self) with e' | e'
        · exact e'.symm
        · have := hl.1 _ e'
          have := hm.1 _ e
          omega
    subst ab
    rw [rise_eq hl.2 hm.2 fun p => ⟨fun hp => ?_, fun hp => ?_⟩]
    · rcases List.mem_cons.mp ((h p).mp (List.mem_cons_of_mem _ hp)) with e | e
      · have := hl.1 _ hp; rw [e] at this; omega
      · exact e
    · rcases List.mem_cons.mp ((h p).mpr (List.mem_cons_of_mem _ hp)) with e | e
      · have := hm.1 _ hp; rw [e] at this; omega
      · exact e
theorem told_same {t u : TS} {hd hd' : List (Int × Int)} (a : AlT t u) (p : PmO hd t) (p' : PmO hd' u) (n : (t.held.map (·.1)).Nodup) (n' : (u.held.map (·.1)).Nodup) : hd = hd' := by
  have key : ∀ {t u : TS} {hd hd' : List (Int × Int)}, AlT t u → PmO hd t → PmO hd' u → (t.held.map (·.1)).Nodup → ∀ q, q ∈ hd → q ∈ hd' := fun {t u hd hd'} a p p' n q hq => by
    have h1 := List.mem_filter.mp (p.1.mem_iff.mp hq)
    have pos : 0 < q.2 := of_decide_eq_true h1.2
    have e := getI_mem n (k := q.1) (x := q.2) h1.1
    rw [a.hd] at e
    have m := mem_getI (l := u.held) (k := q.1) (by omega)
    rw [e] at m
    exact p'.1.mem_iff.mpr (List.mem_filter.mpr ⟨m, h1.2⟩)
  exact rise_eq p.2 p'.2 fun q => ⟨key a p p' n q, key ⟨a.fr.symm, a.qu.symm, fun h => (a.hd h).symm⟩ p' p n' q⟩
/-- what is stood is alike -/
theorem stood_alike {t : TS} {hd : List (Int × Int)} (p : PmO hd t) (n : (t.held.map (·.1)).Nodup) (nn : ∀ q ∈ t.held, 0 ≤ q.2) : AlT t ⟨t.free, hd, t.que⟩ := by
  refine ⟨rfl, rfl, fun h => ?_⟩
  have nh : (hd.map (·.1)).Nodup := (List.pairwise_map.mpr (p.2.imp fun h => by omega : hd.Pairwise (fun a b => a.1 ≠ b.1)))
  show getI t.held h = getI hd h
  by_cases z : getI t.held h = 0
  · rw [z]
    by_cases y : getI hd h = 0
    · exact y.symm
    · have m := List.mem_filter.mp (p.1.mem_iff.mp (mem_getI y))
      have := getI_mem n m.1
      omega
  · have m := mem_getI z
    have := nn _ m
    have m2 := p.1.mem_iff.mpr (List.mem_filter.mpr ⟨m, decide_eq_true (show 0 < getI t.held h by have : (0 : Int) ≤ getI t.held h := this; omega)⟩)
    exact (getI_mem nh m2).symm
end K23

set_option Elab.async false
set_option linter.all false
set_option maxRecDepth 100000
set_option maxHeartbeats 4000000
namespace K23
open PySem L2
/-! ### what stays -/
def NnH (l : List (Int × Int)) : Prop := ∀ p ∈ l, 0 ≤ p.2
theorem nn_get {h : Int} : ∀ {l : List (Int × Int)}, NnH l → 0 ≤ getI l h
  | [], _ => Int.le_refl _
  | (k, y) :: r, n => by
    show 0 ≤ (if k = h then y else getI r h)
    by_cases c : k = h
    · rw [if_pos c]; exact n (k, y) List.mem_cons_self
    · rw [if_neg c]; exact nn_get fun p hp => n p (List.mem_cons_of_mem _ hp)
theorem nn_put {h x : Int} (hx : 0 ≤ x) : ∀ {l : List (Int × Int)}, NnH l → NnH (putI l h x)
  | [], _, p, hp => by
    have hp : p ∈ [(h, x)] := hp
    rw [List.mem_singleton.mp hp]; exact hx
  | (k, y) :: r, n, p, hp => by
    have hp : p ∈ (if k = h then (k, x) :: r else (k, y) :: putI r h x) := hp
    by_cases c : k = h
    · rw [if_pos c] at hp
      rcases List.mem_cons.mp hp with rfl | hp
      · exact hx
      · exact n p (List.mem_cons_of_mem _ hp)
    · rw [if_neg c] at hp
      rcases List.mem_cons.mp hp with rfl | hp
      · exact n _ List.mem_cons_self
      · exact nn_put hx (fun p hp => n p (List.mem_cons_of_mem _ hp)) p hp
/-- a tool as it should be -/
structure TOk (t : TS) : Prop where
  nn : NnH t.held
  ps : ∀ p ∈ t.que, 0 < p.2
theorem take_ok {h n : Int} {t : TS} (T : TOk t) (hn : 0 < n) : TOk (takeS t h n).2 ∧ (takeS t h n).2.que.length ≤ t.que.length + 1 := by
  unfold takeS
  by_cases w : t.que ≠ [] ∨ t.free < n
  · rw [if_pos w]
    refine ⟨⟨T.nn, fun p hp => ?_⟩, by simp⟩
    have hp : p ∈ t.que ++ [(h, n)] := hp
    rcases List.mem_append.mp hp with hp | hp
    · exact T.ps p hp
    · rw [List.mem_singleton.mp hp]; exact hn
  · rw [if_neg w]
    exact ⟨⟨nn_put (Int.add_nonneg (nn_get T.nn) (Int.le_of_lt hn)) T.nn, T.ps⟩, Nat.le_succ _⟩
theorem srv_ok : ∀ (q : List (Int × Int)) (t : TS), t.que = q → NnH t.held → (∀ p ∈ q, 0 < p.2) → TOk (srv q t).2 ∧ (srv q t).2.que.length ≤ q.length
  | [], t, e, nn, ps => ⟨⟨nn, fun p hp => ps p (e ▸ hp)⟩, Nat.le_of_eq (congrArg List.length e)⟩
  | (h, n) :: q, t, e, nn, ps => by
    by_cases w : n ≤ t.free
    · rw [srv_cons w]
      obtain ⟨i1, i2⟩ := srv_ok q (outS ⟨t.free, t.held, q⟩ h n) rfl (nn_put (Int.add_nonneg (nn_get nn) (Int.le_of_lt (ps (h, n) List.mem_cons_self))) nn) fun p hp => ps p (List.mem_cons_of_mem _ hp)
      exact ⟨i1, Nat.le_trans i2 (Nat.le_succ _)⟩
    · have e2 : srv ((h, n) :: q) t = ([], t) := by show (if n ≤ t.free then _ else _) = _; rw [if_neg w]
      rw [e2]
      exact ⟨⟨nn, fun p hp => ps p (e ▸ hp)⟩, Nat.le_of_eq (congrArg List.length e)⟩
theorem give_ok {h n : Int} {t : TS} (T : TOk t) : TOk (giveS t h n).2 ∧ (giveS t h n).2.que.length ≤ t.que.length := by
  have g1 : giv t h n ≤ getI t.held h := by unfold giv; split <;> omega
  exact srv_ok t.que (outS t h (-(giv t h n))) rfl (nn_put (by omega) T.nn) T.ps
theorem stp_some {s s1 : SS} {it : Int × Bool × Int} (h : stp s = some (it, s1)) : (it.2.1 = true ∧ s.gets = (it.1, it.2.2) :: s1.gets ∧ s1.puts = s.puts ∧ s1.most = s.most ∧ s1.level = s.level - it.2.2 ∧ it.2.2 ≤ s.level) ∨ (it.2.1 = false ∧ s.puts = (it.1, it.2.2) :: s1.puts ∧ s1.gets = s.gets ∧ s1.most = s.most ∧ s1.level = s.level + it.2.2 ∧ s.level + it.2.2 ≤ s.most) := by
  obtain ⟨l, m, gs, ps⟩ := s
  have hp : stpP ⟨l, m, gs, ps⟩ = some (it, s1) → it.2.1 = false ∧ ps = (it.1, it.2.2) :: s1.puts ∧ s1.gets = gs ∧ s1.most = m ∧ s1.level = l + it.2.2 ∧ l + it.2.2 ≤ m := fun z => by
    cases ps with
    | nil => cases z
    | cons p q =>
      have z : (if l + p.2 ≤ m then some ((p.1, false, p.2), (⟨l + p.2, m, gs, q⟩ : SS)) else none) = some (it, s1) := z
      by_cases c : l + p.2 ≤ m
      · rw [if_pos c] at z; cases z; exact ⟨rfl, rfl, rfl, rfl, rfl, c⟩
      · rw [if_neg c] at z; cases z
  cases gs with
  | nil => exact .inr (hp h)
  | cons p0 gs =>
    obtain ⟨h0, n0⟩ := p0
    have h : (if n0 ≤ l then some ((h0, true, n0), (⟨l - n0, m, gs, ps⟩ : SS)) else stpP ⟨l, m, (h0, n0) :: gs, ps⟩) = some (it, s1) := h
    by_cases c : n0 ≤ l
    · rw [if_pos c] at h; cases h; exact .inl ⟨rfl, rfl, rfl, rfl, rfl, c⟩
    · rw [if_neg c] at h; exact .inr (hp h)
theorem sbt_ok {s s' : SS} {its : List (Int × Bool × Int)} (h : Sbt s its s') : s'.most = s.most ∧ s'.gets.length ≤ s.gets.length ∧ s'.puts.length ≤ s.puts.length := by
  induction h with
  | done h => exact ⟨rfl, Nat.le_refl _, Nat.le_refl _⟩
  | @step s s1 s' it its h _ ih =>
    rcases stp_some h with ⟨_, e2, e3, e4, _⟩ | ⟨_, e2, e3, e4, _⟩
    · exact ⟨ih.1.trans e4, Nat.le_trans ih.2.1 (by rw [e2]; exact Nat.le_succ _), by rw [← e3]; exact ih.2.2⟩
    · exact ⟨ih.1.trans e4, by rw [← e3]; exact ih.2.1, Nat.le_trans ih.2.2 (by rw [e2]; exact Nat.le_succ _)⟩
theorem put_ok {s s' : SS} {h n : Int} {b : Bool} {its : List (Int × Bool × Int)} (r : PutR s h n b its s') : s'.most = s.most ∧ s'.gets.length ≤ s.gets.length + 1 ∧ s'.puts.length ≤ s.puts.length + 1 := by
  unfold PutR at r
  by_cases w : s.puts ≠ [] ∨ s.most < s.level + n
  · rw [if_pos w] at r
    obtain ⟨rfl, rfl, rfl⟩ := r
    exact ⟨rfl, Nat.le_succ _, by simp⟩
  · rw [if_neg w] at r
    have i := sbt_ok r.2
    exact ⟨i.1, Nat.le_trans i.2.1 (Nat.le_succ _), Nat.le_trans i.2.2 (Nat.le_succ _)⟩
theorem get_ok {s s' : SS} {h n : Int} {b : Bool} {its : List (Int × Bool × Int)} (r : GetR s h n b its s') : s'.most = s.most ∧ s'.gets.length ≤ s.gets.length + 1 ∧ s'.puts.length ≤ s.puts.length + 1 := by
  unfold GetR at r
  by_cases w : s.gets ≠ [] ∨ s.level < n
  · rw [if_pos w] at r
    obtain ⟨rfl, rfl, rfl⟩ := r
    exact ⟨rfl, by simp, Nat.le_succ _⟩
  · rw [if_neg w] at r
    have i := sbt_ok r.2
    exact ⟨i.1, Nat.le_trans i.2.1 (Nat.le_succ _), Nat.le_trans i.2.2 (Nat.le_succ _)⟩
end K23

set_option Elab.async false
set_option linter.all false
set_option maxRecDepth 100000
set_option maxHeartbeats 4000000
namespace K23
open PySem L2
/-! ### what a deed does to the whole -/
structure GOk (es : List Ent) (ss : List EntS) (k : Nat) : Prop where
  tk : ∀ e ∈ es, TOk e.t ∧ e.t.que.length ≤ k
  st : ∀ e ∈ ss, e.s.gets.length ≤ k ∧ e.s.puts.length ≤ k
structure Aft (es : List Ent) (ss : List EntS) (k : Nat) (es' : List Ent) (ss' : List EntS) : Prop where
  nE : es'.map (fun e => (e.name, e.c)) = es.map (fun e => (e.name, e.c))
  nS : ss'.map (fun e => (e.name, e.s.most)) = ss.map (fun e => (e.name, e.s.most))
  aE : adE es' = adE es
  aS : adS ss' = adS ss
  ok : GOk es' ss' (k + 1)
theorem GOk.mono {es : List Ent} {ss : List EntS} {k k' : Nat} (h : GOk es ss k) (l : k ≤ k') : GOk es ss k' :=
  ⟨fun e he => ⟨(h.tk e he).1, Nat.le_trans (h.tk e he).2 l⟩, fun e he => ⟨Nat.le_trans (h.st e he).1 l, Nat.le_trans (h.st e he).2 l⟩⟩
theorem aft_tool {l1 l2 : List Ent} {e : Ent} {ss : List EntS} {k : Nat} {t : TS} (G : GOk (l1 ++ e :: l2) ss k) (T : TOk t) (lq : t.que.length ≤ e.t.que.length + 1) : Aft (l1 ++ e :: l2) ss k (l1 ++ { e with t := t } :: l2) ss where
  nE := by rw [List.map_append, List.map_append, List.map_cons, List.map_cons]
  nS := rfl
  aE := by rw [adE_mid, adE_mid]
  aS := rfl
  ok := by
    have G' := G.mono (Nat.le_succ k)
    refine ⟨fun e' he' => ?_, G'.st⟩
    rcases List.mem_append.mp he' with h | h
    · exact G'.tk e' (List.mem_append_left _ h)
    · rcases List.mem_cons.mp h with rfl | h
      · exact ⟨T, Nat.le_trans lq (Nat.succ_le_succ (G.tk e (List.mem_append_right _ List.mem_cons_self)).2)⟩
      · exact G'.tk e' (List.mem_append_right _ (List.mem_cons_of_mem _ h))
theorem aft_store {es : List Ent} {l1 l2 : List EntS} {e : EntS} {k : Nat} {s : SS} (G : GOk es (l1 ++ e :: l2) k) (h : s.most = e.s.most ∧ s.gets.length ≤ e.s.gets.length + 1 ∧ s.puts.length ≤ e.s.puts.length + 1) : Aft es (l1 ++ e :: l2) k es (l1 ++ { e with s := s } :: l2) where
  nE := rfl
  nS := by rw [List.map_append, List.map_append, List.map_cons, List.map_cons, h.1]
  aE := rfl
  aS := by rw [adS_mid, adS_mid]
  ok := by
    have G' := G.mono (Nat.le_succ k)
    refine ⟨G'.tk, fun e' he' => ?_⟩
    rcases List.mem_append.mp he' with h' | h'
    · exact G'.st e' (List.mem_append_left _ h')
    · rcases List.mem_cons.mp h' with rfl | h'
      · have g := G.st e (List.mem_append_right _ List.mem_cons_self)
        exact ⟨Nat.le_trans h.2.1 (Nat.succ_le_succ g.1), Nat.le_trans h.2.2 (Nat.succ_le_succ g.2)⟩
      · exact G'.st e' (List.mem_append_right _ (List.mem_cons_of_mem _ h'))
/-! ### leaving -/
theorem lv1_ok {h : Int} {e : Ent} (T : TOk e.t) : TOk (lv1 h e).t ∧ (lv1 h e).t.que.length ≤ e.t.que.length := by
  unfold lv1
  by_cases c : 0 < getI e.t.held h
  · rw [if_pos c]
    exact give_ok T
  · rw [if_neg c]
    exact ⟨T, Nat.le_refl _⟩
theorem aft_leave {h : Int} {es : List Ent} {ss : List EntS} {k : Nat} (G : GOk es ss k) : Aft es ss k (es.map (lv1 h)) ss where
  nE := by
    rw [List.map_map]
    refine List.map_congr_left fun e _ => ?_
    obtain ⟨h1, _, _, _, h5⟩ := lv1_name (h := h) (e := e)
    show ((lv1 h e).name, (lv1 h e).c) = _
    rw [h1, h5]
  nS := rfl
  aE := adE_map es
  aS := rfl
  ok := by
    refine ⟨fun e' he' => ?_, (G.mono (Nat.le_succ k)).st⟩
    obtain ⟨e, he, rfl⟩ := List.mem_map.mp he'
    obtain ⟨T, l⟩ := G.tk e he
    obtain ⟨g1, g2⟩ := lv1_ok (h := h) T
    exact ⟨g1, Nat.le_trans g2 (Nat.le_trans l (Nat.le_succ k))⟩
end K23

set_option Elab.async false
set_option linter.all false
set_option maxRecDepth 100000
set_option maxHeartbeats 4000000
namespace K23
open PySem L2
/-- what is new, and all tuples -/
def nwT (H H' : Hp) : Hp := fun c => match H' c with
  | some (.tup xs) => some (.tup xs)
  | o => if (H c).isNone = true then o else none
theorem nwT_tup {H H' : Hp} {c : Addr} {xs : List V} (h : H' c = some (.tup xs)) : nwT H H' c = some (.tup xs) := by unfold nwT; rw [h]
theorem nwT_new {H H' : Hp} {c : Addr} {u : HO} (h : H c = none) (h' : H' c = some u) : nwT H H' c = some u := by
  unfold nwT
  rw [h', h]
  cases u <;> rfl
theorem nwT_inv {H H' : Hp} {c : Addr} {u : HO} (h : nwT H H' c = some u) : H' c = some u ∧ ((∃ xs, u = .tup xs) ∨ H c = none) := by
  unfold nwT at h
  cases z : H' c with
  | none =>
    rw [z] at h
    simp at h
  | some o =>
    rw [z] at h
    by_cases y : H c = none
    · rw [y] at h
      refine ⟨?_, .inr y⟩
      cases o <;> exact h
    · have y' : (H c).isNone = false := by cases q : H c with
        | none => exact absurd q y
        | some _ => rfl
      rw [y'] at h
      cases o with
      | tup xs => exact ⟨h, .inl ⟨xs, (Option.some.inj h).symm⟩⟩
      | _ => cases h
theorem nwT_le {H H' : Hp} : Same (nwT H H') H' := fun _ _ h => (nwT_inv h).1
theorem nwT_fr {H H' H'' : Hp} {cs : List Addr} (f : FrG cs H' H'') (kt : ∀ c xs, H' c = some (.tup xs) → H'' c = some (.tup xs)) (hc : ∀ c ∈ cs, ∃ u, H c = some u) : Same (nwT H H') H'' := fun c u h => by
  obtain ⟨h1, h2⟩ := nwT_inv h
  rcases h2 with ⟨xs, rfl⟩ | h2
  · exact kt _ _ h1
  · exact f c u (fun z => by obtain ⟨w, hw⟩ := hc c z; rw [h2] at hw; cases hw) h1
theorem FrG.up {cs cs' : List Addr} {H H' : Hp} (f : FrG cs H H') (h : ∀ c ∈ cs, c ∈ cs') : FrG cs' H H' := fun c u n hc => f c u (fun z => n (h c z)) hc
/-! ### the deed and its answer, exactly -/
def tkD (l : List (Int × Int)) : List PyData := l.map fun p => .tuple [.int p.1, .str "takes", .int p.2]
def stD (l : List (Int × Bool × Int)) : List PyData := l.map fun p => .tuple [.int p.1, .str (wordOf p.2.1), .int p.2.2]
def lvD (l : List (Str × Int × List (Int × Int))) : List PyData := l.map fun x => .tuple [.str x.1, .int x.2.1, .list (tkD x.2.2)]
theorem Svd.rp {K : PySem.W.Frag} {H : Hp} : ∀ {vs : List V} {ps : List (Int × Int)}, Svd "takes" H vs ps → RpL K H vs (tkD ps)
  | _, _, .nil => .nil
  | _, _, .cons h r => .cons (.tup h (.cons (.int _) (.cons (.str _) (.cons (.int _) .nil)))) r.rp
theorem Sv3.rp {K : PySem.W.Frag} {H : Hp} : ∀ {vs : List V} {ps : List (Int × Bool × Int)}, Sv3 H vs ps → RpL K H vs (stD ps)
  | _, _, .nil => .nil
  | _, _, .cons h r => .cons (.tup h (.cons (.int _) (.cons (.str _) (.cons (.int _) .nil)))) r.rp
theorem LvL.rp {K : PySem.W.Frag} {bad : List Addr} {H0 H : Hp} : ∀ {vs : List V} {l : List (Str × Int × List (Int × Int))}, LvL bad H0 H vs l → RpL K (nwT H0 H) vs (lvD l)
  | _, _, .nil => .nil
  | _, _, .cons h1 h2 _ h0 sd r => .cons (.tup (nwT_tup h1) (.cons (.str _) (.cons (.int _) (.cons (.lst (nwT_new h0 h2) (sd.mono fun _ _ hc => nwT_tup hc).rp) .nil)))) r.rp
inductive Dd (es : List Ent) (ss : List EntS) (word nm : Str) (h n : Int) : List Ent → List EntS → PyData → Prop
  | take {l1 l2 : List Ent} {e : Ent} : word = "take" → es = l1 ++ e :: l2 → e.name = nm → Dd es ss word nm h n (l1 ++ { e with t := (takeS e.t h n).2 } :: l2) ss (.bool (takeS e.t h n).1)
  | give {l1 l2 : List Ent} {e : Ent} : word = "give" → es = l1 ++ e :: l2 → e.name = nm → Dd es ss word nm h n (l1 ++ { e with t := (giveS e.t h n).2 } :: l2) ss (.tuple [.int (giv e.t h n), .list (tkD (giveS e.t h n).1)])
  | put {l1 l2 : List EntS} {e : EntS} {b : Bool} {its : List (Int × Bool × Int)} {s' : SS} : word = "put" → ss = l1 ++ e :: l2 → e.name = nm → PutR e.s h n b its s' → Dd es ss word nm h n es (l1 ++ { e with s := s' } :: l2) (.tuple [.bool b, .list (stD its)])
  | get {l1 l2 : List EntS} {e : EntS} {b : Bool} {its : List (Int × Bool × Int)} {s' : SS} : word = "get" → ss = l1 ++ e :: l2 → e.name = nm → GetR e.s h n b its s' → Dd es ss word nm h n es (l1 ++ { e with s := s' } :: l2) (.tuple [.bool b, .list (stD its)])
  | bring {l1 l2 : List EntS} {e : EntS} {its : List (Int × Bool × Int)} {s' : SS} : word = "bring" → ss = l1 ++ e :: l2 → e.name = nm → Sbt ⟨e.s.level + brg e.s n, e.s.most, e.s.gets, e.s.puts⟩ its s' → Dd es ss word nm h n es (l1 ++ { e with s := s' } :: l2) (.tuple [.int (brg e.s n), .list (stD its)])
  | leave : word = "leave" → Dd es ss word nm h n (es.map (lv1 h)) ss (.list (lvD (es.filterMap (lvI h))))
section
variable {P : Program} {w : World} {K : PySem.W.Frag} {mg : Str → Option Value} {base : Heap}
def spAsk (K : PySem.W.Frag) (CG CT CS : Addr) : Sp := fun vs H Q _ => ∃ (g dt ds dp : Addr) (es : List Ent) (ss : List EntS) (k : Nat) (word nm : Str) (h n : Int), vs = [.ref g, .ref dp] ∧ GoA CG CT CS H g dt ds es ss ∧ GOk es ss k ∧ k ≤ 110 ∧ es.length ≤ 10 ∧ H dp = some (.tup [.str word, .int h, .str nm, .int n]) ∧ h ∈ hs ∧ 0 < n ∧ (word = "leave" ∨ ((word = "take" ∨ word = "give") ∧ nm ∈ es.map (·.name)) ∨ ((word = "put" ∨ word = "get" ∨ word = "bring") ∧ nm ∈ ss.map (·.name))) ∧
  ∀ (H' : Hp) (v : V) (es' : List Ent) (ss' : List EntS), FrG (adE es ++ adS ss) H H' → GoA CG CT CS H' g dt ds es' ss' → Aft es ss k es' ss' → (∃ d, Rp K (nwT H H') v d ∧ Dd es ss word nm h n es' ss' d) → Q v H'
theorem ok_ask {CG CT CS : Addr} (D : DefAt K mg "_law_asked" s__law_asked ["goods", "deed"]) (G_Goods_take : OkM P w K mg base 2 CG "take" ["self", "hand", "name", "n"] (spTake CG CT)) (G_Goods_give : OkM P w K mg base 3 CG "give" ["self", "hand", "name", "n"] (spGive CG CT)) (G_Goods_put : OkM P w K mg base 2 CG "put" ["self", "hand", "name", "n"] (spPut CG CS)) (G_Goods_get : OkM P w K mg base 2 CG "get" ["self", "hand", "name", "n"] (spGet CG CS)) (G_Goods_bring : OkM P w K mg base 2 CG "bring" ["self", "name", "n"] (spBring CG CS)) (G_Goods_leave : OkM P w K mg base 4 CG "leave" ["self", "hand"] (spLeave CG CT CS)) : OkD P w K mg base 5 "_law_asked" ["goods", "deed"] (spAsk K CG CT CS) := by
  refine D.ok sc__law_asked (fun vs H Q E h => ?_) (fun f cdv A outer s H vs Q E hr h => ?_)
  · obtain ⟨_, _, _, _, _, _, _, _, _, _, _, rfl, _⟩ := h; rfl
  obtain ⟨g, dt, ds, dp, es, ss, k, word, nm, h, n, rfl, G, ok, hk, le, hd, hh, hn, hw, q⟩ := h
  obtain ⟨⟨dx, g1⟩, _⟩ := id G
  have uE : ∀ {H' : Hp}, FrG (adE es) H H' → FrG (adE es ++ adS ss) H H' := fun f => f.up fun c hc => List.mem_append_left _ hc
  have uS : ∀ {H' : Hp}, FrG (adS ss) H H' → FrG (adE es ++ adS ss) H H' := fun f => f.up fun c hc => List.mem_append_right _ hc
  have splE : nm ∈ es.map (·.name) → ∃ l1 e l2, es = l1 ++ e :: l2 ∧ e.name = nm := fun hm => by
    obtain ⟨e, he, z⟩ := List.mem_map.mp hm
    obtain ⟨l1, l2, z2⟩ := List.append_of_mem he
    exact ⟨l1, e, l2, z2, z⟩
  have splS : nm ∈ ss.map (·.name) → ∃ l1 e l2, ss = l1 ++ e :: l2 ∧ e.name = nm := fun hm => by
    obtain ⟨e, he, z⟩ := List.mem_map.mp hm
    obtain ⟨l1, l2, z2⟩ := List.append_of_mem he
    exact ⟨l1, e, l2, z2, z⟩
  refine ⟨_, (pss_cons (ps_asg (pv 1) (pg_tupG 4 rfl (pgs_cons (pg_name (i := 2) sc__law_asked.nd rfl (Or.inl rfl)) (pgs_cons (pg_name (i := 3) sc__law_asked.nd rfl (Or.inl rfl)) (pgs_cons (pg_name (i := 4) sc__law_asked.nd rfl (Or.inl rfl)) (pgs_cons (pg_name (i := 5) sc__law_asked.nd rfl (Or.inl rfl)) pgs_nil))))))
  (pss_cons (ps_if (pt_cmpR op_eq (pv 2) pe_str (nomark _))
  (pss_one (ps_ret (pe_methG G_Goods_leave hr (pv 0) (pa_c (pv 3) pa_nil))))
  pss_nil)
  (pss_cons (ps_if (pt_cmpR op_eq (pv 2) pe_str (nomark _))
  (pss_one (ps_ret (pe_methG G_Goods_give hr (pv 0) (pa_c (pv 3) (pa_c (pv 4) (pa_c (pv 5) pa_nil))))))
  pss_nil)
  (pss_cons (ps_if (pt_cmpR op_eq (pv 2) pe_str (nomark _))
  (pss_one (ps_ret (pe_methG G_Goods_take hr (pv 0) (pa_c (pv 3) (pa_c (pv 4) (pa_c (pv 5) pa_nil))))))
  pss_nil)
  (pss_cons (ps_if (pt_cmpR op_eq (pv 2) pe_str (nomark _))
  (pss_one (ps_ret (pe_methG G_Goods_put hr (pv 0) (pa_c (pv 3) (pa_c (pv 4) (pa_c (pv 5) pa_nil))))))
  pss_nil)
  (pss_cons (ps_if (pt_cmpR op_eq (pv 2) pe_str (nomark _))
  (pss_one (ps_ret (pe_methG G_Goods_get hr (pv 0) (pa_c (pv 3) (pa_c (pv 4) (pa_c (pv 5) pa_nil))))))
  pss_nil)
  (pss_one (ps_ret (pe_methG G_Goods_bring hr (pv 0) (pa_c (pv 4) (pa_c (pv 5) pa_nil))))))))))), ?_⟩
  rcases hw with rfl | ⟨rfl | rfl, hm⟩ | ⟨rfl | rfl | rfl, hm⟩
  · walk_at "rd"
    exact ⟨g, dt, ds, es, ss, h, rfl, G, hh, le, fun H' lf vs f hlf G' hl lv => q H' (.ref lf) _ ss (uE f) G' (aft_leave ok) ⟨_, .lst (nwT_new hlf hl) lv.rp, .leave rfl⟩⟩
  · obtain ⟨l1, e, l2, rfl, rfl⟩ := splE hm
    have me := ok.tk e (List.mem_append_right _ List.mem_cons_self)
    have t := take_ok (h := h) (n := n) me.1 hn
    walk_at "rd"
    exact go_take G hh (by omega) fun H' f G' => q H' _ _ ss (uE f) G' (aft_tool ok t.1 t.2) ⟨_, .bl _, .take rfl rfl rfl⟩
  · obtain ⟨l1, e, l2, rfl, rfl⟩ := splE hm
    have me := ok.tk e (List.mem_append_right _ List.mem_cons_self)
    have t := give_ok (h := h) (n := n) me.1
    walk_at "rd"
    exact go_give G hh fun H' p r sv f hr hp hl sd G' => q H' _ _ ss (uE f) G' (aft_tool ok t.1 (Nat.le_succ_of_le t.2)) ⟨_, .tup (nwT_tup hp) (.cons (.int _) (.cons (.lst (nwT_new hr hl) (sd.mono fun _ _ hc => nwT_tup hc).rp) .nil)), .give rfl rfl rfl⟩
  · obtain ⟨l1, e, l2, rfl, rfl⟩ := splS hm
    have me := ok.st e (List.mem_append_right _ List.mem_cons_self)
    walk_at "rd"
    exact go_put G (by omega) (by omega) fun H' p r sv b its s' f hr hp hl sd G' pr => q H' _ es _ (uS f) G' (aft_store ok (put_ok pr)) ⟨_, .tup (nwT_tup hp) (.cons (.bl _) (.cons (.lst (nwT_new hr hl) (sd.mono fun _ _ hc => nwT_tup hc).rp) .nil)), .put rfl rfl rfl pr⟩
  · obtain ⟨l1, e, l2, rfl, rfl⟩ := splS hm
    have me := ok.st e (List.mem_append_right _ List.mem_cons_self)
    walk_at "rd"
    exact go_get G (by omega) (by omega) fun H' p r sv b its s' f hr hp hl sd G' pr => q H' _ es _ (uS f) G' (aft_store ok (get_ok pr)) ⟨_, .tup (nwT_tup hp) (.cons (.bl _) (.cons (.lst (nwT_new hr hl) (sd.mono fun _ _ hc => nwT_tup hc).rp) .nil)), .get rfl rfl rfl pr⟩
  · obtain ⟨l1, e, l2, rfl, rfl⟩ := splS hm
    walk_at "rd"
    refine go_bring G fun H' p r sv b its s' f hr hp hl sd G' eb b0 b1 b2 pr => ?_
    have t := sbt_ok pr
    subst eb
    exact q H' _ es _ (uS f) G' (aft_store ok ⟨t.1, Nat.le_succ_of_le t.2.1, Nat.le_succ_of_le t.2.2⟩) ⟨_, .tup (nwT_tup hp) (.cons (.int _) (.cons (.lst (nwT_new hr hl) (sd.mono fun _ _ hc => nwT_tup hc).rp) .nil)), .bring rfl rfl rfl pr⟩
end
end K23

set_option Elab.async false
set_option linter.all false
set_option maxRecDepth 100000
set_option maxHeartbeats 4000000
namespace K23
open PySem L2
theorem sbt_det {s a b : SS} {x y : List (Int × Bool × Int)} (h : Sbt s x a) : Sbt s y b → x = y ∧ a = b := by
  induction h generalizing y b with
  | done e =>
    intro h'
    cases h' with
    | done _ => exact ⟨rfl, rfl⟩
    | step e' _ => rw [e] at e'; cases e'
  | step e _ ih =>
    intro h'
    cases h' with
    | done e' => rw [e] at e'; cases e'
    | step e' r' =>
      rw [e] at e'
      cases e'
      obtain ⟨i1, i2⟩ := ih r'
      exact ⟨by rw [i1], i2⟩
theorem put_det {s a b : SS} {h n : Int} {p q : Bool} {x y : List (Int × Bool × Int)} (h1 : PutR s h n p x a) (h2 : PutR s h n q y b) : p = q ∧ x = y ∧ a = b := by
  unfold PutR at h1 h2
  by_cases c : s.puts ≠ [] ∨ s.most < s.level + n
  · rw [if_pos c] at h1 h2
    exact ⟨by rw [h1.1, h2.1], by rw [h1.2.1, h2.2.1], by rw [h1.2.2, h2.2.2]⟩
  · rw [if_neg c] at h1 h2
    have d := sbt_det h1.2 h2.2
    exact ⟨by rw [h1.1, h2.1], d.1, d.2⟩
theorem get_det {s a b : SS} {h n : Int} {p q : Bool} {x y : List (Int × Bool × Int)} (h1 : GetR s h n p x a) (h2 : GetR s h n q y b) : p = q ∧ x = y ∧ a = b := by
  unfold GetR at h1 h2
  by_cases c : s.gets ≠ [] ∨ s.level < n
  · rw [if_pos c] at h1 h2
    exact ⟨by rw [h1.1, h2.1], by rw [h1.2.1, h2.2.1], by rw [h1.2.2, h2.2.2]⟩
  · rw [if_neg c] at h1 h2
    have d := sbt_det h1.2 h2.2
    exact ⟨by rw [h1.1, h2.1], d.1, d.2⟩
/-! ### two goods that are alike -/
inductive AlE : List Ent → List Ent → Prop
  | nil : AlE [] []
  | cons {e f : Ent} {es fs : List Ent} : e.name = f.name → AlT e.t f.t → AlE es fs → AlE (e :: es) (f :: fs)
theorem AlE.names : ∀ {es fs : List Ent}, AlE es fs → es.map (·.name) = fs.map (·.name)
  | _, _, .nil => rfl
  | _, _, .cons h _ r => by rw [List.map_cons, List.map_cons, h, r.names]
theorem AlE.app : ∀ {a b c d : List Ent}, AlE a b → AlE c d → AlE (a ++ c) (b ++ d)
  | _, _, _, _, .nil, h => h
  | _, _, _, _, .cons h1 h2 r, h => .cons h1 h2 (r.app h)
theorem AlE.mid {nm : Str} : ∀ {l1 l2 m1 m2 : List Ent} {e f : Ent}, AlE (l1 ++ e :: l2) (m1 ++ f :: m2) → ((l1 ++ e :: l2).map (·.name)).Nodup → e.name = nm → f.name = nm → AlE l1 m1 ∧ AlT e.t f.t ∧ AlE l2 m2
  | [], l2, [], m2, e, f, .cons h1 h2 r, _, _, _ => ⟨.nil, h2, r⟩
  | [], l2, x :: m1, m2, e, f, .cons h1 h2 r, nd, e1, e2 => by
    exfalso
    have nn := r.names
    rw [List.nil_append, List.map_cons, List.nodup_cons, nn] at nd
    exact nd.1 (by rw [e1, ← e2]; exact List.mem_map_of_mem (f := fun x : Ent => x.name) (List.mem_append_right _ List.mem_cons_self))
  | x :: l1, l2, [], m2, e, f, .cons h1 h2 r, nd, e1, e2 => by
    exfalso
    rw [List.cons_append, List.map_cons, List.nodup_cons] at nd
    exact nd.1 (by rw [h1, e2, ← e1]; exact List.mem_map_of_mem (f := fun x : Ent => x.name) (List.mem_append_right _ List.mem_cons_self))
  | x :: l1, l2, y :: m1, m2, e, f, .cons h1 h2 r, nd, e1, e2 => by
    rw [List.cons_append, List.map_cons, List.nodup_cons] at nd
    obtain ⟨a, b, c⟩ := AlE.mid r nd.2 e1 e2
    exact ⟨.cons h1 h2 a, b, c⟩
theorem AlE.leave {h : Int} : ∀ {es fs : List Ent}, AlE es fs → AlE (es.map (lv1 h)) (fs.map (lv1 h)) ∧ es.filterMap (lvI h) = fs.filterMap (lvI h)
  | _, _, .nil => ⟨.nil, rfl⟩
  | _, _, .cons (e := e) (f := f) h1 h2 r => by
    obtain ⟨a, b⟩ := AlE.leave (h := h) r
    have g := h2.give h (getI e.t.held h)
    rw [List.map_cons, List.map_cons, List.filterMap_cons, List.filterMap_cons, b]
    unfold lv1 lvI
    rw [← h2.hd h]
    by_cases c : 0 < getI e.t.held h
    · rw [if_pos c, if_pos c, if_pos c, if_pos c]
      refine ⟨.cons (e := { e with t := (giveS e.t h (getI e.t.held h)).2 }) (f := { f with t := (giveS f.t h (getI e.t.held h)).2 }) h1 g.2 a, ?_⟩
      show (e.name, getI e.t.held h, (giveS e.t h (getI e.t.held h)).1) :: _ = (f.name, getI e.t.held h, (giveS f.t h (getI e.t.held h)).1) :: _
      rw [g.1, h1]
    · rw [if_neg c, if_neg c, if_neg c, if_neg c]
      exact ⟨.cons h1 h2 a, rfl⟩
end K23

set_option Elab.async false
set_option linter.all false
set_option maxRecDepth 100000
set_option maxHeartbeats 4000000
namespace K23
open PySem L2
def nmS2 (e : EntS) : Str × SS := (e.name, e.s)
theorem st_mid {nm : Str} : ∀ {l1 l2 m1 m2 : List EntS} {e f : EntS}, (l1 ++ e :: l2).map nmS2 = (m1 ++ f :: m2).map nmS2 → ((l1 ++ e :: l2).map (·.name)).Nodup → e.name = nm → f.name = nm → l1.map nmS2 = m1.map nmS2 ∧ e.s = f.s ∧ l2.map nmS2 = m2.map nmS2
  | [], l2, [], m2, e, f, h, _, _, _ => by
    rw [List.nil_append, List.nil_append, List.map_cons, List.map_cons] at h
    injection h with h1 h2
    injection h1 with _ h1
    exact ⟨rfl, h1, h2⟩
  | [], l2, x :: m1, m2, e, f, h, nd, e1, e2 => by
    exfalso
    rw [List.nil_append, List.cons_append, List.map_cons, List.map_cons] at h
    injection h with _ h2
    have nn := congrArg (List.map fun p : Str × SS => p.1) h2
    rw [List.map_map, List.map_map] at nn
    have nn : l2.map (·.name) = (m1 ++ f :: m2).map (·.name) := nn
    rw [List.nil_append, List.map_cons, List.nodup_cons, nn] at nd
    exact nd.1 (by rw [e1, ← e2]; exact List.mem_map_of_mem (f := fun x : EntS => x.name) (List.mem_append_right _ List.mem_cons_self))
  | x :: l1, l2, [], m2, e, f, h, nd, e1, e2 => by
    exfalso
    rw [List.nil_append, List.cons_append, List.map_cons, List.map_cons] at h
    injection h with h1 _
    injection h1 with h1 _
    rw [List.cons_append, List.map_cons, List.nodup_cons] at nd
    exact nd.1 (by rw [h1, e2, ← e1]; exact List.mem_map_of_mem (f := fun x : EntS => x.name) (List.mem_append_right _ List.mem_cons_self))
  | x :: l1, l2, y :: m1, m2, e, f, h, nd, e1, e2 => by
    rw [List.cons_append, List.cons_append, List.map_cons, List.map_cons] at h
    injection h with h1 h2
    rw [List.cons_append, List.map_cons, List.nodup_cons] at nd
    obtain ⟨a, b, c⟩ := st_mid h2 nd.2 e1 e2
    exact ⟨by rw [List.map_cons, List.map_cons, h1, a], b, c⟩
/-- one deed at alike goods: one answer, and they are alike again -/
theorem Dd.alike {es fs es' fs' : List Ent} {ss rs ss' rs' : List EntS} {word nm : Str} {h n : Int} {d d' : PyData} (D1 : Dd es ss word nm h n es' ss' d) (D2 : Dd fs rs word nm h n fs' rs' d') (a : AlE es fs) (b : ss.map nmS2 = rs.map nmS2) (n1 : (es.map (·.name)).Nodup) (n2 : (ss.map (·.name)).Nodup) : d = d' ∧ AlE es' fs' ∧ ss'.map nmS2 = rs'.map nmS2 := by
  have sw : ∀ {l1 l2 m1 m2 : List EntS} {e f : EntS} {s s' : SS}, l1.map nmS2 = m1.map nmS2 → l2.map nmS2 = m2.map nmS2 → e.name = f.name → s = s' → (l1 ++ { e with s := s } :: l2).map nmS2 = (m1 ++ { f with s := s' } :: m2).map nmS2 := fun {l1 l2 m1 m2 e f s s'} x y z w => by
    rw [List.map_append, List.map_append, List.map_cons, List.map_cons, x, y]
    show _ ++ (e.name, s) :: _ = _ ++ (f.name, s') :: _
    rw [z, w]
  cases D1 with
  | take w1 e1 m1 =>
    cases D2 with
    | take w2 e2 m2 =>
      subst e1 e2
      obtain ⟨x, y, z⟩ := a.mid n1 m1 m2
      have t := y.take h n
      exact ⟨by rw [t.1], x.app (.cons (by show _ = _; rw [m1, m2]) t.2 z), b⟩
    | give w2 _ _ => rw [w1] at w2; exact absurd w2 (by decide +kernel)
    | put w2 _ _ _ => rw [w1] at w2; exact absurd w2 (by decide +kernel)
    | get w2 _ _ _ => rw [w1] at w2; exact absurd w2 (by decide +kernel)
    | bring w2 _ _ _ => rw [w1] at w2; exact absurd w2 (by decide +kernel)
    | leave w2 => rw [w1] at w2; exact absurd w2 (by decide +kernel)
  | give w1 e1 m1 =>
    cases D2 with
    | give w2 e2 m2 =>
      subst e1 e2
      obtain ⟨x, y, z⟩ := a.mid n1 m1 m2
      have t := y.give h n
      exact ⟨by rw [t.1, y.giv], x.app (.cons (by show _ = _; rw [m1, m2]) t.2 z), b⟩
    | take w2 _ _ => rw [w1] at w2; exact absurd w2 (by decide +kernel)
    | put w2 _ _ _ => rw [w1] at w2; exact absurd w2 (by decide +kernel)
    | get w2 _ _ _ => rw [w1] at w2; exact absurd w2 (by decide +kernel)
    | bring w2 _ _ _ => rw [w1] at w2; exact absurd w2 (by decide +kernel)
    | leave w2 => rw [w1] at w2; exact absurd w2 (by decide +kernel)
  | put w1 e1 m1 r1 =>
    cases D2 with
    | put w2 e2 m2 r2 =>
      subst e1 e2
      obtain ⟨x, y, z⟩ := st_mid b n2 m1 m2
      rw [y] at r1
      obtain ⟨p, q, r⟩ := put_det r1 r2
      exact ⟨by rw [p, q], a, sw x z (by rw [m1, m2]) r⟩
    | take w2 _ _ => rw [w1] at w2; exact absurd w2 (by decide +kernel)
    | give w2 _ _ => rw [w1] at w2; exact absurd w2 (by decide +kernel)
    | get w2 _ _ _ => rw [w1] at w2; exact absurd w2 (by decide +kernel)
    | bring w2 _ _ _ => rw [w1] at w2; exact absurd w2 (by decide +kernel)
    | leave w2 => rw [w1] at w2; exact absurd w2 (by decide +kernel)
  | get w1 e1 m1 r1 =>
    cases D2 with
    | get w2 e2 m2 r2 =>
      subst e1 e2
      obtain ⟨x, y, z⟩ := st_mid b n2 m1 m2
      rw [y] at r1
      obtain ⟨p, q, r⟩ := get_det r1 r2
      exact ⟨by rw [p, q], a, sw x z (by rw [m1, m2]) r⟩
    | take w2 _ _ => rw [w1] at w2; exact absurd w2 (by decide +kernel)
    | give w2 _ _ => rw [w1] at w2; exact absurd w2 (by decide +kernel)
    | put w2 _ _ _ => rw [w1] at w2; exact absurd w2 (by decide +kernel)
    | bring w2 _ _ _ => rw [w1] at w2; exact absurd w2 (by decide +kernel)
    | leave w2 => rw [w1] at w2; exact absurd w2 (by decide +kernel)
  | bring w1 e1 m1 r1 =>
    cases D2 with
    | bring w2 e2 m2 r2 =>
      subst e1 e2
      obtain ⟨x, y, z⟩ := st_mid b n2 m1 m2
      rw [y] at r1 ⊢
      obtain ⟨q, r⟩ := sbt_det r1 r2
      exact ⟨by rw [q], a, sw x z (by rw [m1, m2]) r⟩
    | take w2 _ _ => rw [w1] at w2; exact absurd w2 (by decide +kernel)
    | give w2 _ _ => rw [w1] at w2; exact absurd w2 (by decide +kernel)
    | put w2 _ _ _ => rw [w1] at w2; exact absurd w2 (by decide +kernel)
    | get w2 _ _ _ => rw [w1] at w2; exact absurd w2 (by decide +kernel)
    | leave w2 => rw [w1] at w2; exact absurd w2 (by decide +kernel)
  | leave w1 =>
    cases D2 with
    | leave w2 =>
      have t := a.leave (h := h)
      exact ⟨by rw [t.2], t.1, b⟩
    | take w2 _ _ => rw [w1] at w2; exact absurd w2 (by decide +kernel)
    | give w2 _ _ => rw [w1] at w2; exact absurd w2 (by decide +kernel)
    | put w2 _ _ _ => rw [w1] at w2; exact absurd w2 (by decide +kernel)
    | get w2 _ _ _ => rw [w1] at w2; exact absurd w2 (by decide +kernel)
    | bring w2 _ _ _ => rw [w1] at w2; exact absurd w2 (by decide +kernel)
end K23

set_option Elab.async false
set_option linter.all false
set_option maxRecDepth 100000
set_option maxHeartbeats 4000000
namespace K23
open PySem L2
/-! ### what goods tell: a whole number and two lists of pairs, a tool or a store -/
def Kt (H H' : Hp) : Prop := ∀ c xs, H c = some (.tup xs) → H' c = some (.tup xs)
theorem Kt.refl {H : Hp} : Kt H H := fun _ _ h => h
theorem Kt.trans {H H' H'' : Hp} (a : Kt H H') (b : Kt H' H'') : Kt H H'' := fun c xs h => b c xs (a c xs h)
theorem Kt.of {H H' : Hp} (g : Same H H') : Kt H H' := fun _ _ h => g _ _ h
def X3 : Type := Int × List (Int × Int) × List (Int × Int)
inductive T3 (H : Hp) : List Addr → List V → List X3 → Prop
  | nil : T3 H [] [] []
  | cons {p ph pq : Addr} {hv qv : List V} {x : X3} {C : List Addr} {vs : List V} {l : List X3} : H p = some (.tup [.int x.1, .ref ph, .ref pq]) → H ph = some (.lst hv) → Prs H hv x.2.1 → H pq = some (.lst qv) → Prs H qv x.2.2 → T3 H C vs l → T3 H (ph :: pq :: C) (.ref p :: vs) (x :: l)
theorem T3.fr {H H' : Hp} {cs : List Addr} (f : FrG cs H H') (kt : Kt H H') {C : List Addr} {vs : List V} {l : List X3} (t : T3 H C vs l) (n : ∀ c ∈ C, c ∉ cs) : T3 H' C vs l := by
  induction t with
  | nil => exact .nil
  | cons h1 h2 h3 h4 h5 _ ih => exact .cons (kt _ _ h1) (f _ _ (n _ List.mem_cons_self) h2) (h3.mono kt) (f _ _ (n _ (List.mem_cons_of_mem _ List.mem_cons_self)) h4) (h5.mono kt) (ih fun c hc => n c (List.mem_cons_of_mem _ (List.mem_cons_of_mem _ hc)))
theorem T3.same {H H' : Hp} (g : Same H H') {C : List Addr} {vs : List V} {l : List X3} (t : T3 H C vs l) : T3 H' C vs l := by
  induction t with
  | nil => exact .nil
  | cons h1 h2 h3 h4 h5 _ ih => exact .cons (g _ _ h1) (g _ _ h2) (h3.mono (Kt.of g)) (g _ _ h4) (h5.mono (Kt.of g)) ih
theorem T3.has {H : Hp} {C : List Addr} {vs : List V} {l : List X3} (t : T3 H C vs l) : ∀ c ∈ C, ∃ xs, H c = some (.lst xs) := by
  induction t with
  | nil => exact fun c hc => absurd hc List.not_mem_nil
  | cons h1 h2 h3 h4 h5 _ ih =>
    intro c hc
    rcases List.mem_cons.mp hc with rfl | hc
    · exact ⟨_, h2⟩
    rcases List.mem_cons.mp hc with rfl | hc
    · exact ⟨_, h4⟩
    · exact ih c hc
theorem T3.length {H : Hp} {C : List Addr} {vs : List V} {l : List X3} (t : T3 H C vs l) : vs.length = l.length := by
  induction t with
  | nil => rfl
  | cons _ _ _ _ _ _ ih => rw [List.length_cons, List.length_cons, ih]
def p2D (l : List (Int × Int)) : List PyData := l.map fun p => .tuple [.int p.1, .int p.2]
theorem Prs.rp {K : PySem.W.Frag} {H : Hp} : ∀ {vs : List V} {ps : List (Int × Int)}, Prs H vs ps → RpL K H vs (p2D ps)
  | _, _, .nil => .nil
  | _, _, .cons h r => .cons (.tup h (.cons (.int _) (.cons (.int _) .nil))) r.rp
def d3 (l : List X3) : List PyData := l.map fun x => .tuple [.int x.1, .list (p2D x.2.1), .list (p2D x.2.2)]
theorem T3.rp {K : PySem.W.Frag} {H : Hp} {C : List Addr} {vs : List V} {l : List X3} (t : T3 H C vs l) : RpL K H vs (d3 l) := by
  induction t with
  | nil => exact .nil
  | cons h1 h2 h3 h4 h5 _ ih => exact .cons (.tup h1 (.cons (.int _) (.cons (.lst h2 h3.rp) (.cons (.lst h4 h5.rp) .nil)))) ih
theorem can_p2 (ps : List (Int × Int)) : PyData.canLayAll0 (p2D ps) = true := by
  induction ps with
  | nil => rfl
  | cons p ps ih =>
    unfold p2D at ih ⊢
    simp only [List.map_cons, PyData.canLayAll0, PyData.canLay0, Bool.and_true, Bool.true_and]
    exact ih
theorem dep_p2 (ps : List (Int × Int)) : PyData.depthAll (p2D ps) ≤ 2 := by
  induction ps with
  | nil => simp [p2D, PyData.depthAll]
  | cons p ps ih =>
    unfold p2D at ih ⊢
    simp only [List.map_cons, PyData.depthAll, PyData.depth] at ih ⊢
    omega
theorem can_d3 (l : List X3) : PyData.canLayAll0 (d3 l) = true := by
  induction l with
  | nil => rfl
  | cons x l ih =>
    have h1 := can_p2 x.2.1
    have h2 := can_p2 x.2.2
    unfold d3 at ih ⊢
    simp only [List.map_cons, PyData.canLayAll0, PyData.canLay0, h1, h2, Bool.and_true, Bool.true_and]
    exact ih
theorem dep_d3 (l : List X3) : PyData.depthAll (d3 l) ≤ 5 := by
  induction l with
  | nil => simp [d3, PyData.depthAll]
  | cons x l ih =>
    have h1 := dep_p2 x.2.1
    have h2 := dep_p2 x.2.2
    unfold d3 at ih ⊢
    simp only [List.map_cons, PyData.depthAll, PyData.depth] at ih ⊢
    omega
def tlD (l m : List X3) : PyData := .list [.list (d3 l), .list (d3 m)]
theorem sh_tl (l m : List X3) : SeqAt.shaped (tlD l m) = true := by
  unfold SeqAt.shaped tlD
  have e : PyData.canLay0 (.list [.list (d3 l), .list (d3 m)]) = true := by
    simp only [PyData.canLay0, PyData.canLayAll0, can_d3 l, can_d3 m, Bool.and_true]
  have d1 := dep_d3 l
  have d2 := dep_d3 m
  rw [e, Bool.true_and, decide_eq_true_eq]
  simp only [PyData.depth, PyData.depthAll]
  omega
/-- tools and stores, told in one list -/
structure Tl2 (H : Hp) (r a b : Addr) (C1 C2 : List Addr) (vt vl : List V) (l m : List X3) : Prop where
  hr : H r = some (.lst [.ref a, .ref b])
  ha : H a = some (.lst vt)
  ta : T3 H C1 vt l
  hb : H b = some (.lst vl)
  tb : T3 H C2 vl m
theorem Tl2.rp {K : PySem.W.Frag} {H : Hp} {r a b : Addr} {C1 C2 : List Addr} {vt vl : List V} {l m : List X3} (t : Tl2 H r a b C1 C2 vt vl l m) : Rp K H (.ref r) (tlD l m) := .lst t.hr (.cons (.lst t.ha t.ta.rp) (.cons (.lst t.hb t.tb.rp) .nil))
def tlR (r a b : Addr) (C1 C2 : List Addr) : List Addr := r :: a :: b :: (C1 ++ C2)
theorem Tl2.fr {H H' : Hp} {cs : List Addr} {r a b : Addr} {C1 C2 : List Addr} {vt vl : List V} {l m : List X3} (t : Tl2 H r a b C1 C2 vt vl l m) (f : FrG cs H H') (kt : Kt H H') (n : ∀ c ∈ tlR r a b C1 C2, c ∉ cs) : Tl2 H' r a b C1 C2 vt vl l m := by
  unfold tlR at n
  exact ⟨f _ _ (n _ (by simp)) t.hr, f _ _ (n _ (by simp)) t.ha, t.ta.fr f kt fun c hc => n c (by simp [hc]), f _ _ (n _ (by simp)) t.hb, t.tb.fr f kt fun c hc => n c (by simp [hc])⟩
theorem Tl2.same {H H' : Hp} {r a b : Addr} {C1 C2 : List Addr} {vt vl : List V} {l m : List X3} (g : Same H H') (t : Tl2 H r a b C1 C2 vt vl l m) : Tl2 H' r a b C1 C2 vt vl l m := ⟨g _ _ t.hr, g _ _ t.ha, t.ta.same g, g _ _ t.hb, t.tb.same g⟩
theorem Tl2.has {H : Hp} {r a b : Addr} {C1 C2 : List Addr} {vt vl : List V} {l m : List X3} (t : Tl2 H r a b C1 C2 vt vl l m) : ∀ c ∈ tlR r a b C1 C2, ∃ u, H c = some u := fun c hc => by
  unfold tlR at hc
  rcases List.mem_cons.mp hc with rfl | hc
  · exact ⟨_, t.hr⟩
  rcases List.mem_cons.mp hc with rfl | hc
  · exact ⟨_, t.ha⟩
  rcases List.mem_cons.mp hc with rfl | hc
  · exact ⟨_, t.hb⟩
  rcases List.mem_append.mp hc with hc | hc
  · obtain ⟨xs, h⟩ := t.ta.has c hc; exact ⟨_, h⟩
  · obtain ⟨xs, h⟩ := t.tb.has c hc; exact ⟨_, h⟩
/-! ### from what tools and stores tell -/
inductive TX : List X3 → List TS → Prop
  | nil : TX [] []
  | cons {x : X3} {t : TS} {l : List X3} {ts : List TS} : x.1 = t.free → PmO x.2.1 t → x.2.2 = t.que → TX l ts → TX (x :: l) (t :: ts)
def s3 (s : SS) : X3 := (s.level, s.gets, s.puts)
theorem TlL.t3 {H0 H : Hp} {vs : List V} {ts : List TS} (tl : TlL H0 H vs ts) : ∃ C l, T3 H C vs l ∧ TX l ts ∧ ∀ c ∈ C, H0 c = none := by
  induction tl with
  | nil => exact ⟨[], [], .nil, .nil, fun c hc => absurd hc List.not_mem_nil⟩
  | @cons v t hd vs ts h p _ ih =>
    obtain ⟨C, l, t3, tx, n⟩ := ih
    obtain ⟨pp, ph, pq, hs, qs, rfl, h1, h2, h3, h4, h5, h6, h7⟩ := h
    refine ⟨ph :: pq :: C, ((t.free, hd, t.que) : X3) :: l, .cons h1 h2 h3 h4 h5 t3, .cons rfl p rfl tx, fun c hc => ?_⟩
    rcases List.mem_cons.mp hc with rfl | hc
    · exact h6
    rcases List.mem_cons.mp hc with rfl | hc
    · exact h7
    · exact n c hc
theorem SlL.t3 {H0 H : Hp} {vs : List V} {ts : List SS} (tl : SlL H0 H vs ts) : ∃ C, T3 H C vs (ts.map s3) ∧ ∀ c ∈ C, H0 c = none := by
  induction tl with
  | nil => exact ⟨[], .nil, fun c hc => absurd hc List.not_mem_nil⟩
  | @cons v s vs ts h _ ih =>
    obtain ⟨C, t3, n⟩ := ih
    obtain ⟨pp, ph, pq, hs, qs, rfl, h1, h2, h3, h4, h5, h6, h7⟩ := h
    refine ⟨ph :: pq :: C, .cons (x := s3 s) h1 h2 h3 h4 h5 t3, fun c hc => ?_⟩
    rcases List.mem_cons.mp hc with rfl | hc
    · exact h6
    rcases List.mem_cons.mp hc with rfl | hc
    · exact h7
    · exact n c hc
/-- what is told of alike tools is the same -/
theorem TX.same {es fs : List Ent} (al : AlE es fs) : ∀ {l l' : List X3}, TX l (es.map (·.t)) → TX l' (fs.map (·.t)) → (∀ e ∈ es, (e.t.held.map (·.1)).Nodup) → (∀ e ∈ fs, (e.t.held.map (·.1)).Nodup) → l = l' := by
  induction al with
  | nil => intro l l' h h' _ _; cases h; cases h'; rfl
  | cons h1 h2 _ ih =>
    intro l l' h h' n n'
    cases h with
    | @cons x _ _ _ a b c k =>
      cases h' with
      | @cons x' _ _ _ a' b' c' k' =>
        have e1 : x = x' := by
          obtain ⟨x1, x2, x3⟩ := x
          obtain ⟨y1, y2, y3⟩ := x'
          have t := told_same h2 b b' (n _ List.mem_cons_self) (n' _ List.mem_cons_self)
          simp only at a c a' c' t
          rw [a, a', t, c, c', h2.fr, h2.qu]
        rw [e1, ih k k' (fun e he => n e (List.mem_cons_of_mem _ he)) fun e he => n' e (List.mem_cons_of_mem _ he)]
/-! ### the told ones are handed in -/
def tX (x : X3) : TS := ⟨x.1, x.2.1, x.2.2⟩
def sX (x : X3) : SS := ⟨x.1, 0, x.2.1, x.2.2⟩
structure TG (t : TS) : Prop where
  nd : (t.held.map (·.1)).Nodup
  hs : HsOk t
  ql : t.que.length ≤ 200
theorem PmO.sub {hd : List (Int × Int)} {t : TS} (p : PmO hd t) : ∀ q ∈ hd, q ∈ t.held ∧ 0 < q.2 := fun q hq => by
  have := List.mem_filter.mp (p.1.mem_iff.mp hq)
  exact ⟨this.1, of_decide_eq_true this.2⟩
theorem PmO.nd {hd : List (Int × Int)} {t : TS} (p : PmO hd t) : (hd.map (·.1)).Nodup := List.pairwise_map.mpr (p.2.imp fun h => by omega : hd.Pairwise (fun a b => a.1 ≠ b.1))
theorem PmO.len {hd : List (Int × Int)} {t : TS} (p : PmO hd t) (g : TG t) : hd.length ≤ 12 := by
  rw [p.1.length_eq]
  exact Nat.le_trans (List.length_filter_le _ _) (held_len g.nd g.hs)
theorem TX.td {H : Hp} {C : List Addr} {vs : List V} {l : List X3} (t : T3 H C vs l) : ∀ {ts : List TS}, TX l ts → (∀ t ∈ ts, TG t) → TdL H vs (l.map tX) := by
  induction t with
  | nil => exact fun _ _ => .nil
  | @cons p ph pq hv qv x C vs l h1 h2 h3 h4 h5 r ih =>
    intro ts k n
    cases k with
    | @cons _ t _ ts a b c k =>
      have g := n _ List.mem_cons_self
      refine TdL.cons (t := tX x) h1 h2 h3 h4 h5 b.nd ⟨fun p hp => g.hs.1 p (b.sub p hp).1, fun p hp => g.hs.2 p ?_⟩ ?_ (ih k fun t ht => n t (List.mem_cons_of_mem _ ht))
      · have hp : p ∈ x.2.2 := hp
        rw [c] at hp; exact hp
      · show x.2.2.length ≤ 200
        rw [c]; exact g.ql
theorem T3.sd {H : Hp} {C : List Addr} {vs : List V} {l : List X3} (t : T3 H C vs l) (n : ∀ x ∈ l, x.2.1.length ≤ 200 ∧ x.2.2.length ≤ 200) : SdL H vs (l.map sX) := by
  induction t with
  | nil => exact .nil
  | @cons p ph pq hv qv x C vs l h1 h2 h3 h4 h5 _ ih => exact SdL.cons (s := sX x) h1 h2 h3 h4 h5 (n _ List.mem_cons_self).1 (n _ List.mem_cons_self).2 (ih fun x hx => n x (List.mem_cons_of_mem _ hx))
/-- stood again, all is alike -/
theorem tok_stood {t : TS} {x : X3} (b : PmO x.2.1 t) (d : x.2.2 = t.que) (T : TOk t) : TOk (tX x) :=
  ⟨fun p hp => Int.le_of_lt (b.sub p hp).2, fun p hp => T.ps p (d ▸ hp)⟩
theorem zipE : ∀ {es fs es' : List Ent} {l : List X3} {k : Nat}, TX l (es.map (·.t)) → es.map (fun e => (e.name, e.c)) = fs.map (fun e => (e.name, e.c)) → es'.map tE = List.zipWith (fun e t => (e.name, e.a, e.c, t)) fs (l.map tX) → (∀ e ∈ es, TOk e.t ∧ e.t.que.length ≤ k) → (∀ e ∈ es, (e.t.held.map (·.1)).Nodup) → AlE es es' ∧ es'.map (fun e => (e.name, e.c)) = fs.map (fun e => (e.name, e.c)) ∧ ∀ e ∈ es', TOk e.t ∧ e.t.que.length ≤ k
  | [], [], es', _, k, .nil, _, h, _, _ => by
    cases es' with
    | nil => exact ⟨.nil, rfl, fun e he => absurd he List.not_mem_nil⟩
    | cons e es' => rw [List.map_cons, List.map_nil, List.zipWith_nil_left] at h; cases h
  | [], f :: fs, _, _, _, _, h, _, _, _ => by rw [List.map_nil, List.map_cons] at h; cases h
  | e :: es, [], _, _, _, _, h, _, _, _ => by rw [List.map_nil, List.map_cons] at h; cases h
  | e :: es, f :: fs, [], _, k, .cons _ _ _ _, _, h, _, _ => by rw [List.map_nil, List.map_cons, List.zipWith_cons_cons] at h; cases h
  | e :: es, f :: fs, e' :: es', _, k, .cons (x := x) a b c r, hn, h, ok, nd => by
    rw [List.map_cons, List.map_cons] at hn
    injection hn with n1 n2
    injection n1 with n1 n3
    rw [List.map_cons, List.map_cons, List.zipWith_cons_cons] at h
    injection h with h1 h2
    have e1 : e'.name = f.name := congrArg (fun x : Str × Addr × Int × TS => x.1) h1
    have e2 : e'.c = f.c := congrArg (fun x : Str × Addr × Int × TS => x.2.2.1) h1
    have e3 : e'.t = tX x := congrArg (fun x : Str × Addr × Int × TS => x.2.2.2) h1
    obtain ⟨i1, i2, i3⟩ := zipE r n2 h2 (fun e he => ok e (List.mem_cons_of_mem _ he)) fun e he => nd e (List.mem_cons_of_mem _ he)
    have ok0 := ok e List.mem_cons_self
    refine ⟨.cons (n1.trans e1.symm) ?_ i1, by rw [List.map_cons, List.map_cons, i2, e1, e2], fun y hy => ?_⟩
    · have := stood_alike b (nd e List.mem_cons_self) ok0.1.nn
      rw [e3]
      obtain ⟨x1, x2, x3⟩ := x
      simp only at a c
      subst a c
      exact this
    · rcases List.mem_cons.mp hy with rfl | hy
      · rw [e3]
        refine ⟨tok_stood b c ok0.1, ?_⟩
        show x.2.2.length ≤ k
        rw [c]; exact ok0.2
      · exact i3 y hy
theorem zipS : ∀ {ss rs ss' : List EntS} {k : Nat}, ss.map (fun e => (e.name, e.s.most)) = rs.map (fun e => (e.name, e.s.most)) → ss'.map sE = List.zipWith (fun e s => (e.name, e.a, ⟨s.level, e.s.most, s.gets, s.puts⟩)) rs (((ss.map (·.s)).map s3).map sX) → (∀ e ∈ ss, e.s.gets.length ≤ k ∧ e.s.puts.length ≤ k) → ss.map nmS2 = ss'.map nmS2 ∧ ss'.map (fun e => (e.name, e.s.most)) = rs.map (fun e => (e.name, e.s.most)) ∧ ∀ e ∈ ss', e.s.gets.length ≤ k ∧ e.s.puts.length ≤ k
  | [], [], ss', k, _, h, _ => by
    cases ss' with
    | nil => exact ⟨rfl, rfl, fun e he => absurd he List.not_mem_nil⟩
    | cons e es' => rw [List.map_cons, List.zipWith_nil_left] at h; cases h
  | [], f :: fs, _, _, h, _, _ => by rw [List.map_nil, List.map_cons] at h; cases h
  | e :: es, [], _, _, h, _, _ => by rw [List.map_nil, List.map_cons] at h; cases h
  | e :: es, f :: fs, [], k, _, h, _ => by rw [List.map_nil, List.map_cons, List.map_cons, List.map_cons, List.zipWith_cons_cons] at h; cases h
  | e :: es, f :: fs, e' :: es', k, hn, h, ok => by
    rw [List.map_cons, List.map_cons] at hn
    injection hn with n1 n2
    injection n1 with n1 n3
    rw [List.map_cons, List.map_cons, List.map_cons, List.map_cons, List.zipWith_cons_cons] at h
    injection h with h1 h2
    have e1 : e'.name = f.name := congrArg (fun x : Str × Addr × SS => x.1) h1
    have e3 : e'.s = ⟨e.s.level, f.s.most, e.s.gets, e.s.puts⟩ := congrArg (fun x : Str × Addr × SS => x.2.2) h1
    have e4 : e'.s = e.s := by rw [e3, ← n3]
    obtain ⟨i1, i2, i3⟩ := zipS n2 h2 (fun e he => ok e (List.mem_cons_of_mem _ he))
    refine ⟨?_, by rw [List.map_cons, List.map_cons, i2, e1, e4, n3], fun y hy => ?_⟩
    · rw [List.map_cons, List.map_cons, i1]
      show (e.name, e.s) :: _ = (e'.name, e'.s) :: _
      rw [e4, e1, n1]
    · rcases List.mem_cons.mp hy with rfl | hy
      · rw [e4]; exact ok e List.mem_cons_self
      · exact i3 y hy
end K23

set_option Elab.async false
set_option linter.all false
set_option maxRecDepth 100000
set_option maxHeartbeats 4000000
namespace K23
open PySem L2
theorem T3.get {H : Hp} {C : List Addr} {vs : List V} {l : List X3} (t : T3 H C vs l) : ∀ {i : Nat} {v : V}, vs[i]? = some v → ∃ p ph pq x, v = .ref p ∧ H p = some (.tup [.int x, .ref ph, .ref pq]) ∧ ph ∈ C ∧ pq ∈ C := by
  induction t with
  | nil => intro i v e; simp at e
  | cons h1 h2 h3 h4 h5 _ ih =>
    intro i v e
    cases i with
    | zero => simp at e; exact ⟨_, _, _, _, e.symm, h1, List.mem_cons_self, List.mem_cons_of_mem _ List.mem_cons_self⟩
    | succ i =>
      obtain ⟨p, ph, pq, x, a, c, d, f⟩ := ih (i := i) (v := v) (by simpa using e)
      exact ⟨p, ph, pq, x, a, c, List.mem_cons_of_mem _ (List.mem_cons_of_mem _ d), List.mem_cons_of_mem _ (List.mem_cons_of_mem _ f)⟩
theorem T3.lens {H : Hp} {C : List Addr} {vs : List V} {l : List X3} (t : T3 H C vs l) (n : ∀ x ∈ l, x.2.1.length ≤ 200 ∧ x.2.2.length ≤ 200) : ∀ c ∈ C, ∃ ys, H c = some (.lst ys) ∧ ys.length ≤ 200 := by
  induction t with
  | nil => exact fun c hc => absurd hc List.not_mem_nil
  | cons h1 h2 h3 h4 h5 _ ih =>
    intro c hc
    have n0 := n _ List.mem_cons_self
    rcases List.mem_cons.mp hc with rfl | hc
    · exact ⟨_, h2, by rw [h3.length]; exact n0.1⟩
    rcases List.mem_cons.mp hc with rfl | hc
    · exact ⟨_, h4, by rw [h5.length]; exact n0.2⟩
    · exact ih (fun x hx => n x (List.mem_cons_of_mem _ hx)) c hc
section
variable {P : Program} {w : World} {K : PySem.W.Frag} {mg : Str → Option Value} {base : Heap}
def EmI (r : Addr) (C : List Addr) (vt : List V) (H : Hp) (i : Nat) (σ : St) (H' : Hp) : Prop := ∃ v1 : Option V, σ = [some (.ref r), v1] ∧ FrG C H H' ∧ Kt H H' ∧ (∀ c ∈ C, ∃ ys, H' c = some (.lst ys) ∧ ys.length ≤ 200 + i) ∧ H' r = some (.lst vt)
def spEmp : Sp := fun vs H Q _ => ∃ (r : Addr) (C : List Addr) (vt : List V) (l : List X3), vs = [.ref r] ∧ H r = some (.lst vt) ∧ T3 H C vt l ∧ r ∉ C ∧ l.length ≤ 200 ∧ (∀ x ∈ l, x.2.1.length ≤ 200 ∧ x.2.2.length ≤ 200) ∧ ∀ H', FrG (r :: C) H H' → Kt H H' → Q .non H'
theorem ok_emp (D : DefAt K mg "_law_emptied" s__law_emptied ["some"]) : OkD P w K mg base 1 "_law_emptied" ["some"] spEmp := by
  refine D.ok sc__law_emptied (fun vs H Q E h => ?_) (fun f cdv A outer s H vs Q E hr h => ?_)
  · obtain ⟨_, _, _, _, rfl, _⟩ := h; rfl
  obtain ⟨r, C, vt, l, rfl, hr0, t3, nr, hl, hx, q⟩ := h
  have big : 100000 ≤ sizeLine := by unfold sizeLine; decide
  have lv := t3.length
  refine ⟨_, (pss_cons (ps_for PassesOwn.never rfl (pi_list (pv 0)) (pg_name (i := 1) sc__law_emptied.nd rfl (Or.inl rfl))
  (pss_cons (ps_expr (pe_appG (pe_ix ix_g (pv 1) pe_int (fun _ _ => rfl)) (pe_tupG (pa_c pe_int (pa_c pe_int pa_nil)))))
  (pss_one (ps_expr (pe_bm0 PySem.F.plainAttrs_list PySem.F.slot_list_clear PySem.F.type_list_clear mt_clearG (pe_ix ix_g (pv 1) pe_int (fun _ _ => rfl)))))))
  (pss_one (ps_expr (pe_bm0 PySem.F.plainAttrs_list PySem.F.slot_list_clear PySem.F.type_list_clear mt_clearG (pv 0))))), ?_⟩
  walk_at "r2"
  refine tfor_in ?_
  simp only [iList]
  walk_at "r2"
  refine ⟨⟨_, SqL.of hr0⟩, ?_⟩
  refine for_list (xs := vt) (EmI r C vt H) ?_ ?_ ?_ ?_
  · unfold EmI
    exact ⟨_, rfl, FrG.refl, Kt.refl, t3.lens hx, hr0⟩
  · intro i σ H1 hi z
    unfold EmI at z
    obtain ⟨_, rfl, _, _, _, h1⟩ := z
    exact SqL.of h1
  · intro i x σ H1 hi z
    unfold EmI at z
    obtain ⟨v1, rfl, f1, k1, c1, h1⟩ := z
    obtain ⟨p, ph, pq, y, rfl, hp, mh, mq⟩ := t3.get hi
    have hp1 := k1 _ _ hp
    obtain ⟨ys, hy, ly⟩ := c1 ph mh
    have li := (List.getElem?_eq_some_iff.mp hi).1
    clear hr0
    walk_at "r2"
    intro p2 H2 hp2 g2 h2
    have hp2' := g2 _ _ hp1
    have hy2 := g2 _ _ hy
    clear hp1
    walk_at "r2"
    refine ⟨by omega, fun H3 m3 => ?_⟩
    have np : p ≠ ph := fun z => by rw [z, hy2] at hp2'; cases hp2'
    have hp3 := m3.old hp2' np
    have nrh : r ≠ ph := fun z => nr (z ▸ mh)
    have nrq : r ≠ pq := fun z => nr (z ▸ mq)
    have c3 : ∀ c ∈ C, ∃ ys, H3 c = some (.lst ys) ∧ ys.length ≤ 200 + (i + 1) := fun c hc => by
      by_cases z : c = ph
      · rw [z]; exact ⟨_, m3.at_, by rw [List.length_append, List.length_singleton]; omega⟩
      · obtain ⟨zs, hz, lz⟩ := c1 c hc
        exact ⟨zs, m3.old (g2 _ _ hz) z, by omega⟩
    obtain ⟨zs, hz, lz⟩ := c3 pq mq
    clear hp2' hy2
    walk_at "r2"
    refine ⟨⟨_, SqL.of hz⟩, pq, zs, rfl, rfl, hz, fun H4 m4 => ?_⟩
    walk_at "r2"
    unfold EmI
    refine ⟨_, rfl, fun c u nc hc => m4.old (m3.old (g2 _ _ (f1 c u nc hc)) (fun z => nc (z ▸ mh))) (fun z => nc (z ▸ mq)), fun c xs hc => ?_, fun c hc => ?_, m4.old (m3.old (g2 _ _ h1) nrh) nrq⟩
    · have h3 := g2 _ _ (k1 c xs hc)
      have h4 := m3.old h3 (fun z => by rw [z, g2 _ _ hy] at h3; cases h3)
      exact m4.old h4 (fun z => by rw [z, hz] at h4; cases h4)
    · by_cases z : c = pq
      · rw [z]; exact ⟨_, m4.at_, Nat.zero_le _⟩
      · obtain ⟨ws, hw, lw⟩ := c3 c hc
        exact ⟨ws, m4.old hw z, lw⟩
  · intro σ H1 z
    unfold EmI at z
    obtain ⟨v1, rfl, f1, k1, c1, h1⟩ := z
    clear hr0
    walk_at "r2"
    refine ⟨⟨_, SqL.of h1⟩, r, vt, rfl, rfl, h1, fun H2 m2 => ?_⟩
    refine q H2 (fun c u nc hc => ?_) (fun c xs hc => ?_)
    · rw [List.mem_cons, not_or] at nc
      exact m2.old (f1 c u nc.2 hc) nc.1
    · have h2 := k1 c xs hc
      exact m2.old h2 (fun z => by rw [z, h1] at h2; cases h2)
end
end K23

set_option Elab.async false
set_option linter.all false
set_option maxRecDepth 100000
set_option maxHeartbeats 4000000
namespace K23
open PySem L2
/-! ### goods, the deck and the program with their places -/
def rg (g dt ds : Addr) (AE AS : List Addr) : List Addr := g :: dt :: ds :: (AE ++ AS)
structure Gd (CG CT CS : Addr) (H : Hp) (g dt ds : Addr) (AE AS : List Addr) (pr0 : List (Str × Int)) (pr1 : List (Str × Int × Int)) (es : List Ent) (ss : List EntS) (k : Nat) : Prop where
  G : GoA CG CT CS H g dt ds es ss
  ok : GOk es ss k
  n0 : es.map (fun e => (e.name, e.c)) = pr0
  n1 : ss.map (fun e => (e.name, e.s.most)) = pr1.map (fun p => (p.1, p.2.2))
  aE : adE es = AE
  aS : adS ss = AS
theorem Gd.same {CG CT CS : Addr} {H H' : Hp} {g dt ds : Addr} {AE AS : List Addr} {pr0 : List (Str × Int)} {pr1 : List (Str × Int × Int)} {es : List Ent} {ss : List EntS} {k : Nat} (s : Same H H') (X : Gd CG CT CS H g dt ds AE AS pr0 pr1 es ss k) : Gd CG CT CS H' g dt ds AE AS pr0 pr1 es ss k := { X with G := X.G.same s }
theorem Gd.fr {CG CT CS : Addr} {H H' : Hp} {g dt ds : Addr} {AE AS : List Addr} {pr0 : List (Str × Int)} {pr1 : List (Str × Int × Int)} {es : List Ent} {ss : List EntS} {k : Nat} {cs : List Addr} (X : Gd CG CT CS H g dt ds AE AS pr0 pr1 es ss k) (f : FrG cs H H') (kt : Kt H H') (n : ∀ c ∈ rg g dt ds AE AS, c ∉ cs) : Gd CG CT CS H' g dt ds AE AS pr0 pr1 es ss k := by
  refine { X with G := X.G.grow fun c u hc hu => ?_ }
  rw [X.aE, X.aS] at hc
  rcases hc with hc | ⟨xs, rfl⟩
  · exact f c u (n c hc) hu
  · exact kt c xs hu
theorem Gd.has {CG CT CS : Addr} {H : Hp} {g dt ds : Addr} {AE AS : List Addr} {pr0 : List (Str × Int)} {pr1 : List (Str × Int × Int)} {es : List Ent} {ss : List EntS} {k : Nat} (X : Gd CG CT CS H g dt ds AE AS pr0 pr1 es ss k) : ∀ c ∈ rg g dt ds AE AS, ∃ u, H c = some u := fun c hc => X.G.has c (by rw [X.aE, X.aS]; exact hc)
theorem Gd.tg {CG CT CS : Addr} {H : Hp} {g dt ds : Addr} {AE AS : List Addr} {pr0 : List (Str × Int)} {pr1 : List (Str × Int × Int)} {es : List Ent} {ss : List EntS} {k : Nat} (X : Gd CG CT CS H g dt ds AE AS pr0 pr1 es ss k) : ∀ t ∈ es.map (·.t), TG t := fun t ht => by
  obtain ⟨e, he, rfl⟩ := List.mem_map.mp ht
  obtain ⟨dx, qs, _, _, _, _, a, b, c⟩ := X.G.2.2.2.1 e he
  exact ⟨a, b, c⟩
theorem Gd.nd {CG CT CS : Addr} {H : Hp} {g dt ds : Addr} {AE AS : List Addr} {pr0 : List (Str × Int)} {pr1 : List (Str × Int × Int)} {es : List Ent} {ss : List EntS} {k : Nat} (X : Gd CG CT CS H g dt ds AE AS pr0 pr1 es ss k) : ∀ e ∈ es, (e.t.held.map (·.1)).Nodup := fun e he => (X.tg _ (List.mem_map_of_mem he)).nd
theorem Gd.kt {CG CT CS : Addr} {H H' : Hp} {g dt ds : Addr} {AE AS : List Addr} {pr0 : List (Str × Int)} {pr1 : List (Str × Int × Int)} {es : List Ent} {ss : List EntS} {k : Nat} (X : Gd CG CT CS H g dt ds AE AS pr0 pr1 es ss k) (f : FrG (AE ++ AS) H H') : Kt H H' := fun c xs hc => f c _ (fun z => by
  rw [← X.aE, ← X.aS] at z
  obtain ⟨_, _, _, h4, h5, _⟩ := X.G
  rcases List.mem_append.mp z with z | z
  · obtain ⟨e, he, z⟩ := adE_mem z
    have := (h4 e he).ne c xs hc
    rcases z with rfl | rfl | rfl
    · exact this.1 rfl
    · exact this.2.1 rfl
    · exact this.2.2 rfl
  · obtain ⟨e, he, z⟩ := adS_mem z
    have := (h5 e he).ne c xs hc
    rcases z with rfl | rfl | rfl
    · exact this.1 rfl
    · exact this.2.1 rfl
    · exact this.2.2 rfl) hc
theorem Gd.le0 {CG CT CS : Addr} {H : Hp} {g dt ds : Addr} {AE AS : List Addr} {pr0 : List (Str × Int)} {pr1 : List (Str × Int × Int)} {es : List Ent} {ss : List EntS} {k : Nat} (X : Gd CG CT CS H g dt ds AE AS pr0 pr1 es ss k) (b : Pr0 pr0) : es.length ≤ 6 := by have := congrArg List.length X.n0; rw [List.length_map] at this; have := b.1; omega
theorem Gd.le1 {CG CT CS : Addr} {H : Hp} {g dt ds : Addr} {AE AS : List Addr} {pr0 : List (Str × Int)} {pr1 : List (Str × Int × Int)} {es : List Ent} {ss : List EntS} {k : Nat} (X : Gd CG CT CS H g dt ds AE AS pr0 pr1 es ss k) (b : Pr1 pr1) : ss.length ≤ 6 := by have := congrArg List.length X.n1; rw [List.length_map, List.length_map] at this; have := b.1; omega
theorem Gd.nm0 {CG CT CS : Addr} {H : Hp} {g dt ds : Addr} {AE AS : List Addr} {pr0 : List (Str × Int)} {pr1 : List (Str × Int × Int)} {es : List Ent} {ss : List EntS} {k : Nat} (X : Gd CG CT CS H g dt ds AE AS pr0 pr1 es ss k) : es.map (·.name) = pr0.map (·.1) := by rw [← X.n0, List.map_map]; rfl
theorem Gd.nm1 {CG CT CS : Addr} {H : Hp} {g dt ds : Addr} {AE AS : List Addr} {pr0 : List (Str × Int)} {pr1 : List (Str × Int × Int)} {es : List Ent} {ss : List EntS} {k : Nat} (X : Gd CG CT CS H g dt ds AE AS pr0 pr1 es ss k) : ss.map (·.name) = pr1.map (·.1) := by
  have := congrArg (List.map (fun x : Str × Int => x.1)) X.n1
  rw [List.map_map, List.map_map] at this
  exact this
structure Bs (H : Hp) (dk s0 pp p0 p1 : Addr) (ys0 ys1 : List V) (pr0 : List (Str × Int)) (pr1 : List (Str × Int × Int)) (k : Int) : Prop where
  D : Dk H dk s0 k
  P : Prg H pp p0 p1 ys0 ys1 pr0 pr1
  b0 : Pr0 pr0
  b1 : Pr1 pr1
  q0 : p0 ∉ [dk]
  q1 : p1 ∉ [dk]
def bsR (dk s0 p0 p1 : Addr) : List Addr := [dk, s0, p0, p1]
theorem Bs.same {H H' : Hp} {dk s0 pp p0 p1 : Addr} {ys0 ys1 : List V} {pr0 : List (Str × Int)} {pr1 : List (Str × Int × Int)} {k : Int} (s : Same H H') (B : Bs H dk s0 pp p0 p1 ys0 ys1 pr0 pr1 k) : Bs H' dk s0 pp p0 p1 ys0 ys1 pr0 pr1 k := { B with D := B.D.same s, P := B.P.same s }
theorem Bs.fr {H H' : Hp} {cs : List Addr} {dk s0 pp p0 p1 : Addr} {ys0 ys1 : List V} {pr0 : List (Str × Int)} {pr1 : List (Str × Int × Int)} {k : Int} (B : Bs H dk s0 pp p0 p1 ys0 ys1 pr0 pr1 k) (f : FrG cs H H') (kt : Kt H H') (n : ∀ c ∈ bsR dk s0 p0 p1, c ∉ cs) : Bs H' dk s0 pp p0 p1 ys0 ys1 pr0 pr1 k := by
  refine { B with D := ?_, P := ?_ }
  · obtain ⟨ns, a, h1, h2, h3⟩ := B.D
    exact ⟨ns, a, f _ _ (n _ (by simp [bsR])) h1, f _ _ (n _ (by simp [bsR])) h2, h3⟩
  · obtain ⟨⟨x2, x3, t⟩, a, b, c, d⟩ := B.P
    exact ⟨⟨x2, x3, kt _ _ t⟩, f _ _ (n _ (by simp [bsR])) a, f _ _ (n _ (by simp [bsR])) b, c.keep kt, d.keep kt⟩
theorem Bs.has {H : Hp} {dk s0 pp p0 p1 : Addr} {ys0 ys1 : List V} {pr0 : List (Str × Int)} {pr1 : List (Str × Int × Int)} {k : Int} (B : Bs H dk s0 pp p0 p1 ys0 ys1 pr0 pr1 k) : ∀ c ∈ bsR dk s0 p0 p1, ∃ u, H c = some u := fun c hc => by
  obtain ⟨ns, a, h1, h2, h3⟩ := B.D
  unfold bsR at hc
  simp only [List.mem_cons, List.not_mem_nil, or_false] at hc
  rcases hc with rfl | rfl | rfl | rfl
  · exact ⟨_, h1⟩
  · exact ⟨_, h2⟩
  · exact ⟨_, B.P.l0⟩
  · exact ⟨_, B.P.l1⟩
theorem Bs.mono {H : Hp} {dk s0 pp p0 p1 : Addr} {ys0 ys1 : List V} {pr0 : List (Str × Int)} {pr1 : List (Str × Int × Int)} {k k' : Int} (B : Bs H dk s0 pp p0 p1 ys0 ys1 pr0 pr1 k) (h : k ≤ k') : Bs H dk s0 pp p0 p1 ys0 ys1 pr0 pr1 k' := { B with D := B.D.mono h }
/-- places that are and places that are not yet -/
theorem dj {H : Hp} {A B : List Addr} (h : ∀ c ∈ A, ∃ u, H c = some u) (n : ∀ c ∈ B, H c = none) : (∀ c ∈ A, c ∉ B) ∧ ∀ c ∈ B, c ∉ A := by
  refine ⟨fun c hc z => ?_, fun c hc z => ?_⟩
  · obtain ⟨u, hu⟩ := h c hc; rw [n c z] at hu; cases hu
  · obtain ⟨u, hu⟩ := h c z; rw [n c hc] at hu; cases hu
/-! ### what is asked of goods -/
theorem can_tk (ps : List (Int × Int)) : PyData.canLayAll0 (tkD ps) = true := by
  have w : PyData.strOk "takes" = true := by with_unfolding_all decide
  induction ps with
  | nil => rfl
  | cons p ps ih =>
    unfold tkD at ih ⊢
    simp only [List.map_cons, PyData.canLayAll0, PyData.canLay0, w, Bool.and_true, Bool.true_and]
    exact ih
theorem dep_tk (ps : List (Int × Int)) : PyData.depthAll (tkD ps) ≤ 2 := by
  induction ps with
  | nil => simp [tkD, PyData.depthAll]
  | cons p ps ih =>
    unfold tkD at ih ⊢
    simp only [List.map_cons, PyData.depthAll, PyData.depth] at ih ⊢
    omega
theorem can_st (ps : List (Int × Bool × Int)) : PyData.canLayAll0 (stD ps) = true := by
  have w : ∀ b, PyData.strOk (wordOf b) = true := fun b => by cases b <;> with_unfolding_all decide
  induction ps with
  | nil => rfl
  | cons p ps ih =>
    unfold stD at ih ⊢
    simp only [List.map_cons, PyData.canLayAll0, PyData.canLay0, w, Bool.and_true, Bool.true_and]
    exact ih
theorem dep_st (ps : List (Int × Bool × Int)) : PyData.depthAll (stD ps) ≤ 2 := by
  induction ps with
  | nil => simp [stD, PyData.depthAll]
  | cons p ps ih =>
    unfold stD at ih ⊢
    simp only [List.map_cons, PyData.depthAll, PyData.depth] at ih ⊢
    omega
theorem can_lv {ls : List (Str × Int × List (Int × Int))} (h : ∀ x ∈ ls, PyData.strOk x.1 = true) : PyData.canLayAll0 (lvD ls) = true := by
  induction ls with
  | nil => rfl
  | cons p ps ih =>
    have ih := ih fun x hx => h x (List.mem_cons_of_mem _ hx)
    have h0 := h p List.mem_cons_self
    have h1 := can_tk p.2.2
    unfold lvD at ih ⊢
    simp only [List.map_cons, PyData.canLayAll0, PyData.canLay0, h0, h1, Bool.and_true, Bool.true_and]
    exact ih
theorem dep_lv (ls : List (Str × Int × List (Int × Int))) : PyData.depthAll (lvD ls) ≤ 5 := by
  induction ls with
  | nil => simp [lvD, PyData.depthAll]
  | cons p ps ih =>
    have h1 := dep_tk p.2.2
    unfold lvD at ih ⊢
    simp only [List.map_cons, PyData.depthAll, PyData.depth] at ih ⊢
    omega
theorem Dd.sh {es es' : List Ent} {ss ss' : List EntS} {word nm : Str} {h n : Int} {d : PyData} (D : Dd es ss word nm h n es' ss' d) (hn : ∀ e ∈ es, PyData.strOk e.name = true) : SeqAt.shaped d = true := by
  have b2 : ∀ {x : PyData} {l : List PyData}, PyData.canLay0 x = true → PyData.depth x ≤ 1 → PyData.canLayAll0 l = true → PyData.depthAll l ≤ 5 → SeqAt.shaped (.tuple [x, .list l]) = true := fun {x l} h1 h2 h3 h4 => by
    unfold SeqAt.shaped
    have e : PyData.canLay0 (.tuple [x, .list l]) = true := by simp only [PyData.canLay0, PyData.canLayAll0, h1, h3, Bool.and_true]
    rw [e, Bool.true_and, decide_eq_true_eq]
    simp only [PyData.depth, PyData.depthAll]
    omega
  cases D with
  | take _ _ _ => rfl
  | give _ _ _ => exact b2 rfl (by simp [PyData.depth]) (can_tk _) (Nat.le_trans (dep_tk _) (by decide))
  | put _ _ _ _ => exact b2 rfl (by simp [PyData.depth]) (can_st _) (Nat.le_trans (dep_st _) (by decide))
  | get _ _ _ _ => exact b2 rfl (by simp [PyData.depth]) (can_st _) (Nat.le_trans (dep_st _) (by decide))
  | bring _ _ _ _ => exact b2 rfl (by simp [PyData.depth]) (can_st _) (Nat.le_trans (dep_st _) (by decide))
  | leave _ =>
    have c := can_lv (ls := es.filterMap (lvI h)) fun x hx => by
      obtain ⟨e, he, ee⟩ := List.mem_filterMap.mp hx
      unfold lvI at ee
      split at ee
      · cases ee; exact hn e he
      · cases ee
    have d := dep_lv (es.filterMap (lvI h))
    unfold SeqAt.shaped
    have e : PyData.canLay0 (.list (lvD (es.filterMap (lvI h)))) = true := by simp only [PyData.canLay0, c]
    rw [e, Bool.true_and, decide_eq_true_eq]
    simp only [PyData.depth]
    omega
section
variable {K : PySem.W.Frag}
theorem go_ask {CG CT CS : Addr} {H : Hp} {g dt ds dp : Addr} {AE AS : List Addr} {pr0 : List (Str × Int)} {pr1 : List (Str × Int × Int)} {es : List Ent} {ss : List EntS} {i : Nat} {word nm : Str} {h n : Int} {Kx : VK} {E : XK} (X : Gd CG CT CS H g dt ds AE AS pr0 pr1 es ss i) (b0 : Pr0 pr0) (hi : i ≤ 110) (hd : H dp = some (.tup [.str word, .int h, .str nm, .int n])) (dd : Deed pr0 pr1 word h nm n)
    (q : ∀ H' v es' ss' d, FrG (AE ++ AS) H H' → Kt H H' → Gd CG CT CS H' g dt ds AE AS pr0 pr1 es' ss' (i + 1) → Rp K (nwT H H') v d → Dd es ss word nm h n es' ss' d → Kx v H') : spAsk K CG CT CS [.ref g, .ref dp] H Kx E := by
  have l0 := X.le0 b0
  refine ⟨g, dt, ds, dp, es, ss, i, word, nm, h, n, rfl, X.G, X.ok, hi, by omega, hd, dd.1, dd.2.1, by rw [X.nm0, X.nm1]; exact dd.2.2, fun H' v es' ss' f G' af an => ?_⟩
  obtain ⟨d, rp, D⟩ := an
  rw [X.aE, X.aS] at f
  exact q H' v es' ss' d f (X.kt f) ⟨G', af.ok, af.nE.trans X.n0, af.nS.trans X.n1, af.aE.trans X.aE, af.aS.trans X.aS⟩ rp D
theorem go_drawn {H : Hp} {dk s0 pp p0 p1 : Addr} {ys0 ys1 : List V} {pr0 : List (Str × Int)} {pr1 : List (Str × Int × Int)} {k : Int} {Kx : VK} {E : XK} (B : Bs H dk s0 pp p0 p1 ys0 ys1 pr0 pr1 k) (hk : k ≤ 10000)
    (q : ∀ H' dp word nm h n, FrG [dk] H H' → Kt H H' → Bs H' dk s0 pp p0 p1 ys0 ys1 pr0 pr1 (k + 10) → H' dp = some (.tup [.str word, .int h, .str nm, .int n]) → Deed pr0 pr1 word h nm n → Kx (.ref dp) H') : spDeed [.ref dk, .ref pp] H Kx E :=
  ⟨dk, s0, pp, p0, p1, k, ys0, ys1, pr0, pr1, rfl, B.D, hk, B.P, B.b0, B.b1, B.q0, B.q1, fun H' dp word nm h n f D' hd dd => q H' dp word nm h n f (B.D.kt f) { B with D := D', P := B.P.fr B.D f B.q0 B.q1 } hd dd⟩
theorem go_deed {CG CT CS : Addr} {H : Hp} {dk s0 pp p0 p1 g dt ds : Addr} {AE AS : List Addr} {ys0 ys1 : List V} {pr0 : List (Str × Int)} {pr1 : List (Str × Int × Int)} {es : List Ent} {ss : List EntS} {i : Nat} {k : Int} {Kx : Hp → Prop} {E E' : XK} (B : Bs H dk s0 pp p0 p1 ys0 ys1 pr0 pr1 k) (hk : k ≤ 10000) (X : Gd CG CT CS H g dt ds AE AS pr0 pr1 es ss i) (hi : i ≤ 110) (n : ∀ c ∈ bsR dk s0 p0 p1, c ∉ rg g dt ds AE AS)
    (q : ∀ H' es' ss', FrG (dk :: (AE ++ AS)) H H' → Kt H H' → Bs H' dk s0 pp p0 p1 ys0 ys1 pr0 pr1 (k + 10) → Gd CG CT CS H' g dt ds AE AS pr0 pr1 es' ss' (i + 1) → Kx H') : spDeed [.ref dk, .ref pp] H (fun v H1 => spAsk K CG CT CS [.ref g, v] H1 (fun _ H2 => Kx H2) E') E := by
  refine go_drawn B hk fun H1 dp word nm h n' f1 k1 B1 hd dd => ?_
  have X1 := X.fr f1 k1 fun c hc z => n dk (by simp [bsR]) (by rw [← List.mem_singleton.mp z]; exact hc)
  refine go_ask X1 B.b0 hi hd dd fun H2 v es' ss' d f2 k2 X2 _ _ => ?_
  refine q H2 es' ss' (fun c u nc hc => ?_) (k1.trans k2) (B1.fr f2 k2 fun c hc z => n c hc (by unfold rg; exact List.mem_cons_of_mem _ (List.mem_cons_of_mem _ (List.mem_cons_of_mem _ z)))) X2
  rw [List.mem_cons, not_or] at nc
  exact f2 c u nc.2 (f1 c u (fun z => nc.1 (List.mem_singleton.mp z)) hc)
theorem go_tools {CG CT CS : Addr} {H : Hp} {g dt ds : Addr} {AE AS : List Addr} {pr0 : List (Str × Int)} {pr1 : List (Str × Int × Int)} {es : List Ent} {ss : List EntS} {i : Nat} {Kx : VK} {E : XK} (X : Gd CG CT CS H g dt ds AE AS pr0 pr1 es ss i) (b0 : Pr0 pr0)
    (q : ∀ r H' vs C l, H r = none → Same H H' → H' r = some (.lst vs) → T3 (hide r H') C vs l → TX l (es.map (·.t)) → (∀ c ∈ C, H c = none) → Kx (.ref r) H') : spTools CG CT [.ref g] H Kx E := by
  have l0 := X.le0 b0
  obtain ⟨⟨dx, h1⟩, h2, h3, h4, h5, _⟩ := X.G
  refine ⟨g, dx, dt, _, es, rfl, h1, h2, h4, by omega, fun r H' vs hr s hv tl => ?_⟩
  obtain ⟨C, l, t3, tx, n⟩ := tl.t3
  exact q r H' vs C l hr s hv t3 tx n
theorem go_stores {CG CT CS : Addr} {H : Hp} {g dt ds : Addr} {AE AS : List Addr} {pr0 : List (Str × Int)} {pr1 : List (Str × Int × Int)} {es : List Ent} {ss : List EntS} {i : Nat} {Kx : VK} {E : XK} (X : Gd CG CT CS H g dt ds AE AS pr0 pr1 es ss i) (b1 : Pr1 pr1)
    (q : ∀ r H' vs C, H r = none → Same H H' → H' r = some (.lst vs) → T3 (hide r H') C vs ((ss.map (·.s)).map s3) → (∀ c ∈ C, H c = none) → Kx (.ref r) H') : spStores CG CS [.ref g] H Kx E := by
  have l1 := X.le1 b1
  obtain ⟨⟨dx, h1⟩, h2, h3, h4, h5, _⟩ := X.G
  refine ⟨g, dx, ds, _, ss, rfl, h1, h3, h5, by omega, fun r H' vs hr s hv tl => ?_⟩
  obtain ⟨C, t3, n⟩ := tl.t3
  exact q r H' vs C hr s hv t3 n
/-- tools and stores, told in one list -/
theorem tl2_of {H H1 H2 H3 : Hp} {r a b : Addr} {C1 C2 : List Addr} {vt vl : List V} {l m : List X3} (ha : H a = none) (s1 : Same H H1) (va : H1 a = some (.lst vt)) (t1 : T3 (hide a H1) C1 vt l) (n1 : ∀ c ∈ C1, H c = none) (hb : H1 b = none) (s2 : Same H1 H2) (vb : H2 b = some (.lst vl)) (t2 : T3 (hide b H2) C2 vl m) (n2 : ∀ c ∈ C2, H1 c = none) (hr : H2 r = none) (s3 : Same H2 H3) (vr : H3 r = some (.lst [.ref a, .ref b])) :
    Tl2 H3 r a b C1 C2 vt vl l m ∧ (∀ c ∈ tlR r a b C1 C2, H c = none) ∧ a ∉ C1 ∧ b ∉ C2 ∧ ∀ c ∈ r :: b :: C2, c ∉ a :: C1 := by
  have s23 := s2.trans s3
  refine ⟨⟨vr, s23 _ _ va, t1.same (hide_le.trans s23), s3 _ _ vb, t2.same (hide_le.trans s3)⟩, fun c hc => ?_, fun z => ?_, fun z => ?_, fun c hc z => ?_⟩
  · unfold tlR at hc
    rcases List.mem_cons.mp hc with rfl | hc
    · exact s1.free (s2.free hr)
    rcases List.mem_cons.mp hc with rfl | hc
    · exact ha
    rcases List.mem_cons.mp hc with rfl | hc
    · exact s1.free hb
    rcases List.mem_append.mp hc with hc | hc
    · exact n1 c hc
    · exact s1.free (n2 c hc)
  · obtain ⟨xs, h⟩ := t1.has a z
    exact (hide_inv h).1 rfl
  · obtain ⟨xs, h⟩ := t2.has b z
    exact (hide_inv h).1 rfl
  · have h1 : H1 c = none := by
      rcases List.mem_cons.mp hc with rfl | hc
      · exact s2.free hr
      rcases List.mem_cons.mp hc with rfl | hc
      · exact hb
      · exact n2 c hc
    rcases List.mem_cons.mp z with rfl | z
    · rw [va] at h1; cases h1
    · obtain ⟨xs, h⟩ := t1.has c z
      rw [(hide_inv h).2] at h1; cases h1
end
end K23

set_option Elab.async false
set_option linter.all false
set_option maxRecDepth 100000
set_option maxHeartbeats 4000000
namespace K23
open PySem L2
section
variable {P : Program} {w : World} {K : PySem.W.Frag} {mg : Str → Option Value} {base : Heap}
theorem go_next {H : Hp} {dk s0 pp p0 p1 : Addr} {ys0 ys1 : List V} {pr0 : List (Str × Int)} {pr1 : List (Str × Int × Int)} {k : Int} {Kx : VK} {E : XK} (B : Bs H dk s0 pp p0 p1 ys0 ys1 pr0 pr1 k) (hk : k ≤ 10000) (q : ∀ m H', 0 ≤ m → FrG [dk] H H' → Kt H H' → Bs H' dk s0 pp p0 p1 ys0 ys1 pr0 pr1 (k + 1) → Kx (.int m) H') : spNx [.ref dk] H Kx E :=
  ⟨dk, s0, k, rfl, B.D, by omega, fun m H' hm f D' => q m H' hm f (B.D.kt f) { B with D := D', P := B.P.fr B.D f B.q0 B.q1 }⟩
theorem go_make {CG CT CS : Addr} {H : Hp} {dk s0 pp p0 p1 : Addr} {ys0 ys1 : List V} {pr0 : List (Str × Int)} {pr1 : List (Str × Int × Int)} {k : Int} {Kx : Addr → Hp → Prop} {E : XK} (B : Bs H dk s0 pp p0 p1 ys0 ys1 pr0 pr1 k) (q : ∀ g H' dt ds es ss, Same H H' → Gd CG CT CS H' g dt ds (adE es) (adS ss) pr0 pr1 es ss 0 → (∀ c ∈ rg g dt ds (adE es) (adS ss), H c = none) → Kx g H') :
    ∀ (g dx : Addr) (H1 : Hp), H g = none → H dx = none → Same H H1 → H1 g = some (HO.ins CG dx []) → H1 dx = some (HO.own g) → spGoodsI CG CT CS [V.ref g, V.ref pp] H1 (fun v H2 => v = V.non ∧ Kx g H2) E := by
  intro g dx H1 hg hdx s1 h1 h2
  have b0 := B.b0
  have b1 := B.b1
  obtain ⟨⟨x2, x3, t⟩, y0, y1, pn, pm⟩ := B.P.same s1
  refine ⟨g, dx, pp, p0, p1, x2, x3, ys0, ys1, pr0, pr1, rfl, h1, t, y0, pn, ⟨by have := b0.1; omega, b0.2.1⟩, y1, pm, ⟨by have := b1.1; omega, b1.2.1⟩, fun H5 dt ds es ss f5 G5 m0 m1 fr => ⟨rfl, ?_⟩⟩
  refine q g H5 dt ds es ss (fun c u hc => f5 _ _ (ne_of_none hc hg) (s1 _ _ hc)) ⟨G5, ⟨fun e he => ?_, fun e he => ?_⟩, ?_, ?_, rfl, rfl⟩ fun c hc => ?_
  · have : (e.name, e.c, e.t) ∈ pr0.map (fun p => (p.1, p.2, (⟨p.2, [], []⟩ : TS))) := by rw [← m0]; exact List.mem_map_of_mem (f := fun e : Ent => (e.name, e.c, e.t)) he
    obtain ⟨p, hp, z⟩ := List.mem_map.mp this
    have zt : e.t = ⟨p.2, [], []⟩ := (congrArg (fun x => x.2.2) z).symm
    rw [zt]
    exact ⟨⟨fun p hp => absurd hp List.not_mem_nil, fun p hp => absurd hp List.not_mem_nil⟩, Nat.le_refl _⟩
  · have : (e.name, e.s) ∈ pr1.map (fun p => (p.1, (⟨p.2.1, p.2.2, [], []⟩ : SS))) := by rw [← m1]; exact List.mem_map_of_mem (f := fun e : EntS => (e.name, e.s)) he
    obtain ⟨p, hp, z⟩ := List.mem_map.mp this
    have zt : e.s = ⟨p.2.1, p.2.2, [], []⟩ := (congrArg (fun x => x.2) z).symm
    rw [zt]
    exact ⟨Nat.le_refl _, Nat.le_refl _⟩
  · have := congrArg (List.map (fun x : Str × Int × TS => (x.1, x.2.1))) m0
    rw [List.map_map, List.map_map] at this
    refine this.trans ?_
    show pr0.map (fun p => (p.1, p.2)) = pr0
    simp
  · have := congrArg (List.map (fun x : Str × SS => (x.1, x.2.most))) m1
    rw [List.map_map, List.map_map] at this
    exact this
  · unfold rg at hc
    rcases List.mem_cons.mp hc with rfl | hc
    · exact hg
    · exact s1.free (fr c hc)
theorem Gd.mono {CG CT CS : Addr} {H : Hp} {g dt ds : Addr} {AE AS : List Addr} {pr0 : List (Str × Int)} {pr1 : List (Str × Int × Int)} {es : List Ent} {ss : List EntS} {k k' : Nat} (X : Gd CG CT CS H g dt ds AE AS pr0 pr1 es ss k) (h : k ≤ k') : Gd CG CT CS H g dt ds AE AS pr0 pr1 es ss k' := { X with ok := X.ok.mono h }
/-- deeds at one of the goods, and nothing else -/
def DeI (CG CT CS : Addr) (a g1 g2 : Addr) (x6 x7 x8 x9 x10 : Option V) (dk s0 pp p0 p1 g dt ds : Addr) (AE AS : List Addr) (ys0 ys1 : List V) (pr0 : List (Str × Int)) (pr1 : List (Str × Int × Int)) (k : Int) (m : Nat) (H : Hp) (i : Nat) (σ : St) (H' : Hp) : Prop := ∃ (es : List Ent) (ss : List EntS) (v : Option V), σ = [some (.ref a), some (.ref dk), some (.ref pp), some (.ref g1), some (.ref g2), v, x6, x7, x8, x9, x10] ∧ FrG (dk :: (AE ++ AS)) H H' ∧ Kt H H' ∧ Bs H' dk s0 pp p0 p1 ys0 ys1 pr0 pr1 (k + 10 * i) ∧ Gd CG CT CS H' g dt ds AE AS pr0 pr1 es ss (m + i)
theorem off1 {dk s0 p0 p1 g dt ds : Addr} {AE AS : List Addr} {cs : List Addr} (n1 : ∀ c ∈ bsR dk s0 p0 p1, c ∉ cs) (n2 : ∀ c ∈ rg g dt ds AE AS, c ∉ cs) : ∀ c ∈ cs, c ∉ dk :: (AE ++ AS) := fun c hc z => by
  rcases List.mem_cons.mp z with rfl | z
  · exact n1 c (by simp [bsR]) hc
  · exact n2 c (by unfold rg; exact List.mem_cons_of_mem _ (List.mem_cons_of_mem _ (List.mem_cons_of_mem _ z))) hc
theorem ne_same {K : PySem.W.Frag} {H : Hp} {x y : V} {d : PyData} {Kx : VK} (hx : Rp K H x d) (hy : Rp K H y d) (sh : SeqAt.shaped d = true) (k : Kx (.bl false) H) : rNeD K x y H Kx := by
  have h := sh
  unfold SeqAt.shaped at h
  rw [Bool.and_eq_true] at h
  refine ⟨d, d, hx, hy, sh, sh, ?_⟩
  rw [PySem.SeqAt.eqv_refl d h.1]
  exact k
theorem eq_same {K : PySem.W.Frag} {H : Hp} {x y : V} {d : PyData} {Kx : VK} (hx : Rp K H x d) (hy : Rp K H y d) (sh : SeqAt.shaped d = true) (k : Kx (.bl true) H) : rEqD K x y H Kx := by
  have h := sh
  unfold SeqAt.shaped at h
  rw [Bool.and_eq_true] at h
  refine ⟨d, d, hx, hy, sh, sh, ?_⟩
  rw [PySem.SeqAt.eqv_refl d h.1]
  exact k
theorem AlE.refl : ∀ es : List Ent, AlE es es
  | [] => .nil
  | _ :: es => .cons rfl (AlT.refl _) (AlE.refl es)
theorem st_same {ss rs : List EntS} (h : ss.map nmS2 = rs.map nmS2) : (ss.map (·.s)).map s3 = (rs.map (·.s)).map s3 := by
  have := congrArg (List.map fun p : Str × SS => s3 p.2) h
  rw [List.map_map, List.map_map] at this
  rw [List.map_map, List.map_map]
  exact this
theorem dj2 {H : Hp} {A R R' : List Addr} (d : ∀ c ∈ A, c ∉ R) (h : ∀ c ∈ A, ∃ u, H c = some u) (n : ∀ c ∈ R', c ∈ R ∨ H c = none) : (∀ c ∈ A, c ∉ R') ∧ ∀ c ∈ R', c ∉ A := by
  have k : ∀ c ∈ A, c ∉ R' := fun c hc z => by
    rcases n c z with z | z
    · exact d c hc z
    · obtain ⟨u, hu⟩ := h c hc; rw [z] at hu; cases hu
  exact ⟨k, fun c hc z => k c z hc⟩
theorem go_stand {CG CT CS : Addr} {H : Hp} {g dt ds o et er a1 a2 : Addr} {AE AS BE BS C1 C2 : List Addr} {pr0 : List (Str × Int)} {pr1 : List (Str × Int × Int)} {es fs : List Ent} {ss rs : List EntS} {k k' : Nat} {vt vl : List V} {l : List X3} {Kx : VK} {E : XK} (X : Gd CG CT CS H g dt ds AE AS pr0 pr1 es ss k) (Y : Gd CG CT CS H o et er BE BS pr0 pr1 fs rs k') (b0 : Pr0 pr0) (b1 : Pr1 pr1) (hk : k ≤ 200) (ha : H a1 = some (.lst vt)) (t1 : T3 H C1 vt l) (tx : TX l (es.map (·.t))) (hb : H a2 = some (.lst vl)) (t2 : T3 H C2 vl ((ss.map (·.s)).map s3))
    (q : ∀ H' fs' rs', FrG (rg o et er BE BS) H H' → Kt H H' → Gd CG CT CS H' o et er (adE fs') (adS rs') pr0 pr1 fs' rs' k → AlE es fs' → ss.map nmS2 = rs'.map nmS2 → (∀ c ∈ rg o et er (adE fs') (adS rs'), c ∈ rg o et er BE BS ∨ H c = none) → Kx .non H') : spStand CG CT CS [.ref o, .ref a1, .ref a2] H Kx E := by
  have x0 := X.le0 b0
  have x1 := X.le1 b1
  have y0 := Y.le0 b0
  have y1 := Y.le1 b1
  have e0 : es.map (fun e => (e.name, e.c)) = fs.map (fun e => (e.name, e.c)) := X.n0.trans Y.n0.symm
  have e1 : ss.map (fun e => (e.name, e.s.most)) = rs.map (fun e => (e.name, e.s.most)) := X.n1.trans Y.n1.symm
  have ll : l.length = es.length := by
    have h : ∀ {l : List X3} {ts : List TS}, TX l ts → l.length = ts.length := fun {l ts} z => by
      induction z with
      | nil => rfl
      | cons _ _ _ _ ih => rw [List.length_cons, List.length_cons, ih]
    rw [h tx, List.length_map]
  have f0 := congrArg List.length e0
  have f1 := congrArg List.length e1
  rw [List.length_map, List.length_map] at f0 f1
  refine ⟨o, et, er, a1, a2, fs, rs, vt, vl, l.map tX, ((ss.map (·.s)).map s3).map sX, rfl, Y.G, ha, TX.td t1 tx X.tg, by rw [List.length_map]; omega, by omega, hb, t2.sd (fun x hx => ?_), by rw [List.length_map, List.length_map, List.length_map]; omega, by omega, fun H' fs' rs' f G' m0 m1 n => ?_⟩
  · rw [List.map_map] at hx
    obtain ⟨e, he, rfl⟩ := List.mem_map.mp hx
    have := X.ok.st e he
    exact ⟨Nat.le_trans this.1 hk, Nat.le_trans this.2 hk⟩
  · have z0 := zipE (k := k) tx e0 m0 X.ok.tk X.nd
    have z1 := zipS (k := k) e1 m1 X.ok.st
    have sub : ∀ c ∈ fs.map (·.a) ++ rs.map (·.a), c ∈ BE ++ BS := fun c hc => by
      rw [← Y.aE, ← Y.aS]
      rcases List.mem_append.mp hc with hc | hc
      · obtain ⟨e, he, rfl⟩ := List.mem_map.mp hc
        exact List.mem_append_left _ (in_adE he).1
      · obtain ⟨e, he, rfl⟩ := List.mem_map.mp hc
        exact List.mem_append_right _ (in_adS he).1
    have f' : FrG (BE ++ BS) H H' := f.up sub
    refine q H' fs' rs' (f'.up fun c hc => ?_) (Y.kt f') ⟨G', ⟨z0.2.2, z1.2.2⟩, z0.2.1.trans Y.n0, z1.2.1.trans Y.n1, rfl, rfl⟩ z0.1 z1.1 fun c hc => ?_
    · unfold rg
      exact List.mem_cons_of_mem _ (List.mem_cons_of_mem _ (List.mem_cons_of_mem _ hc))
    · unfold rg at hc ⊢
      rcases List.mem_cons.mp hc with rfl | hc
      · exact .inl List.mem_cons_self
      rcases List.mem_cons.mp hc with rfl | hc
      · exact .inl (List.mem_cons_of_mem _ List.mem_cons_self)
      rcases List.mem_cons.mp hc with rfl | hc
      · exact .inl (List.mem_cons_of_mem _ (List.mem_cons_of_mem _ List.mem_cons_self))
      · rcases n c hc with z | z
        · exact .inl (List.mem_cons_of_mem _ (List.mem_cons_of_mem _ (List.mem_cons_of_mem _ (sub c z))))
        · exact .inr z
theorem TX.length {l : List X3} {ts : List TS} (t : TX l ts) : l.length = ts.length := by
  induction t with
  | nil => rfl
  | cons _ _ _ _ ih => rw [List.length_cons, List.length_cons, ih]
theorem TX.lens {l : List X3} {ts : List TS} (t : TX l ts) (n : ∀ t ∈ ts, TG t) : ∀ x ∈ l, x.2.1.length ≤ 200 ∧ x.2.2.length ≤ 200 := by
  induction t with
  | nil => exact fun x hx => absurd hx List.not_mem_nil
  | cons a b c _ ih =>
    intro x hx
    have g := n _ List.mem_cons_self
    rcases List.mem_cons.mp hx with rfl | hx
    · exact ⟨Nat.le_trans (b.len g) (by decide), by rw [c]; exact g.ql⟩
    · exact ih (fun t ht => n t (List.mem_cons_of_mem _ ht)) x hx
theorem off2 {dk s0 p0 p1 g dt ds o et er : Addr} {AE AS BE BS : List Addr} {cs : List Addr} (n1 : ∀ c ∈ bsR dk s0 p0 p1, c ∉ cs) (n2 : ∀ c ∈ rg g dt ds AE AS, c ∉ cs) (n3 : ∀ c ∈ rg o et er BE BS, c ∉ cs) : ∀ c ∈ cs, c ∉ dk :: ((AE ++ AS) ++ (BE ++ BS)) := fun c hc z => by
  rcases List.mem_cons.mp z with rfl | z
  · exact n1 c (by simp [bsR]) hc
  rcases List.mem_append.mp z with z | z
  · exact n2 c (by unfold rg; exact List.mem_cons_of_mem _ (List.mem_cons_of_mem _ (List.mem_cons_of_mem _ z))) hc
  · exact n3 c (by unfold rg; exact List.mem_cons_of_mem _ (List.mem_cons_of_mem _ (List.mem_cons_of_mem _ z))) hc
theorem offd {dk s0 p0 p1 : Addr} {cs : List Addr} (n1 : ∀ c ∈ bsR dk s0 p0 p1, c ∉ cs) : ∀ c ∈ cs, c ∉ [dk] := fun c hc z => n1 dk (by simp [bsR]) (by rw [← List.mem_singleton.mp z]; exact hc)
theorem rg_sub {g dt ds : Addr} {AE AS cs : List Addr} (n : ∀ c ∈ cs, c ∉ rg g dt ds AE AS) : ∀ c ∈ cs, c ∉ AE ++ AS := fun c hc z => n c hc (by unfold rg; exact List.mem_cons_of_mem _ (List.mem_cons_of_mem _ (List.mem_cons_of_mem _ z)))
theorem m_rng {m n : Int} (h0 : 0 < n) (h1 : n ≤ 50) : -2 ^ 62 ≤ m % n ∧ m % n < 2 ^ 62 := by
  have := Int.emod_nonneg m (show n ≠ 0 by omega)
  have := Int.emod_lt_of_pos m h0
  constructor <;> omega
theorem m_lt {m n : Int} {b i : Nat} (h0 : 0 < n) (h1 : n ≤ (b : Int) + 1) (hi : i < (m % n).toNat) : i ≤ b := by
  have := Int.emod_nonneg m (show n ≠ 0 by omega)
  have := Int.emod_lt_of_pos m h0
  omega
theorem m_le {m n : Int} {a b : Nat} (h0 : 0 < n) (h1 : n ≤ (b : Int) + 1) : a + (m % n).toNat ≤ a + b := by
  have := Int.emod_nonneg m (show n ≠ 0 by omega)
  have := Int.emod_lt_of_pos m h0
  omega
theorem m_ki {m n k k' : Int} {b : Nat} (h0 : 0 < n) (h1 : n ≤ (b : Int) + 1) (h : k + 10 * (b : Int) ≤ k') : k + 10 * (((m % n).toNat : Nat) : Int) ≤ k' := by
  have := Int.emod_nonneg m (show n ≠ 0 by omega)
  have := Int.emod_lt_of_pos m h0
  omega
theorem k_le {k : Int} {i b : Nat} (hi : i ≤ b) (hk : k + 10 * (b : Int) ≤ 10000) : k + 10 * (i : Int) ≤ 10000 := by omega
theorem k_st {k : Int} {i : Nat} : k + 10 * (i : Int) + 10 ≤ k + 10 * ((i + 1 : Nat) : Int) := by omega
theorem n_le {a i b : Nat} (hi : i ≤ b) (h : a + b ≤ 110) : a + i ≤ 110 := by omega
def LkI (CG CT CS : Addr) (a g1 g2 : Addr) (x6 x7 x8 : Option V) (dk s0 pp p0 p1 dt ds et er : Addr) (AE AS BE BS : List Addr) (ys0 ys1 : List V) (pr0 : List (Str × Int)) (pr1 : List (Str × Int × Int)) (k : Int) (m : Nat) (H : Hp) (i : Nat) (σ : St) (H' : Hp) : Prop := ∃ (es fs : List Ent) (ss rs : List EntS) (v v9 : Option V), σ = [some (.ref a), some (.ref dk), some (.ref pp), some (.ref g1), some (.ref g2), v, x6, x7, x8, v9, none] ∧ FrG (dk :: ((AE ++ AS) ++ (BE ++ BS))) H H' ∧ Kt H H' ∧ Bs H' dk s0 pp p0 p1 ys0 ys1 pr0 pr1 (k + 10 * i) ∧ Gd CG CT CS H' g1 dt ds AE AS pr0 pr1 es ss (m + i) ∧ Gd CG CT CS H' g2 et er BE BS pr0 pr1 fs rs (m + i) ∧ AlE es fs ∧ ss.map nmS2 = rs.map nmS2
end
end K23

set_option Elab.async false
set_option linter.all false
set_option maxRecDepth 100000
set_option maxHeartbeats 4000000
namespace K23
open PySem L2
section
variable {P : Program} {w : World} {K : PySem.W.Frag} {mg : Str → Option Value} {base : Heap}
theorem ok_law {CG CT CS : Addr} {fa : Addr} {fd : FuncData} (F : Fun K "law" "law" s_law fa fd) (G__law_next : OkD P w K mg base 1 "_law_next" ["deck"] spNx) (G__law_program : OkD P w K mg base 2 "_law_program" ["deck"] spPrg) (G_Goods : OkC P w K mg base 4 "Goods" CG ["self", "program"] (spGoodsI CG CT CS)) (G__law_deed : OkD P w K mg base 2 "_law_deed" ["deck", "program"] spDeed) (G__law_asked : OkD P w K mg base 5 "_law_asked" ["goods", "deed"] (spAsk K CG CT CS)) (G_Goods_tools : OkM P w K mg base 2 CG "tools" ["self"] (spTools CG CT)) (G_Goods_stores : OkM P w K mg base 2 CG "stores" ["self"] (spStores CG CS)) (G_Goods_stand : OkM P w K mg base 1 CG "stand" ["self", "tools", "stores"] (spStand CG CT CS)) (G__law_emptied : OkD P w K mg base 1 "_law_emptied" ["some"] spEmp) (hrange : mg "range" = none) : FnOk P w K mg base CX0 8 fa fd ["script"] (spLaw K) := by
  refine F.ok sc_law (fun vs H Q E h => ?_) (fun cdv A outer s H vs Q E hr h => ?_)
  · obtain ⟨a, ns, rfl, _⟩ := h; rfl
  obtain ⟨a, ns, rfl, hS, h63, q⟩ := h
  have hu := hu_of hr
  have hu64 := hr.units
  have big : 100000 ≤ sizeLine := by unfold sizeLine; decide
  refine ⟨_, (pss_cons (ps_set (i := 1) sc_law.nd rfl (Or.inl rfl) (pe_lstG (pa_c (pe_slice sl_k (pv 0) po_none (po_some pe_int)) (pa_c pe_int pa_nil))))
  (pss_cons (ps_set (i := 2) sc_law.nd rfl (Or.inl rfl) (pe_def G__law_program hr rfl (pa_c (pv 1) pa_nil)))
  (pss_cons (ps_set (i := 3) sc_law.nd rfl (Or.inl rfl) (pe_makeG G_Goods hr rfl (pa_c (pv 2) pa_nil)))
  (pss_cons (ps_set (i := 4) sc_law.nd rfl (Or.inl rfl) (pe_makeG G_Goods hr rfl (pa_c (pv 2) pa_nil)))
  (pss_cons (ps_for PassesOwn.never rfl (pi_range1 rfl hrange (pa_c (pe_op op_mod (pe_def G__law_next hr rfl (pa_c (pv 1) pa_nil)) pe_int) pa_nil)) (pg_name (i := 5) sc_law.nd rfl (Or.inl rfl))
  (pss_one (ps_expr (pe_def G__law_asked hr rfl (pa_c (pv 3) (pa_c (pe_def G__law_deed hr rfl (pa_c (pv 1) (pa_c (pv 2) pa_nil))) pa_nil))))))
  (pss_cons (ps_for PassesOwn.never rfl (pi_range1 rfl hrange (pa_c (pe_op op_mod (pe_def G__law_next hr rfl (pa_c (pv 1) pa_nil)) pe_int) pa_nil)) (pg_name (i := 5) sc_law.nd rfl (Or.inl rfl))
  (pss_one (ps_expr (pe_def G__law_asked hr rfl (pa_c (pv 4) (pa_c (pe_def G__law_deed hr rfl (pa_c (pv 1) (pa_c (pv 2) pa_nil))) pa_nil))))))
  (pss_cons (ps_set (i := 6) sc_law.nd rfl (Or.inl rfl) (pe_lstG (pa_c (pe_meth0G G_Goods_tools hr (pv 3)) (pa_c (pe_meth0G G_Goods_stores hr (pv 3)) pa_nil))))
  (pss_cons (ps_set (i := 7) sc_law.nd rfl (Or.inl rfl) (pe_makeG G_Goods hr rfl (pa_c (pv 2) pa_nil)))
  (pss_cons (ps_set (i := 8) sc_law.nd rfl (Or.inl rfl) (pe_lstG (pa_c (pe_meth0G G_Goods_tools hr (pv 3)) (pa_c (pe_meth0G G_Goods_stores hr (pv 3)) pa_nil))))
  (pss_cons (ps_expr (pe_methG G_Goods_stand hr (pv 4) (pa_c (pe_ix ix_g (pv 6) pe_int (fun _ _ => rfl)) (pa_c (pe_ix ix_g (pv 6) pe_int (fun _ _ => rfl)) pa_nil))))
  (pss_cons (ps_expr (pe_methG G_Goods_stand hr (pv 7) (pa_c (pe_ix ix_g (pv 6) pe_int (fun _ _ => rfl)) (pa_c (pe_ix ix_g (pv 6) pe_int (fun _ _ => rfl)) pa_nil))))
  (pss_cons (ps_if (PW.pt (pw_or (pt_cmpR (op_neD hu64) (pv 6) (pv 8) (nomark _)) (pw_or1 (pt_cmpR (op_neD hu64) (pe_lstG (pa_c (pe_meth0G G_Goods_tools hr (pv 7)) (pa_c (pe_meth0G G_Goods_stores hr (pv 7)) pa_nil))) (pv 8) (nomark _)))))
  (pss_one (ps_ret pe_bl))
  pss_nil)
  (pss_cons (ps_expr (pe_def G__law_emptied hr rfl (pa_c (pe_ix ix_g (pv 6) pe_int (fun _ _ => rfl)) pa_nil)))
  (pss_cons (ps_expr (pe_def G__law_emptied hr rfl (pa_c (pe_ix ix_g (pv 6) pe_int (fun _ _ => rfl)) pa_nil)))
  (pss_cons (ps_for PassesOwn.never rfl (pi_range1 rfl hrange (pa_c (pe_op op_mod (pe_def G__law_next hr rfl (pa_c (pv 1) pa_nil)) pe_int) pa_nil)) (pg_name (i := 5) sc_law.nd rfl (Or.inl rfl))
  (pss_cons (ps_if (pt_cmpR (op_neD hu64) (pe_lstG (pa_c (pe_meth0G G_Goods_tools hr (pv 3)) (pa_c (pe_meth0G G_Goods_stores hr (pv 3)) pa_nil))) (pe_lstG (pa_c (pe_meth0G G_Goods_tools hr (pv 4)) (pa_c (pe_meth0G G_Goods_stores hr (pv 4)) pa_nil))) (nomark _))
  (pss_one (ps_ret pe_bl))
  pss_nil)
  (pss_cons (ps_set (i := 9) sc_law.nd rfl (Or.inl rfl) (pe_def G__law_deed hr rfl (pa_c (pv 1) (pa_c (pv 2) pa_nil))))
  (pss_one (ps_if (pt_cmpR (op_neD hu64) (pe_def G__law_asked hr rfl (pa_c (pv 3) (pa_c (pv 9) pa_nil))) (pe_def G__law_asked hr rfl (pa_c (pv 4) (pa_c (pv 9) pa_nil))) (nomark _))
  (pss_one (ps_ret pe_bl))
  pss_nil)))))
  (pss_cons (ps_set (i := 10) sc_law.nd rfl (Or.inl rfl) (pe_lstG (pa_c (pe_meth0G G_Goods_tools hr (pv 4)) (pa_c (pe_meth0G G_Goods_stores hr (pv 4)) pa_nil))))
  (pss_cons (ps_if (PW.pt (pw_or (pt_cmpR (op_neD hu64) (pe_lstG (pa_c (pe_meth0G G_Goods_tools hr (pv 3)) (pa_c (pe_meth0G G_Goods_stores hr (pv 3)) pa_nil))) (pv 10) (nomark _)) (pw_or1 (pt_cmpR (op_neD hu64) (pe_lstG (pa_c (pe_meth0G G_Goods_tools hr (pv 7)) (pa_c (pe_meth0G G_Goods_stores hr (pv 7)) pa_nil))) (pv 8) (nomark _)))))
  (pss_one (ps_ret pe_bl))
  pss_nil)
  (pss_cons (ps_for PassesOwn.never rfl (pi_range1 rfl hrange (pa_c (pe_op op_mod (pe_def G__law_next hr rfl (pa_c (pv 1) pa_nil)) pe_int) pa_nil)) (pg_name (i := 5) sc_law.nd rfl (Or.inl rfl))
  (pss_one (ps_expr (pe_def G__law_asked hr rfl (pa_c (pv 3) (pa_c (pe_def G__law_deed hr rfl (pa_c (pv 1) (pa_c (pv 2) pa_nil))) pa_nil))))))
  (pss_one (ps_ret (pe_cmpR (op_eqD hu64) (pe_lstG (pa_c (pe_meth0G G_Goods_tools hr (pv 4)) (pa_c (pe_meth0G G_Goods_stores hr (pv 4)) pa_nil))) (pv 10) (nomark _)))))))))))))))))))))), ?_⟩
  walk_at "r2"
  refine ⟨a, _, rfl, hS, fun s0 H1 hs0 g1 h1 => ?_⟩
  walk_at "r2"
  intro dk H2 hdk g2 h2
  walk_at "r2"
  have ec : cutV (ns.map V.int) none (some 63) = ns.map V.int := by
    unfold cutV HT.sIx
    simp only [List.length_map]
    rw [show min (Int.toNat 63) ns.length = ns.length by omega]
    simp
    exact List.take_of_length_le (by rw [List.length_map]; exact Nat.le_refl _)
  rw [ec] at h1
  have D2 : Dk H2 dk s0 0 := ⟨ns, 0, h2, g2 _ _ h1, ⟨by decide, by decide⟩, h63⟩
  refine ⟨dk, s0, 0, rfl, D2, by decide, fun H3 pp p0 p1 ys0 ys1 pr0 pr1 f3 D3 P3 b0 b1 hp0 hp1 => ?_⟩
  have B3 : Bs H3 dk s0 pp p0 p1 ys0 ys1 pr0 pr1 100 := ⟨D3, P3, b0, b1, D2.off hp0, D2.off hp1⟩
  clear h1 h2 D3 P3
  walk_at "r2"
  refine go_make B3 fun g H4 dt ds es ss s4 X4 n4 => ?_
  have B4 := B3.same s4
  walk_at "r2"
  refine go_make B4 fun o H5 et er fs rs s5 Y5 n5 => ?_
  have B5 := B4.same s5
  have X5 := X4.same s5
  have dX := dj B3.has n4
  have dY := dj B4.has n5
  have dXY := dj X4.has n5
  clear B3 B4 X4 n4 n5
  walk_at "r2"
  refine tfor_in ?_
  simp only [iRng1]
  walk_at "r2"
  refine go_next B5 (by decide) fun m1 H6 hm1 f6 k6 B6 => ?_
  have oX : ∀ c ∈ rg g dt ds (adE es) (adS ss), c ∉ [dk] := fun c hc z => dX.1 dk (by simp [bsR]) (by rw [← List.mem_singleton.mp z]; exact hc)
  have oY : ∀ c ∈ rg o et er (adE fs) (adS rs), c ∉ [dk] := fun c hc z => dY.1 dk (by simp [bsR]) (by rw [← List.mem_singleton.mp z]; exact hc)
  have X6 := X5.fr f6 k6 oX
  have Y6 := Y5.fr f6 k6 oY
  clear X5 Y5 B5
  walk_at "r2"
  refine ⟨(m_rng (by decide) (by decide)).1, (m_rng (by decide) (by decide)).2, for_range (DeI CG CT CS a g o none none none none none dk s0 pp p0 p1 g dt ds (adE es) (adS ss) ys0 ys1 pr0 pr1 101 0 H6) ?_ ?_ ?_⟩
  · unfold DeI
    exact ⟨es, ss, none, rfl, FrG.refl, Kt.refl, B6.mono (by decide), X6⟩
  · intro i σ H7 hi z
    unfold DeI at z
    obtain ⟨es7, ss7, v7, rfl, f7, k7, B7, X7⟩ := z
    walk_at "r2"
    refine go_deed B7 (k_le (m_lt (b := 49) (by decide) (by decide) hi) (by decide)) X7 (n_le (m_lt (b := 49) (by decide) (by decide) hi) (by decide)) dX.1 fun H8 es8 ss8 f8 k8 B8 X8 => ?_
    unfold DeI
    exact ⟨es8, ss8, _, rfl, f7.trans f8, k7.trans k8, B8.mono k_st, X8⟩
  intro σ H7 z
  unfold DeI at z
  obtain ⟨es7, ss7, v7, rfl, f7, k7, B7, X7⟩ := z
  have X7 := X7.mono (k' := 49) (m_le (b := 49) (by decide) (by decide))
  have B7 := B7.mono (k' := 600) (m_ki (b := 49) (by decide) (by decide) (by decide))
  have Y7 := Y6.fr f7 k7 (off1 dY.1 dXY.1)
  clear B6 X6 Y6
  walk_at "r2"
  refine tfor_in ?_
  simp only [iRng1]
  walk_at "r2"
  refine go_next B7 (by decide) fun m2 H8 hm2 f8 k8 B8 => ?_
  have X8 := X7.fr f8 k8 oX
  have Y8 := Y7.fr f8 k8 oY
  clear X7 Y7 B7
  walk_at "r2"
  refine ⟨(m_rng (by decide) (by decide)).1, (m_rng (by decide) (by decide)).2, for_range (DeI CG CT CS a g o none none none none none dk s0 pp p0 p1 o et er (adE fs) (adS rs) ys0 ys1 pr0 pr1 601 0 H8) ?_ ?_ ?_⟩
  · unfold DeI
    exact ⟨fs, rs, _, rfl, FrG.refl, Kt.refl, B8.mono (by decide), Y8⟩
  · intro i σ H9 hi z
    unfold DeI at z
    obtain ⟨es9, ss9, v9, rfl, f9, k9, B9, X9⟩ := z
    walk_at "r2"
    refine go_deed B9 (k_le (m_lt (b := 5) (by decide) (by decide) hi) (by decide)) X9 (n_le (m_lt (b := 5) (by decide) (by decide) hi) (by decide)) dY.1 fun H10 es8 ss8 f10 k10 B10 X10 => ?_
    unfold DeI
    exact ⟨es8, ss8, _, rfl, f9.trans f10, k9.trans k10, B10.mono k_st, X10⟩
  intro σ H9 z
  unfold DeI at z
  obtain ⟨fs9, rs9, v9, rfl, f9, k9, B9, Y9⟩ := z
  have Y9 := Y9.mono (k' := 5) (m_le (b := 5) (by decide) (by decide))
  have B9 := B9.mono (k' := 660) (m_ki (b := 5) (by decide) (by decide) (by decide))
  have X9 := X8.fr f9 k9 (off1 dX.1 dXY.2)
  clear B8 X8 Y8
  obtain ⟨⟨x9, hg9⟩, _⟩ := id X9.G
  walk_at "r2"
  refine go_tools X9 b0 fun a1 H10 vt C1 l ha1 s10 va1 t1 tx n1 => ?_
  have hg10 := s10 _ _ hg9
  clear hg9
  walk_at "r2"
  refine go_stores (X9.same s10) b1 fun a2 H11 vl C2 ha2 s11 va2 t2 n2 => ?_
  clear hg10
  intro r1 H12 hr1 s12 vr1
  obtain ⟨TH, nH, aC1, aC2, dH⟩ := tl2_of ha1 s10 va1 t1 n1 ha2 s11 va2 t2 n2 hr1 s12 vr1
  have S12 := (s10.trans s11).trans s12
  have B12 := B9.same S12
  have X12 := X9.same S12
  have Y12 := Y9.same S12
  have dHB := dj B9.has nH
  have dHX := dj X9.has nH
  have dHY := dj Y9.has nH
  clear B9 X9 Y9 s10 s11 s12 va1 va2 vr1 ha1 ha2 hr1 n1 n2 t1 t2
  walk_at "r2"
  refine go_make B12 fun e H13 ht hs' gs qs s13 Z13 n13 => ?_
  have B13 := B12.same s13
  have X13 := X12.same s13
  have Y13 := Y12.same s13
  have TH13 := TH.same s13
  have dBZ := dj B12.has n13
  have dXZ := dj X12.has n13
  have dYZ := dj Y12.has n13
  have dHZ := dj TH.has n13
  clear B12 X12 Y12 TH n13
  obtain ⟨⟨x13, hg13⟩, _⟩ := id X13.G
  walk_at "r2"
  refine go_tools X13 b0 fun a3 H14 vt3 C3 l3 ha3 s14 va3 t3 tx3 n3 => ?_
  have hg14 := s14 _ _ hg13
  clear hg13
  walk_at "r2"
  refine go_stores (X13.same s14) b1 fun a4 H15 vl4 C4 ha4 s15 va4 t4 n4 => ?_
  clear hg14
  intro r2 H16 hr2 s16 vr2
  obtain ⟨TL, nL, -, -, -⟩ := tl2_of ha3 s14 va3 t3 n3 ha4 s15 va4 t4 n4 hr2 s16 vr2
  have S16 := (s14.trans s15).trans s16
  have B16 := B13.same S16
  have X16 := X13.same S16
  have Y16 := Y13.same S16
  have Z16 := Z13.same S16
  have TH16 := TH13.same S16
  have dLB := dj B13.has nL
  have dLX := dj X13.has nL
  have dLY := dj Y13.has nL
  have dLZ := dj Z13.has nL
  have dLH := dj TH13.has nL
  clear B13 X13 Y13 Z13 TH13 s14 s15 s16 va3 va4 vr2 ha3 ha4 hr2 n3 n4 t3 t4
  obtain ⟨⟨x16, hg16⟩, _⟩ := id Y16.G
  have hr16 := TH16.hr
  walk_at "r2"
  refine go_stand X16 Y16 b0 b1 (by decide) TH16.ha TH16.ta tx TH16.hb TH16.tb fun H17 fs' rs' f17 k17 Y17 al st n17 => ?_
  have B17 := B16.fr f17 k17 dY.1
  have X17 := X16.fr f17 k17 dXY.1
  have Z17 := Z16.fr f17 k17 dYZ.2
  have TH17 := TH16.fr f17 k17 dHY.2
  have TL17 := TL.fr f17 k17 dLY.2
  have eBY := (dj2 dY.1 B16.has n17)
  have eXY := (dj2 dXY.1 X16.has n17)
  have eZY := (dj2 dYZ.2 Z16.has n17)
  have eHY := (dj2 dHY.2 TH16.has n17)
  have eLY := (dj2 dLY.2 TL.has n17)
  clear B16 X16 Y16 Z16 TH16 TL n17 hg16 hr16
  obtain ⟨⟨x17, hg17⟩, _⟩ := id Z17.G
  have hr17 := TH17.hr
  walk_at "r2"
  refine go_stand X17 Z17 b0 b1 (by decide) TH17.ha TH17.ta tx TH17.hb TH17.tb fun H18 gs' qs' f18 k18 Z18 al3 st3 n18 => ?_
  have B18 := B17.fr f18 k18 dBZ.1
  have X18 := X17.fr f18 k18 dXZ.1
  have Y18 := Y17.fr f18 k18 eZY.2
  have TH18 := TH17.fr f18 k18 dHZ.1
  have TL18 := TL17.fr f18 k18 dLZ.2
  have eBZ := (dj2 dBZ.1 B17.has n18)
  have eXZ := (dj2 dXZ.1 X17.has n18)
  have eYZ := (dj2 eZY.2 Y17.has n18)
  have eHZ := (dj2 dHZ.1 TH17.has n18)
  have eLZ := (dj2 dLZ.2 TL17.has n18)
  clear B17 X17 Y17 Z17 TH17 TL17 n18 hg17 hr17
  obtain ⟨⟨x18, hg18⟩, _⟩ := id Z18.G
  have el : l = l3 := TX.same (AlE.refl _) tx tx3 X18.nd X18.nd
  subst el
  walk_at "r2"
  refine ne_same TH18.rp TL18.rp (sh_tl _ _) ⟨false, rfl, ?_⟩
  walk_at "r2"
  refine go_tools Z18 b0 fun a5 H19 vt5 C5 l5 ha5 s19 va5 t5 tx5 n5 => ?_
  have hg19 := s19 _ _ hg18
  clear hg18
  walk_at "r2"
  refine go_stores (Z18.same s19) b1 fun a6 H20 vl6 C6 ha6 s20 va6 t6 n6 => ?_
  clear hg19
  intro r3 H21 hr3 s21 vr3
  obtain ⟨TZ, -, -, -, -⟩ := tl2_of ha5 s19 va5 t5 n5 ha6 s20 va6 t6 n6 hr3 s21 vr3
  have S21 := (s19.trans s20).trans s21
  have e5 : l = l5 := TX.same al3 tx tx5 X18.nd Z18.nd
  subst e5
  rw [← st_same st3] at TZ
  walk_at "r2"
  refine ne_same TZ.rp (TL18.same S21).rp (sh_tl _ _) ⟨false, rfl, ?_⟩
  have B21 := B18.same S21
  have X21 := X18.same S21
  have Y21 := Y18.same S21
  have Z21 := Z18.same S21
  have TH21 := TH18.same S21
  have TL21 := TL18.same S21
  clear B18 X18 Y18 Z18 TH18 TL18 TZ s19 s20 s21 va5 va6 vr3 ha5 ha6 hr3 n5 n6 t5 t6 tx5
  have hr21 := TH21.hr
  walk_at "r2"
  have lt := tx.length
  rw [List.length_map] at lt
  have xl0 := X21.le0 b0
  have xl1 := X21.le1 b1
  have lensS : ∀ x ∈ (ss7.map (·.s)).map s3, x.2.1.length ≤ 200 ∧ x.2.2.length ≤ 200 := fun x hx => by
    rw [List.map_map] at hx
    obtain ⟨z, hz, rfl⟩ := List.mem_map.mp hx
    have := X21.ok.st z hz
    exact ⟨Nat.le_trans this.1 (by decide), Nat.le_trans this.2 (by decide)⟩
  have ndX := X21.nd
  refine ⟨a1, C1, vt, l, rfl, TH21.ha, TH21.ta, aC1, by omega, tx.lens X21.tg, fun H22 f22 k22 => ?_⟩
  have hr22 := f22 _ _ (dH r1 (by simp)) hr21
  have ha22 := f22 _ _ (dH a2 (by simp)) TH21.hb
  have ta22 := TH21.tb.fr f22 k22 fun c hc => dH c (by simp [hc])
  clear hr21
  walk_at "r2"
  refine ⟨a2, C2, vl, _, rfl, ha22, ta22, aC2, by rw [List.length_map, List.length_map]; omega, lensS, fun H23 f23 k23 => ?_⟩
  have F23 : FrG (tlR r1 a1 a2 C1 C2) H21 H23 := (f22.up fun c hc => by
    unfold tlR
    rcases List.mem_cons.mp hc with rfl | hc
    · simp
    · simp [hc]).trans (f23.up fun c hc => by
    unfold tlR
    rcases List.mem_cons.mp hc with rfl | hc
    · simp
    · simp [hc])
  have K23 := k22.trans k23
  have B23 := B21.fr F23 K23 dHB.1
  have X23 := X21.fr F23 K23 dHX.1
  have Y23 := Y21.fr F23 K23 eHY.2
  have Z23 := Z21.fr F23 K23 eHZ.2
  have TL23 := TL21.fr F23 K23 dLH.2
  clear B21 X21 Y21 Z21 TH21 TL21 f22 f23 k22 k23 F23 K23 hr22 ha22 ta22 lensS
  walk_at "r2"
  refine tfor_in ?_
  simp only [iRng1]
  walk_at "r2"
  refine go_next B23 (by decide) fun m3 H24 hm3 f24 k24 B24 => ?_
  have X24 := X23.fr f24 k24 oX
  have Y24 := Y23.fr f24 k24 (offd eBY.1)
  have Z24 := Z23.fr f24 k24 (offd eBZ.1)
  have TL24 := TL23.fr f24 k24 (offd dLB.1)
  clear B23 X23 Y23 Z23 TL23 f24 k24
  walk_at "r2"
  refine ⟨(m_rng (by decide) (by decide)).1, (m_rng (by decide) (by decide)).2, for_range (LkI CG CT CS a g o (some (.ref r1)) (some (.ref e)) (some (.ref r2)) dk s0 pp p0 p1 dt ds et er (adE es) (adS ss) (adE fs') (adS rs') ys0 ys1 pr0 pr1 661 49 H24) ?_ ?_ ?_⟩
  · unfold LkI
    exact ⟨es7, fs', ss7, rs', _, _, rfl, FrG.refl, Kt.refl, B24.mono (by decide), X24, Y24, al, st⟩
  · intro i σ H25 hi z
    unfold LkI at z
    obtain ⟨es5, fs5, ss5, rs5, v5, w5, rfl, f25, k25, B25, X25, Y25, al5, st5⟩ := z
    obtain ⟨⟨x25, hg25⟩, _⟩ := id X25.G
    obtain ⟨⟨y25, ho25⟩, _⟩ := id Y25.G
    walk_at "r2"
    refine go_tools X25 b0 fun a5 H26 vt5 C5 l5 ha5 s26 va5 t5 tx5 n5 => ?_
    have hg26 := s26 _ _ hg25
    clear hg25
    walk_at "r2"
    refine go_stores (X25.same s26) b1 fun a6 H27 vl6 C6 ha6 s27 va6 t6 n6 => ?_
    clear hg26
    intro r5 H28 hr5 s28 vr5
    obtain ⟨T5, -, -, -, -⟩ := tl2_of ha5 s26 va5 t5 n5 ha6 s27 va6 t6 n6 hr5 s28 vr5
    have S28 := (s26.trans s27).trans s28
    have ho28 := S28 _ _ ho25
    have Y28 := Y25.same S28
    clear ho25 s26 s27 s28 va5 va6 vr5 ha5 ha6 hr5 n5 n6 t5 t6
    walk_at "r2"
    refine go_tools Y28 b0 fun a7 H29 vt7 C7 l7 ha7 s29 va7 t7 tx7 n7 => ?_
    have ho29 := s29 _ _ ho28
    clear ho28
    walk_at "r2"
    refine go_stores (Y28.same s29) b1 fun a8 H30 vl8 C8 ha8 s30 va8 t8 n8 => ?_
    clear ho29
    intro r6 H31 hr6 s31 vr6
    obtain ⟨T6, -, -, -, -⟩ := tl2_of ha7 s29 va7 t7 n7 ha8 s30 va8 t8 n8 hr6 s31 vr6
    have S31 := (s29.trans s30).trans s31
    have e7 : l5 = l7 := TX.same al5 tx5 tx7 X25.nd Y25.nd
    subst e7
    rw [← st_same st5] at T6
    refine ne_same (T5.same S31).rp T6.rp (sh_tl _ _) ⟨false, rfl, ?_⟩
    have S := S28.trans S31
    have B31 := B25.same S
    have X31 := X25.same S
    have Y31 := Y25.same S
    clear B25 X25 Y25 Y28 T5 T6 S28 S31 s29 s30 s31 va7 va8 vr6 ha7 ha8 hr6 n7 n8 t7 t8 tx5 tx7
    walk_at "r2"
    refine go_drawn B31 (k_le (m_lt (b := 49) (by decide) (by decide) hi) (by decide)) fun H32 dp word nm h n f32 k32 B32 hd32 dd => ?_
    have X32 := X31.fr f32 k32 oX
    have Y32 := Y31.fr f32 k32 (offd eBY.1)
    clear B31 X31 Y31
    refine go_ask X32 b0 (n_le (m_lt (b := 49) (by decide) (by decide) hi) (by decide)) hd32 dd fun H33 v1 es6 ss6 d1 f33 k33 X33 rp1 D1 => ?_
    have Y33 := Y32.fr f33 k33 (rg_sub eXY.2)
    have B33 := B32.fr f33 k33 (rg_sub dX.1)
    refine go_ask Y33 b0 (n_le (m_lt (b := 49) (by decide) (by decide) hi) (by decide)) (k33 _ _ hd32) dd fun H34 v2 fs6 rs6 d2 f34 k34 Y34 rp2 D2 => ?_
    obtain ⟨e12, al6, st6⟩ := D1.alike D2 al5 st5 X32.G.2.2.2.2.2.2.1 X32.G.2.2.2.2.2.2.2
    subst e12
    have X34 := X33.fr f34 k34 (rg_sub eXY.1)
    have B34 := B33.fr f34 k34 (rg_sub eBY.1)
    have rp1' := rp1.mono (nwT_fr f34 k34 fun c hc => Y32.has c (by unfold rg; exact List.mem_cons_of_mem _ (List.mem_cons_of_mem _ (List.mem_cons_of_mem _ hc))))
    have sh1 := D1.sh fun e he => by
      have : e.name ∈ pr0.map (·.1) := by rw [← X32.nm0]; exact List.mem_map_of_mem he
      obtain ⟨p, hp, z⟩ := List.mem_map.mp this
      rw [← z]
      exact (b0.2.2 p hp).2.2
    refine ne_same rp1' (rp2.mono nwT_le) sh1 ⟨false, rfl, ?_⟩
    clear hd32
    walk_at "r2"
    unfold LkI
    refine ⟨es6, fs6, ss6, rs6, _, _, rfl, fun c u nc hc => ?_, ((k25.trans (Kt.of S)).trans k32).trans (k33.trans k34), B34.mono k_st, X34, Y34, al6, st6⟩
    have nc' := nc
    rw [List.mem_cons, List.mem_append, not_or, not_or] at nc'
    exact f34 c u nc'.2.2 (f33 c u nc'.2.1 (f32 c u (fun z => nc'.1 (List.mem_singleton.mp z)) (S _ _ (f25 c u nc hc))))
  intro σ H25 z
  unfold LkI at z
  obtain ⟨es5, fs5, ss5, rs5, v5, w5, rfl, f25, k25, B25, X25, Y25, al5, st5⟩ := z
  have X25 := X25.mono (k' := 98) (m_le (b := 49) (by decide) (by decide))
  have B25 := B25.mono (k' := 1200) (m_ki (b := 49) (by decide) (by decide) (by decide))
  have Z25 := Z24.fr f25 k25 (off2 eBZ.1 eXZ.1 eYZ.1)
  have TL25 := TL24.fr f25 k25 (off2 dLB.1 dLX.1 eLY.2)
  clear B24 X24 Y24 Z24 TL24 f25 k25
  obtain ⟨⟨y25, ho25⟩, _⟩ := id Y25.G
  obtain ⟨⟨x25, hg25⟩, _⟩ := id X25.G
  obtain ⟨⟨z25, he25⟩, _⟩ := id Z25.G
  walk_at "r2"
  refine go_tools Y25 b0 fun a5 H26 vt5 C5 l5 ha5 s26 va5 t5 tx5 n5 => ?_
  have ho26 := s26 _ _ ho25
  clear ho25
  walk_at "r2"
  refine go_stores (Y25.same s26) b1 fun a6 H27 vl6 C6 ha6 s27 va6 t6 n6 => ?_
  clear ho26
  intro r5 H28 hr5 s28 vr5
  obtain ⟨TT, nT, -, -, -⟩ := tl2_of ha5 s26 va5 t5 n5 ha6 s27 va6 t6 n6 hr5 s28 vr5
  have S28 := (s26.trans s27).trans s28
  have dTB := dj B25.has nT
  have dTX := dj X25.has nT
  have hg28 := S28 _ _ hg25
  have he28 := S28 _ _ he25
  have B28 := B25.same S28
  have X28 := X25.same S28
  have Y28 := Y25.same S28
  have Z28 := Z25.same S28
  have TL28 := TL25.same S28
  clear B25 X25 Y25 Z25 TL25 nT hg25 he25 s26 s27 s28 va5 va6 vr5 ha5 ha6 hr5 n5 n6 t5 t6
  walk_at "r2"
  refine go_tools X28 b0 fun a7 H29 vt7 C7 l7 ha7 s29 va7 t7 tx7 n7 => ?_
  have hg29 := s29 _ _ hg28
  clear hg28
  walk_at "r2"
  refine go_stores (X28.same s29) b1 fun a8 H30 vl8 C8 ha8 s30 va8 t8 n8 => ?_
  clear hg29
  intro r6 H31 hr6 s31 vr6
  obtain ⟨T6, -, -, -, -⟩ := tl2_of ha7 s29 va7 t7 n7 ha8 s30 va8 t8 n8 hr6 s31 vr6
  have S31 := (s29.trans s30).trans s31
  have e7 : l7 = l5 := TX.same al5 tx7 tx5 X28.nd Y28.nd
  subst e7
  rw [st_same st5] at T6
  walk_at "r2"
  refine ne_same T6.rp (TT.same S31).rp (sh_tl _ _) ⟨false, rfl, ?_⟩
  have B31 := B28.same S31
  have X31 := X28.same S31
  have Y31 := Y28.same S31
  have Z31 := Z28.same S31
  have TL31 := TL28.same S31
  have TT31 := TT.same S31
  have he31 := S31 _ _ he28
  clear B28 X28 Y28 Z28 TL28 TT T6 he28 s29 s30 s31 va7 va8 vr6 ha7 ha8 hr6 n7 n8 t7 t8 tx7
  walk_at "r2"
  refine go_tools Z31 b0 fun a7 H32 vt7 C7 l7' ha7 s32 va7 t7 tx7 n7 => ?_
  have he32 := s32 _ _ he31
  clear he31
  walk_at "r2"
  refine go_stores (Z31.same s32) b1 fun a8 H33 vl8 C8 ha8 s33 va8 t8 n8 => ?_
  clear he32
  intro r7 H34 hr7 s34 vr7
  obtain ⟨T7, -, -, -, -⟩ := tl2_of ha7 s32 va7 t7 n7 ha8 s33 va8 t8 n8 hr7 s34 vr7
  have S34 := (s32.trans s33).trans s34
  have e8 : l = l7' := TX.same al3 tx tx7 ndX Z31.nd
  subst e8
  rw [← st_same st3] at T7
  walk_at "r2"
  refine ne_same T7.rp (TL31.same S34).rp (sh_tl _ _) ⟨false, rfl, ?_⟩
  have B34 := B31.same S34
  have X34 := X31.same S34
  have Y34 := Y31.same S34
  have TT34 := TT31.same S34
  clear B31 X31 Y31 Z31 TL31 TT31 T7 s32 s33 s34 va7 va8 vr7 ha7 ha8 hr7 n7 n8 t7 t8 tx7
  walk_at "r2"
  refine tfor_in ?_
  simp only [iRng1]
  walk_at "r2"
  refine go_next B34 (by decide) fun m4 H35 hm4 f35 k35 B35 => ?_
  have X35 := X34.fr f35 k35 oX
  have Y35 := Y34.fr f35 k35 (offd eBY.1)
  have TT35 := TT34.fr f35 k35 (offd dTB.1)
  clear B34 X34 Y34 TT34 f35 k35
  walk_at "r2"
  refine ⟨(m_rng (by decide) (by decide)).1, (m_rng (by decide) (by decide)).2, for_range (DeI CG CT CS a g o (some (.ref r1)) (some (.ref e)) (some (.ref r2)) w5 (some (.ref r5)) dk s0 pp p0 p1 g dt ds (adE es) (adS ss) ys0 ys1 pr0 pr1 1201 98 H35) ?_ ?_ ?_⟩
  · unfold DeI
    exact ⟨es5, ss5, _, rfl, FrG.refl, Kt.refl, B35.mono (by decide), X35⟩
  · intro i σ H7 hi z
    unfold DeI at z
    obtain ⟨es7, ss7, v7, rfl, f7, k7, B7, X7⟩ := z
    walk_at "r2"
    refine go_deed B7 (k_le (m_lt (b := 8) (by decide) (by decide) hi) (by decide)) X7 (n_le (m_lt (b := 8) (by decide) (by decide) hi) (by decide)) dX.1 fun H8 es8 ss8 f8 k8 B8 X8 => ?_
    unfold DeI
    exact ⟨es8, ss8, _, rfl, f7.trans f8, k7.trans k8, B8.mono k_st, X8⟩
  intro σ H36 z
  unfold DeI at z
  obtain ⟨es9, ss9, v9', rfl, f36, k36, B36, X36⟩ := z
  have Y36 := Y35.fr f36 k36 (off1 eBY.1 eXY.1)
  have TT36 := TT35.fr f36 k36 (off1 dTB.1 dTX.1)
  clear B35 X35 Y35 TT35 f36 k36
  obtain ⟨⟨y36, ho36⟩, _⟩ := id Y36.G
  walk_at "r2"
  refine go_tools Y36 b0 fun a7 H37 vt7 C7 l7 ha7 s37 va7 t7 tx7 n7 => ?_
  have ho37 := s37 _ _ ho36
  clear ho36
  walk_at "r2"
  refine go_stores (Y36.same s37) b1 fun a8 H38 vl8 C8 ha8 s38 va8 t8 n8 => ?_
  clear ho37
  intro r8 H39 hr8 s39 vr8
  obtain ⟨T8, -, -, -, -⟩ := tl2_of ha7 s37 va7 t7 n7 ha8 s38 va8 t8 n8 hr8 s39 vr8
  have S39 := (s37.trans s38).trans s39
  have e9 := TX.same (AlE.refl _) tx7 tx5 Y36.nd Y36.nd
  subst e9
  walk_at "r2"
  refine eq_same T8.rp (TT36.same S39).rp (sh_tl _ _) ?_
  exact q _
end
end K23

set_option Elab.async false
set_option linter.all false
set_option maxRecDepth 100000
set_option maxHeartbeats 4000000
namespace K23
open PySem L2
theorem all_mk {l : PySem.W.OpenLaw} {w : World} {K : PySem.W.Frag} {h : Heap} {mg : Str → Option Value} {fa : Addr} (X : K.In h) (G : h.Ns mainGlobals mg) (hfa : mg "law" = some (.ref fa))
    {f1 : Addr} {od1 an1 : Option Addr} {sl1 : Array (Option Value)} {oc1 kV1 dc1 pm1 cd1 ct1 : Value} (a1 : PySem.W.nsIn K mainGlobals "tools_of" = some (some (.ref f1))) (l1 : K.lookup f1 = some ⟨oc1, od1, .func (PySem.W.fnOf "tools_of" "tools_of" (defArgs s_tools_of) (defBody s_tools_of) (defScope s_tools_of) .none kV1 dc1 pm1 an1 cd1 ct1), sl1⟩) (c1 : PySem.W.codeIn K cd1 "tools_of" = true) (k1 : PySem.W.keepIn K (.ref f1) = true)
    {f2 : Addr} {od2 an2 : Option Addr} {sl2 : Array (Option Value)} {oc2 kV2 dc2 pm2 cd2 ct2 : Value} (a2 : PySem.W.nsIn K mainGlobals "stores_of" = some (some (.ref f2))) (l2 : K.lookup f2 = some ⟨oc2, od2, .func (PySem.W.fnOf "stores_of" "stores_of" (defArgs s_stores_of) (defBody s_stores_of) (defScope s_stores_of) .none kV2 dc2 pm2 an2 cd2 ct2), sl2⟩) (c2 : PySem.W.codeIn K cd2 "stores_of" = true) (k2 : PySem.W.keepIn K (.ref f2) = true)
    {f3 : Addr} {od3 an3 : Option Addr} {sl3 : Array (Option Value)} {oc3 kV3 dc3 pm3 cd3 ct3 : Value} (a3 : PySem.W.nsIn K mainGlobals "told_tool" = some (some (.ref f3))) (l3 : K.lookup f3 = some ⟨oc3, od3, .func (PySem.W.fnOf "told_tool" "told_tool" (defArgs s_told_tool) (defBody s_told_tool) (defScope s_told_tool) .none kV3 dc3 pm3 an3 cd3 ct3), sl3⟩) (c3 : PySem.W.codeIn K cd3 "told_tool" = true) (k3 : PySem.W.keepIn K (.ref f3) = true)
    {f4 : Addr} {od4 an4 : Option Addr} {sl4 : Array (Option Value)} {oc4 kV4 dc4 pm4 cd4 ct4 : Value} (a4 : PySem.W.nsIn K mainGlobals "told_store" = some (some (.ref f4))) (l4 : K.lookup f4 = some ⟨oc4, od4, .func (PySem.W.fnOf "told_store" "told_store" (defArgs s_told_store) (defBody s_told_store) (defScope s_told_store) .none kV4 dc4 pm4 an4 cd4 ct4), sl4⟩) (c4 : PySem.W.codeIn K cd4 "told_store" = true) (k4 : PySem.W.keepIn K (.ref f4) = true)
    {f5 : Addr} {od5 an5 : Option Addr} {sl5 : Array (Option Value)} {oc5 kV5 dc5 pm5 cd5 ct5 : Value} (a5 : PySem.W.nsIn K mainGlobals "hand_out" = some (some (.ref f5))) (l5 : K.lookup f5 = some ⟨oc5, od5, .func (PySem.W.fnOf "hand_out" "hand_out" (defArgs s_hand_out) (defBody s_hand_out) (defScope s_hand_out) .none kV5 dc5 pm5 an5 cd5 ct5), sl5⟩) (c5 : PySem.W.codeIn K cd5 "hand_out" = true) (k5 : PySem.W.keepIn K (.ref f5) = true)
    {f6 : Addr} {od6 an6 : Option Addr} {sl6 : Array (Option Value)} {oc6 kV6 dc6 pm6 cd6 ct6 : Value} (a6 : PySem.W.nsIn K mainGlobals "hand_in" = some (some (.ref f6))) (l6 : K.lookup f6 = some ⟨oc6, od6, .func (PySem.W.fnOf "hand_in" "hand_in" (defArgs s_hand_in) (defBody s_hand_in) (defScope s_hand_in) .none kV6 dc6 pm6 an6 cd6 ct6), sl6⟩) (c6 : PySem.W.codeIn K cd6 "hand_in" = true) (k6 : PySem.W.keepIn K (.ref f6) = true)
    {f7 : Addr} {od7 an7 : Option Addr} {sl7 : Array (Option Value)} {oc7 kV7 dc7 pm7 cd7 ct7 : Value} (a7 : PySem.W.nsIn K mainGlobals "serve_takers" = some (some (.ref f7))) (l7 : K.lookup f7 = some ⟨oc7, od7, .func (PySem.W.fnOf "serve_takers" "serve_takers" (defArgs s_serve_takers) (defBody s_serve_takers) (defScope s_serve_takers) .none kV7 dc7 pm7 an7 cd7 ct7), sl7⟩) (c7 : PySem.W.codeIn K cd7 "serve_takers" = true) (k7 : PySem.W.keepIn K (.ref f7) = true)
    {f8 : Addr} {od8 an8 : Option Addr} {sl8 : Array (Option Value)} {oc8 kV8 dc8 pm8 cd8 ct8 : Value} (a8 : PySem.W.nsIn K mainGlobals "serve_by_turns" = some (some (.ref f8))) (l8 : K.lookup f8 = some ⟨oc8, od8, .func (PySem.W.fnOf "serve_by_turns" "serve_by_turns" (defArgs s_serve_by_turns) (defBody s_serve_by_turns) (defScope s_serve_by_turns) .none kV8 dc8 pm8 an8 cd8 ct8), sl8⟩) (c8 : PySem.W.codeIn K cd8 "serve_by_turns" = true) (k8 : PySem.W.keepIn K (.ref f8) = true)
    {f9 : Addr} {od9 an9 : Option Addr} {sl9 : Array (Option Value)} {oc9 kV9 dc9 pm9 cd9 ct9 : Value} (a9 : PySem.W.nsIn K mainGlobals "_law_next" = some (some (.ref f9))) (l9 : K.lookup f9 = some ⟨oc9, od9, .func (PySem.W.fnOf "_law_next" "_law_next" (defArgs s__law_next) (defBody s__law_next) (defScope s__law_next) .none kV9 dc9 pm9 an9 cd9 ct9), sl9⟩) (c9 : PySem.W.codeIn K cd9 "_law_next" = true) (k9 : PySem.W.keepIn K (.ref f9) = true)
    {f10 : Addr} {od10 an10 : Option Addr} {sl10 : Array (Option Value)} {oc10 kV10 dc10 pm10 cd10 ct10 : Value} (a10 : PySem.W.nsIn K mainGlobals "_law_program" = some (some (.ref f10))) (l10 : K.lookup f10 = some ⟨oc10, od10, .func (PySem.W.fnOf "_law_program" "_law_program" (defArgs s__law_program) (defBody s__law_program) (defScope s__law_program) .none kV10 dc10 pm10 an10 cd10 ct10), sl10⟩) (c10 : PySem.W.codeIn K cd10 "_law_program" = true) (k10 : PySem.W.keepIn K (.ref f10) = true)
    {f11 : Addr} {od11 an11 : Option Addr} {sl11 : Array (Option Value)} {oc11 kV11 dc11 pm11 cd11 ct11 : Value} (a11 : PySem.W.nsIn K mainGlobals "_law_deed" = some (some (.ref f11))) (l11 : K.lookup f11 = some ⟨oc11, od11, .func (PySem.W.fnOf "_law_deed" "_law_deed" (defArgs s__law_deed) (defBody s__law_deed) (defScope s__law_deed) .none kV11 dc11 pm11 an11 cd11 ct11), sl11⟩) (c11 : PySem.W.codeIn K cd11 "_law_deed" = true) (k11 : PySem.W.keepIn K (.ref f11) = true)
    {f12 : Addr} {od12 an12 : Option Addr} {sl12 : Array (Option Value)} {oc12 kV12 dc12 pm12 cd12 ct12 : Value} (a12 : PySem.W.nsIn K mainGlobals "_law_asked" = some (some (.ref f12))) (l12 : K.lookup f12 = some ⟨oc12, od12, .func (PySem.W.fnOf "_law_asked" "_law_asked" (defArgs s__law_asked) (defBody s__law_asked) (defScope s__law_asked) .none kV12 dc12 pm12 an12 cd12 ct12), sl12⟩) (c12 : PySem.W.codeIn K cd12 "_law_asked" = true) (k12 : PySem.W.keepIn K (.ref f12) = true)
    {f13 : Addr} {od13 an13 : Option Addr} {sl13 : Array (Option Value)} {oc13 kV13 dc13 pm13 cd13 ct13 : Value} (a13 : PySem.W.nsIn K mainGlobals "_law_emptied" = some (some (.ref f13))) (l13 : K.lookup f13 = some ⟨oc13, od13, .func (PySem.W.fnOf "_law_emptied" "_law_emptied" (defArgs s__law_emptied) (defBody s__law_emptied) (defScope s__law_emptied) .none kV13 dc13 pm13 an13 cd13 ct13), sl13⟩) (c13 : PySem.W.codeIn K cd13 "_law_emptied" = true) (k13 : PySem.W.keepIn K (.ref f13) = true)
    {f14 : Addr} {od14 an14 : Option Addr} {sl14 : Array (Option Value)} {oc14 kV14 dc14 pm14 cd14 ct14 : Value} (a14 : PySem.W.nsIn K mainGlobals "law" = some (some (.ref f14))) (l14 : K.lookup f14 = some ⟨oc14, od14, .func (PySem.W.fnOf "law" "law" (defArgs s_law) (defBody s_law) (defScope s_law) .none kV14 dc14 pm14 an14 cd14 ct14), sl14⟩) (c14 : PySem.W.codeIn K cd14 "law" = true) (k14 : PySem.W.keepIn K (.ref f14) = true)
    (z1 : PySem.W.nsIn K mainGlobals "len" = some none)
    (z2 : PySem.W.nsIn K mainGlobals "sorted" = some none)
    (z3 : PySem.W.nsIn K mainGlobals "min" = some none)
    (z4 : PySem.W.nsIn K mainGlobals "max" = some none)
    (z5 : PySem.W.nsIn K mainGlobals "range" = some none)
    (z6 : PySem.W.nsIn K mainGlobals "list" = some none)
    (z7 : PySem.W.nsIn K mainGlobals "dict" = some none)
    (z8 : PySem.W.nsIn K mainGlobals "int" = some none)
    (z9 : PySem.W.nsIn K mainGlobals "zip" = some none)
    {CT : Addr} (aTool : PySem.W.nsIn K mainGlobals "Tool" = some (some (.ref CT)))
    (pgTool : PySem.W.plainGet K CT Str.empty = true)
    (hdTool : PySem.W.hasDictIn K CT = true)
    (poTool : PySem.W.plainOver K CT = true)
    (saTool : PySem.W.findIn K (.ref CT) "__setattr__" = some (some (.builtin "object.__setattr__")))
    (mkTool : PySem.W.makesIn K CT = true)
    (kcTool : PySem.W.keepIn K (.ref CT) = true)
    (nTool_free : PySem.W.findIn K (.ref CT) "free" = some none)
    (nTool_held : PySem.W.findIn K (.ref CT) "held" = some none)
    (nTool_queue : PySem.W.findIn K (.ref CT) "queue" = some none)
    {fTool_init : Addr} {odTool_init anTool_init : Option Addr} {slTool_init : Array (Option Value)} {ocTool_init kVTool_init dcTool_init pmTool_init cdTool_init ctTool_init : Value} (aTool_init : PySem.W.findIn K (.ref CT) "__init__" = some (some (.ref fTool_init)))
    (iTool_init : PySem.W.isFn K (.ref fTool_init) = true)
    (lTool_init : K.lookup fTool_init = some ⟨ocTool_init, odTool_init, .func (PySem.W.fnOf "__init__" "Tool.__init__" (defArgs s_Tool___init__) (defBody s_Tool___init__) (defScope s_Tool___init__) .none kVTool_init dcTool_init pmTool_init anTool_init cdTool_init ctTool_init), slTool_init⟩)
    (cTool_init : PySem.W.codeIn K cdTool_init "Tool.__init__" = true)
    (kTool_init : PySem.W.keepIn K (.ref fTool_init) = true)
    {CS : Addr} (aStore : PySem.W.nsIn K mainGlobals "Store" = some (some (.ref CS)))
    (pgStore : PySem.W.plainGet K CS Str.empty = true)
    (hdStore : PySem.W.hasDictIn K CS = true)
    (poStore : PySem.W.plainOver K CS = true)
    (saStore : PySem.W.findIn K (.ref CS) "__setattr__" = some (some (.builtin "object.__setattr__")))
    (mkStore : PySem.W.makesIn K CS = true)
    (kcStore : PySem.W.keepIn K (.ref CS) = true)
    (nStore_level : PySem.W.findIn K (.ref CS) "level" = some none)
    (nStore_most : PySem.W.findIn K (.ref CS) "most" = some none)
    (nStore_getters : PySem.W.findIn K (.ref CS) "getters" = some none)
    (nStore_putters : PySem.W.findIn K (.ref CS) "putters" = some none)
    {fStore_init : Addr} {odStore_init anStore_init : Option Addr} {slStore_init : Array (Option Value)} {ocStore_init kVStore_init dcStore_init pmStore_init cdStore_init ctStore_init : Value} (aStore_init : PySem.W.findIn K (.ref CS) "__init__" = some (some (.ref fStore_init)))
    (iStore_init : PySem.W.isFn K (.ref fStore_init) = true)
    (lStore_init : K.lookup fStore_init = some ⟨ocStore_init, odStore_init, .func (PySem.W.fnOf "__init__" "Store.__init__" (defArgs s_Store___init__) (defBody s_Store___init__) (defScope s_Store___init__) .none kVStore_init dcStore_init pmStore_init anStore_init cdStore_init ctStore_init), slStore_init⟩)
    (cStore_init : PySem.W.codeIn K cdStore_init "Store.__init__" = true)
    (kStore_init : PySem.W.keepIn K (.ref fStore_init) = true)
    {CG : Addr} (aGoods : PySem.W.nsIn K mainGlobals "Goods" = some (some (.ref CG)))
    (pgGoods : PySem.W.plainGet K CG Str.empty = true)
    (hdGoods : PySem.W.hasDictIn K CG = true)
    (poGoods : PySem.W.plainOver K CG = true)
    (saGoods : PySem.W.findIn K (.ref CG) "__setattr__" = some (some (.builtin "object.__setattr__")))
    (mkGoods : PySem.W.makesIn K CG = true)
    (kcGoods : PySem.W.keepIn K (.ref CG) = true)
    (nGoods_by_tool : PySem.W.findIn K (.ref CG) "by_tool" = some none)
    (nGoods_by_store : PySem.W.findIn K (.ref CG) "by_store" = some none)
    {fGoods_init : Addr} {odGoods_init anGoods_init : Option Addr} {slGoods_init : Array (Option Value)} {ocGoods_init kVGoods_init dcGoods_init pmGoods_init cdGoods_init ctGoods_init : Value} (aGoods_init : PySem.W.findIn K (.ref CG) "__init__" = some (some (.ref fGoods_init)))
    (iGoods_init : PySem.W.isFn K (.ref fGoods_init) = true)
    (lGoods_init : K.lookup fGoods_init = some ⟨ocGoods_init, odGoods_init, .func (PySem.W.fnOf "__init__" "Goods.__init__" (defArgs s_Goods___init__) (defBody s_Goods___init__) (defScope s_Goods___init__) .none kVGoods_init dcGoods_init pmGoods_init anGoods_init cdGoods_init ctGoods_init), slGoods_init⟩)
    (cGoods_init : PySem.W.codeIn K cdGoods_init "Goods.__init__" = true)
    (kGoods_init : PySem.W.keepIn K (.ref fGoods_init) = true)
    {fGoods_take : Addr} {odGoods_take anGoods_take : Option Addr} {slGoods_take : Array (Option Value)} {ocGoods_take kVGoods_take dcGoods_take pmGoods_take cdGoods_take ctGoods_take : Value} (aGoods_take : PySem.W.findIn K (.ref CG) "take" = some (some (.ref fGoods_take)))
    (iGoods_take : PySem.W.isFn K (.ref fGoods_take) = true)
    (lGoods_take : K.lookup fGoods_take = some ⟨ocGoods_take, odGoods_take, .func (PySem.W.fnOf "take" "Goods.take" (defArgs s_Goods_take) (defBody s_Goods_take) (defScope s_Goods_take) .none kVGoods_take dcGoods_take pmGoods_take anGoods_take cdGoods_take ctGoods_take), slGoods_take⟩)
    (cGoods_take : PySem.W.codeIn K cdGoods_take "Goods.take" = true)
    (kGoods_take : PySem.W.keepIn K (.ref fGoods_take) = true)
    {fGoods_give : Addr} {odGoods_give anGoods_give : Option Addr} {slGoods_give : Array (Option Value)} {ocGoods_give kVGoods_give dcGoods_give pmGoods_give cdGoods_give ctGoods_give : Value} (aGoods_give : PySem.W.findIn K (.ref CG) "give" = some (some (.ref fGoods_give)))
    (iGoods_give : PySem.W.isFn K (.ref fGoods_give) = true)
    (lGoods_give : K.lookup fGoods_give = some ⟨ocGoods_give, odGoods_give, .func (PySem.W.fnOf "give" "Goods.give" (defArgs s_Goods_give) (defBody s_Goods_give) (defScope s_Goods_give) .none kVGoods_give dcGoods_give pmGoods_give anGoods_give cdGoods_give ctGoods_give), slGoods_give⟩)
    (cGoods_give : PySem.W.codeIn K cdGoods_give "Goods.give" = true)
    (kGoods_give : PySem.W.keepIn K (.ref fGoods_give) = true)
    {fGoods_put : Addr} {odGoods_put anGoods_put : Option Addr} {slGoods_put : Array (Option Value)} {ocGoods_put kVGoods_put dcGoods_put pmGoods_put cdGoods_put ctGoods_put : Value} (aGoods_put : PySem.W.findIn K (.ref CG) "put" = some (some (.ref fGoods_put)))
    (iGoods_put : PySem.W.isFn K (.ref fGoods_put) = true)
    (lGoods_put : K.lookup fGoods_put = some ⟨ocGoods_put, odGoods_put, .func (PySem.W.fnOf "put" "Goods.put" (defArgs s_Goods_put) (defBody s_Goods_put) (defScope s_Goods_put) .none kVGoods_put dcGoods_put pmGoods_put anGoods_put cdGoods_put ctGoods_put), slGoods_put⟩)
    (cGoods_put : PySem.W.codeIn K cdGoods_put "Goods.put" = true)
    (kGoods_put : PySem.W.keepIn K (.ref fGoods_put) = true)
    {fGoods_get : Addr} {odGoods_get anGoods_get : Option Addr} {slGoods_get : Array (Option Value)} {ocGoods_get kVGoods_get dcGoods_get pmGoods_get cdGoods_get ctGoods_get : Value} (aGoods_get : PySem.W.findIn K (.ref CG) "get" = some (some (.ref fGoods_get)))
    (iGoods_get : PySem.W.isFn K (.ref fGoods_get) = true)
    (lGoods_get : K.lookup fGoods_get = some ⟨ocGoods_get, odGoods_get, .func (PySem.W.fnOf "get" "Goods.get" (defArgs s_Goods_get) (defBody s_Goods_get) (defScope s_Goods_get) .none kVGoods_get dcGoods_get pmGoods_get anGoods_get cdGoods_get ctGoods_get), slGoods_get⟩)
    (cGoods_get : PySem.W.codeIn K cdGoods_get "Goods.get" = true)
    (kGoods_get : PySem.W.keepIn K (.ref fGoods_get) = true)
    {fGoods_bring : Addr} {odGoods_bring anGoods_bring : Option Addr} {slGoods_bring : Array (Option Value)} {ocGoods_bring kVGoods_bring dcGoods_bring pmGoods_bring cdGoods_bring ctGoods_bring : Value} (aGoods_bring : PySem.W.findIn K (.ref CG) "bring" = some (some (.ref fGoods_bring)))
    (iGoods_bring : PySem.W.isFn K (.ref fGoods_bring) = true)
    (lGoods_bring : K.lookup fGoods_bring = some ⟨ocGoods_bring, odGoods_bring, .func (PySem.W.fnOf "bring" "Goods.bring" (defArgs s_Goods_bring) (defBody s_Goods_bring) (defScope s_Goods_bring) .none kVGoods_bring dcGoods_bring pmGoods_bring anGoods_bring cdGoods_bring ctGoods_bring), slGoods_bring⟩)
    (cGoods_bring : PySem.W.codeIn K cdGoods_bring "Goods.bring" = true)
    (kGoods_bring : PySem.W.keepIn K (.ref fGoods_bring) = true)
    {fGoods_leave : Addr} {odGoods_leave anGoods_leave : Option Addr} {slGoods_leave : Array (Option Value)} {ocGoods_leave kVGoods_leave dcGoods_leave pmGoods_leave cdGoods_leave ctGoods_leave : Value} (aGoods_leave : PySem.W.findIn K (.ref CG) "leave" = some (some (.ref fGoods_leave)))
    (iGoods_leave : PySem.W.isFn K (.ref fGoods_leave) = true)
    (lGoods_leave : K.lookup fGoods_leave = some ⟨ocGoods_leave, odGoods_leave, .func (PySem.W.fnOf "leave" "Goods.leave" (defArgs s_Goods_leave) (defBody s_Goods_leave) (defScope s_Goods_leave) .none kVGoods_leave dcGoods_leave pmGoods_leave anGoods_leave cdGoods_leave ctGoods_leave), slGoods_leave⟩)
    (cGoods_leave : PySem.W.codeIn K cdGoods_leave "Goods.leave" = true)
    (kGoods_leave : PySem.W.keepIn K (.ref fGoods_leave) = true)
    {fGoods_tools : Addr} {odGoods_tools anGoods_tools : Option Addr} {slGoods_tools : Array (Option Value)} {ocGoods_tools kVGoods_tools dcGoods_tools pmGoods_tools cdGoods_tools ctGoods_tools : Value} (aGoods_tools : PySem.W.findIn K (.ref CG) "tools" = some (some (.ref fGoods_tools)))
    (iGoods_tools : PySem.W.isFn K (.ref fGoods_tools) = true)
    (lGoods_tools : K.lookup fGoods_tools = some ⟨ocGoods_tools, odGoods_tools, .func (PySem.W.fnOf "tools" "Goods.tools" (defArgs s_Goods_tools) (defBody s_Goods_tools) (defScope s_Goods_tools) .none kVGoods_tools dcGoods_tools pmGoods_tools anGoods_tools cdGoods_tools ctGoods_tools), slGoods_tools⟩)
    (cGoods_tools : PySem.W.codeIn K cdGoods_tools "Goods.tools" = true)
    (kGoods_tools : PySem.W.keepIn K (.ref fGoods_tools) = true)
    {fGoods_stores : Addr} {odGoods_stores anGoods_stores : Option Addr} {slGoods_stores : Array (Option Value)} {ocGoods_stores kVGoods_stores dcGoods_stores pmGoods_stores cdGoods_stores ctGoods_stores : Value} (aGoods_stores : PySem.W.findIn K (.ref CG) "stores" = some (some (.ref fGoods_stores)))
    (iGoods_stores : PySem.W.isFn K (.ref fGoods_stores) = true)
    (lGoods_stores : K.lookup fGoods_stores = some ⟨ocGoods_stores, odGoods_stores, .func (PySem.W.fnOf "stores" "Goods.stores" (defArgs s_Goods_stores) (defBody s_Goods_stores) (defScope s_Goods_stores) .none kVGoods_stores dcGoods_stores pmGoods_stores anGoods_stores cdGoods_stores ctGoods_stores), slGoods_stores⟩)
    (cGoods_stores : PySem.W.codeIn K cdGoods_stores "Goods.stores" = true)
    (kGoods_stores : PySem.W.keepIn K (.ref fGoods_stores) = true)
    {fGoods_stand : Addr} {odGoods_stand anGoods_stand : Option Addr} {slGoods_stand : Array (Option Value)} {ocGoods_stand kVGoods_stand dcGoods_stand pmGoods_stand cdGoods_stand ctGoods_stand : Value} (aGoods_stand : PySem.W.findIn K (.ref CG) "stand" = some (some (.ref fGoods_stand)))
    (iGoods_stand : PySem.W.isFn K (.ref fGoods_stand) = true)
    (lGoods_stand : K.lookup fGoods_stand = some ⟨ocGoods_stand, odGoods_stand, .func (PySem.W.fnOf "stand" "Goods.stand" (defArgs s_Goods_stand) (defBody s_Goods_stand) (defScope s_Goods_stand) .none kVGoods_stand dcGoods_stand pmGoods_stand anGoods_stand cdGoods_stand ctGoods_stand), slGoods_stand⟩)
    (cGoods_stand : PySem.W.codeIn K cdGoods_stand "Goods.stand" = true)
    (kGoods_stand : PySem.W.keepIn K (.ref fGoods_stand) = true) :
    ∃ fd : FuncData, (∀ (s : Shared) (v : Value), BindsTo s fd ⟨[v], []⟩ [("script", v)]) ∧ ∀ base : Heap, K.In base → base.Ns mainGlobals mg → FnOk l.prog w K mg base CX0 8 fa fd ["script"] (spLaw K) := by
  have e := hfa.symm.trans (PySem.W.mg_of X G a14)
  cases e
  have A_tools_of : DefAt K mg "tools_of" s_tools_of ["program"] := DefAt.mk' X G a1 l1 c1 k1 fun _ _ _ _ _ _ us hl => L2.len1 us hl (fun _ => rfl)
  have A_stores_of : DefAt K mg "stores_of" s_stores_of ["program"] := DefAt.mk' X G a2 l2 c2 k2 fun _ _ _ _ _ _ us hl => L2.len1 us hl (fun _ => rfl)
  have A_told_tool : DefAt K mg "told_tool" s_told_tool ["tool"] := DefAt.mk' X G a3 l3 c3 k3 fun _ _ _ _ _ _ us hl => L2.len1 us hl (fun _ => rfl)
  have A_told_store : DefAt K mg "told_store" s_told_store ["store"] := DefAt.mk' X G a4 l4 c4 k4 fun _ _ _ _ _ _ us hl => L2.len1 us hl (fun _ => rfl)
  have A_hand_out : DefAt K mg "hand_out" s_hand_out ["tool", "hand", "n"] := DefAt.mk' X G a5 l5 c5 k5 fun _ _ _ _ _ _ us hl => L2.len3 us hl (fun _ _ _ => rfl)
  have A_hand_in : DefAt K mg "hand_in" s_hand_in ["tool", "hand", "n"] := DefAt.mk' X G a6 l6 c6 k6 fun _ _ _ _ _ _ us hl => L2.len3 us hl (fun _ _ _ => rfl)
  have A_serve_takers : DefAt K mg "serve_takers" s_serve_takers ["tool"] := DefAt.mk' X G a7 l7 c7 k7 fun _ _ _ _ _ _ us hl => L2.len1 us hl (fun _ => rfl)
  have A_serve_by_turns : DefAt K mg "serve_by_turns" s_serve_by_turns ["store"] := DefAt.mk' X G a8 l8 c8 k8 fun _ _ _ _ _ _ us hl => L2.len1 us hl (fun _ => rfl)
  have A__law_next : DefAt K mg "_law_next" s__law_next ["deck"] := DefAt.mk' X G a9 l9 c9 k9 fun _ _ _ _ _ _ us hl => L2.len1 us hl (fun _ => rfl)
  have A__law_program : DefAt K mg "_law_program" s__law_program ["deck"] := DefAt.mk' X G a10 l10 c10 k10 fun _ _ _ _ _ _ us hl => L2.len1 us hl (fun _ => rfl)
  have A__law_deed : DefAt K mg "_law_deed" s__law_deed ["deck", "program"] := DefAt.mk' X G a11 l11 c11 k11 fun _ _ _ _ _ _ us hl => L2.len2 us hl (fun _ _ => rfl)
  have A__law_asked : DefAt K mg "_law_asked" s__law_asked ["goods", "deed"] := DefAt.mk' X G a12 l12 c12 k12 fun _ _ _ _ _ _ us hl => L2.len2 us hl (fun _ _ => rfl)
  have A__law_emptied : DefAt K mg "_law_emptied" s__law_emptied ["some"] := DefAt.mk' X G a13 l13 c13 k13 fun _ _ _ _ _ _ us hl => L2.len1 us hl (fun _ => rfl)
  have hlen : mg "len" = none := PySem.W.mg_none_of X G z1
  have hsorted : mg "sorted" = none := PySem.W.mg_none_of X G z2
  have hmin : mg "min" = none := PySem.W.mg_none_of X G z3
  have hmax : mg "max" = none := PySem.W.mg_none_of X G z4
  have hrange : mg "range" = none := PySem.W.mg_none_of X G z5
  have hlist : mg "list" = none := PySem.W.mg_none_of X G z6
  have hdict : mg "dict" = none := PySem.W.mg_none_of X G z7
  have hint : mg "int" = none := PySem.W.mg_none_of X G z8
  have hzip : mg "zip" = none := PySem.W.mg_none_of X G z9
  have CL_Tool : Cls K CT := ⟨pgTool, hdTool, poTool, saTool⟩
  have N_Tool_free : NoAttr K CT "free" := nTool_free
  have N_Tool_held : NoAttr K CT "held" := nTool_held
  have N_Tool_queue : NoAttr K CT "queue" := nTool_queue
  have M_Tool : MakeAt K mg "Tool" CT "Tool.__init__" s_Tool___init__ ["self", "count"] := MakeAt.mk' X G aTool mkTool kcTool aTool_init iTool_init lTool_init cTool_init kTool_init fun _ _ _ _ _ _ us hl => L2.len2 us hl (fun _ _ => rfl)
  have CL_Store : Cls K CS := ⟨pgStore, hdStore, poStore, saStore⟩
  have N_Store_level : NoAttr K CS "level" := nStore_level
  have N_Store_most : NoAttr K CS "most" := nStore_most
  have N_Store_getters : NoAttr K CS "getters" := nStore_getters
  have N_Store_putters : NoAttr K CS "putters" := nStore_putters
  have M_Store : MakeAt K mg "Store" CS "Store.__init__" s_Store___init__ ["self", "level", "most"] := MakeAt.mk' X G aStore mkStore kcStore aStore_init iStore_init lStore_init cStore_init kStore_init fun _ _ _ _ _ _ us hl => L2.len3 us hl (fun _ _ _ => rfl)
  have CL_Goods : Cls K CG := ⟨pgGoods, hdGoods, poGoods, saGoods⟩
  have N_Goods_by_tool : NoAttr K CG "by_tool" := nGoods_by_tool
  have N_Goods_by_store : NoAttr K CG "by_store" := nGoods_by_store
  have M_Goods : MakeAt K mg "Goods" CG "Goods.__init__" s_Goods___init__ ["self", "program"] := MakeAt.mk' X G aGoods mkGoods kcGoods aGoods_init iGoods_init lGoods_init cGoods_init kGoods_init fun _ _ _ _ _ _ us hl => L2.len2 us hl (fun _ _ => rfl)
  have M_Goods_take : MethAt K CG "take" "Goods.take" s_Goods_take ["self", "hand", "name", "n"] := MethAt.mk' aGoods_take iGoods_take lGoods_take cGoods_take kGoods_take fun _ _ _ _ _ _ us hl => L2.len4 us hl (fun _ _ _ _ => rfl)
  have M_Goods_give : MethAt K CG "give" "Goods.give" s_Goods_give ["self", "hand", "name", "n"] := MethAt.mk' aGoods_give iGoods_give lGoods_give cGoods_give kGoods_give fun _ _ _ _ _ _ us hl => L2.len4 us hl (fun _ _ _ _ => rfl)
  have M_Goods_put : MethAt K CG "put" "Goods.put" s_Goods_put ["self", "hand", "name", "n"] := MethAt.mk' aGoods_put iGoods_put lGoods_put cGoods_put kGoods_put fun _ _ _ _ _ _ us hl => L2.len4 us hl (fun _ _ _ _ => rfl)
  have M_Goods_get : MethAt K CG "get" "Goods.get" s_Goods_get ["self", "hand", "name", "n"] := MethAt.mk' aGoods_get iGoods_get lGoods_get cGoods_get kGoods_get fun _ _ _ _ _ _ us hl => L2.len4 us hl (fun _ _ _ _ => rfl)
  have M_Goods_bring : MethAt K CG "bring" "Goods.bring" s_Goods_bring ["self", "name", "n"] := MethAt.mk' aGoods_bring iGoods_bring lGoods_bring cGoods_bring kGoods_bring fun _ _ _ _ _ _ us hl => L2.len3 us hl (fun _ _ _ => rfl)
  have M_Goods_leave : MethAt K CG "leave" "Goods.leave" s_Goods_leave ["self", "hand"] := MethAt.mk' aGoods_leave iGoods_leave lGoods_leave cGoods_leave kGoods_leave fun _ _ _ _ _ _ us hl => L2.len2 us hl (fun _ _ => rfl)
  have M_Goods_tools : MethAt K CG "tools" "Goods.tools" s_Goods_tools ["self"] := MethAt.mk' aGoods_tools iGoods_tools lGoods_tools cGoods_tools kGoods_tools fun _ _ _ _ _ _ us hl => L2.len1 us hl (fun _ => rfl)
  have M_Goods_stores : MethAt K CG "stores" "Goods.stores" s_Goods_stores ["self"] := MethAt.mk' aGoods_stores iGoods_stores lGoods_stores cGoods_stores kGoods_stores fun _ _ _ _ _ _ us hl => L2.len1 us hl (fun _ => rfl)
  have M_Goods_stand : MethAt K CG "stand" "Goods.stand" s_Goods_stand ["self", "tools", "stores"] := MethAt.mk' aGoods_stand iGoods_stand lGoods_stand cGoods_stand kGoods_stand fun _ _ _ _ _ _ us hl => L2.len3 us hl (fun _ _ _ => rfl)
  have FL := fun_mk (st := s_law) l14 c14 k14
  refine ⟨PySem.W.fnOf "law" "law" (defArgs s_law) (defBody s_law) (defScope s_law) .none kV14 dc14 pm14 an14 cd14 ct14, fun s v => .of_eq rfl, fun base _ _ => ?_⟩
  exact by
    have Gnx := ok_nx (P := l.prog) (w := w) (base := base) A__law_next hlen hmax hmin hrange
    have Gtl := ok_Tool (P := l.prog) (w := w) (base := base) M_Tool CL_Tool N_Tool_free N_Tool_held N_Tool_queue
    have Gsr := ok_Store (P := l.prog) (w := w) (base := base) M_Store CL_Store N_Store_level N_Store_most N_Store_getters N_Store_putters
    have Gout := ok_out (P := l.prog) (w := w) (base := base) A_hand_out CL_Tool N_Tool_free N_Tool_held
    have Gin := ok_in A_hand_in Gout
    have Gsv := ok_serve A_serve_takers CL_Tool N_Tool_free N_Tool_queue Gout
    have Gtd := ok_told (P := l.prog) (w := w) (base := base) A_told_tool CL_Tool N_Tool_free N_Tool_held N_Tool_queue hsorted hlist
    have Gts := ok_toldS (P := l.prog) (w := w) (base := base) A_told_store CL_Store N_Store_level N_Store_getters N_Store_putters hlist
    have Gtu := ok_turns (P := l.prog) (w := w) (base := base) A_serve_by_turns CL_Store N_Store_level N_Store_most N_Store_getters N_Store_putters
    have Gg := ok_Goods M_Goods CL_Goods N_Goods_by_tool N_Goods_by_store (ok_toolsOf A_tools_of Gtl hdict) (ok_storesOf A_stores_of Gsr hdict)
    have Gtake := ok_take M_Goods_take CL_Goods N_Goods_by_tool CL_Tool N_Tool_free N_Tool_queue Gout
    have Ggive := ok_give M_Goods_give CL_Goods N_Goods_by_tool CL_Tool N_Tool_held Gin Gsv hmin
    have Gput := ok_put M_Goods_put CL_Goods N_Goods_by_store CL_Store N_Store_level N_Store_most N_Store_putters Gtu
    have Gget := ok_get M_Goods_get CL_Goods N_Goods_by_store CL_Store N_Store_level N_Store_getters Gtu
    have Gtools := ok_tools M_Goods_tools CL_Goods N_Goods_by_tool Gtd
    have Gstores := ok_stores M_Goods_stores CL_Goods N_Goods_by_store Gts
    have Gbring := ok_bring M_Goods_bring CL_Goods N_Goods_by_store CL_Store N_Store_level N_Store_most Gtu hmin hmax
    have Gleave := ok_leave (CS := CS) M_Goods_leave CL_Goods N_Goods_by_tool CL_Tool N_Tool_held Ggive hlist
    have Gstand := ok_stand (P := l.prog) (w := w) (base := base) M_Goods_stand CL_Goods N_Goods_by_tool N_Goods_by_store CL_Tool N_Tool_free N_Tool_held N_Tool_queue CL_Store N_Store_level N_Store_getters N_Store_putters hzip hdict hlist
    exact ok_law FL Gnx (ok_prg A__law_program Gnx hrange) Gg (ok_deed A__law_deed Gnx hlen hmax hint) (ok_ask A__law_asked Gtake Ggive Gput Gget Gbring Gleave) Gtools Gstores Gstand (ok_emp A__law_emptied) hrange
theorem walk {l : PySem.W.OpenLaw} {q : Program} {loose : List Str} {XP : (Str → Option Value) → Heap → Prop} {YP : World → Heap → Prop} {d : DefRec} {K : Params → PySem.W.Frag} (hn : l.most = some 63) (hdf : d.params.defaults = [])
    (hY : ∀ (w : World) (h : Heap), YP w h → (K w.params).In h)
    (F : ∀ (w : World) (mg : Str → Option Value) (fa : Addr) (h : Heap), (K w.params).In h → h.Ns mainGlobals mg → mg d.name = some (.ref fa) →
      ∃ fd : FuncData, (∀ (s : Shared) (u : Value), BindsTo s fd ⟨[u], []⟩ [("script", u)]) ∧ ∀ base : Heap, (K w.params).In base → base.Ns mainGlobals mg → FnOk l.prog w (K w.params) mg base CX0 8 fa fd ["script"] (spLaw (K w.params))) :
    PySem.W.WalkO q loose XP YP l.row.toRowW d [] (fun f vs => PySem.call f vs) :=
  L2.walk_of (n := 63) (k := 8) (x := "script") (CX := fun _ => CX0) (sp := fun w => spLaw (K w.params)) hn (by decide) hdf ⟨rfl, by decide, by decide⟩ hY F (fun _ _ a ns hl _ hS => ⟨a, ns, rfl, hS, hl, fun _ => rfl⟩) fun _ _ _ _ _ z => z
end K23
open PySem PySem.W PyProof.Rows
set_option maxRecDepth 100000 in
set_option maxHeartbeats 0 in
theorem PySem.Challenge.cw_rerunyard_k23_whole_goods_stood_holds : PySem.Challenge.rw_rerunyard_k23_whole_goods_stood.Holds := by
  w_on; o_law; k_head; (case hw => w_witness2)
  k_fill
  refine K23.walk (l := PySem.Challenge.rw_rerunyard_k23_whole_goods_stood) rfl rfl (fun w h Y => PySem.W.kIn_of Y) ?F
  case F =>
    intro w mg fa h KX G hmg
    refine' K23.all_mk KX G hmg ?a1 ?l1 ?c1 ?k1 ?a2 ?l2 ?c2 ?k2 ?a3 ?l3 ?c3 ?k3 ?a4 ?l4 ?c4 ?k4 ?a5 ?l5 ?c5 ?k5 ?a6 ?l6 ?c6 ?k6 ?a7 ?l7 ?c7 ?k7 ?a8 ?l8 ?c8 ?k8 ?a9 ?l9 ?c9 ?k9 ?a10 ?l10 ?c10 ?k10 ?a11 ?l11 ?c11 ?k11 ?a12 ?l12 ?c12 ?k12 ?a13 ?l13 ?c13 ?k13 ?a14 ?l14 ?c14 ?k14 ?z1 ?z2 ?z3 ?z4 ?z5 ?z6 ?z7 ?z8 ?z9 ?aTool ?pgTool ?hdTool ?poTool ?saTool ?mkTool ?kcTool ?nTool_free ?nTool_held ?nTool_queue ?aTool_init ?iTool_init ?lTool_init ?cTool_init ?kTool_init ?aStore ?pgStore ?hdStore ?poStore ?saStore ?mkStore ?kcStore ?nStore_level ?nStore_most ?nStore_getters ?nStore_putters ?aStore_init ?iStore_init ?lStore_init ?cStore_init ?kStore_init ?aGoods ?pgGoods ?hdGoods ?poGoods ?saGoods ?mkGoods ?kcGoods ?nGoods_by_tool ?nGoods_by_store ?aGoods_init ?iGoods_init ?lGoods_init ?cGoods_init ?kGoods_init ?aGoods_take ?iGoods_take ?lGoods_take ?cGoods_take ?kGoods_take ?aGoods_give ?iGoods_give ?lGoods_give ?cGoods_give ?kGoods_give ?aGoods_put ?iGoods_put ?lGoods_put ?cGoods_put ?kGoods_put ?aGoods_get ?iGoods_get ?lGoods_get ?cGoods_get ?kGoods_get ?aGoods_bring ?iGoods_bring ?lGoods_bring ?cGoods_bring ?kGoods_bring ?aGoods_leave ?iGoods_leave ?lGoods_leave ?cGoods_leave ?kGoods_leave ?aGoods_tools ?iGoods_tools ?lGoods_tools ?cGoods_tools ?kGoods_tools ?aGoods_stores ?iGoods_stores ?lGoods_stores ?cGoods_stores ?kGoods_stores ?aGoods_stand ?iGoods_stand ?lGoods_stand ?cGoods_stand ?kGoods_stand
    (case a1 => k_is); (case l1 => k_is); (case c1 => k_is); (case k1 => k_is); (case a2 => k_is); (case l2 => k_is); (case c2 => k_is); (case k2 => k_is); (case a3 => k_is); (case l3 => k_is); (case c3 => k_is); (case k3 => k_is); (case a4 => k_is); (case l4 => k_is); (case c4 => k_is); (case k4 => k_is); (case a5 => k_is); (case l5 => k_is); (case c5 => k_is); (case k5 => k_is); (case a6 => k_is); (case l6 => k_is); (case c6 => k_is); (case k6 => k_is); (case a7 => k_is); (case l7 => k_is); (case c7 => k_is); (case k7 => k_is); (case a8 => k_is); (case l8 => k_is); (case c8 => k_is); (case k8 => k_is); (case a9 => k_is); (case l9 => k_is); (case c9 => k_is); (case k9 => k_is); (case a10 => k_is); (case l10 => k_is); (case c10 => k_is); (case k10 => k_is); (case a11 => k_is); (case l11 => k_is); (case c11 => k_is); (case k11 => k_is); (case a12 => k_is); (case l12 => k_is); (case c12 => k_is); (case k12 => k_is); (case a13 => k_is); (case l13 => k_is); (case c13 => k_is); (case k13 => k_is); (case a14 => k_is); (case l14 => k_is); (case c14 => k_is); (case k14 => k_is); (case z1 => k_is); (case z2 => k_is); (case z3 => k_is); (case z4 => k_is); (case z5 => k_is); (case z6 => k_is); (case z7 => k_is); (case z8 => k_is); (case z9 => k_is); (case aTool => k_is); (case pgTool => k_is); (case hdTool => k_is); (case poTool => k_is); (case saTool => k_is); (case mkTool => k_is); (case kcTool => k_is); (case nTool_free => k_is); (case nTool_held => k_is); (case nTool_queue => k_is); (case aTool_init => k_is); (case iTool_init => k_is); (case lTool_init => k_is); (case cTool_init => k_is); (case kTool_init => k_is); (case aStore => k_is); (case pgStore => k_is); (case hdStore => k_is); (case poStore => k_is); (case saStore => k_is); (case mkStore => k_is); (case kcStore => k_is); (case nStore_level => k_is); (case nStore_most => k_is); (case nStore_getters => k_is); (case nStore_putters => k_is); (case aStore_init => k_is); (case iStore_init => k_is); (case lStore_init => k_is); (case cStore_init => k_is); (case kStore_init => k_is); (case aGoods => k_is); (case pgGoods => k_is); (case hdGoods => k_is); (case poGoods => k_is); (case saGoods => k_is); (case mkGoods => k_is); (case kcGoods => k_is); (case nGoods_by_tool => k_is); (case nGoods_by_store => k_is); (case aGoods_init => k_is); (case iGoods_init => k_is); (case lGoods_init => k_is); (case cGoods_init => k_is); (case kGoods_init => k_is); (case aGoods_take => k_is); (case iGoods_take => k_is); (case lGoods_take => k_is); (case cGoods_take => k_is); (case kGoods_take => k_is); (case aGoods_give => k_is); (case iGoods_give => k_is); (case lGoods_give => k_is); (case cGoods_give => k_is); (case kGoods_give => k_is); (case aGoods_put => k_is); (case iGoods_put => k_is); (case lGoods_put => k_is); (case cGoods_put => k_is); (case kGoods_put => k_is); (case aGoods_get => k_is); (case iGoods_get => k_is); (case lGoods_get => k_is); (case cGoods_get => k_is); (case kGoods_get => k_is); (case aGoods_bring => k_is); (case iGoods_bring => k_is); (case lGoods_bring => k_is); (case cGoods_bring => k_is); (case kGoods_bring => k_is); (case aGoods_leave => k_is); (case iGoods_leave => k_is); (case lGoods_leave => k_is); (case cGoods_leave => k_is); (case kGoods_leave => k_is); (case aGoods_tools => k_is); (case iGoods_tools => k_is); (case lGoods_tools => k_is); (case cGoods_tools => k_is); (case kGoods_tools => k_is); (case aGoods_stores => k_is); (case iGoods_stores => k_is); (case lGoods_stores => k_is); (case cGoods_stores => k_is); (case kGoods_stores => k_is); (case aGoods_stand => k_is); (case iGoods_stand => k_is); (case lGoods_stand => k_is); (case cGoods_stand => k_is); (case kGoods_stand => k_is)
#print axioms PySem.Challenge.cw_rerunyard_k23_whole_goods_stood_holds

