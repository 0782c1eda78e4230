import PyProof.Rows.All
import Wide.All
import OpenK.AllK
import Wide.FinOn
import Lean
import PyProof.EqAt
import PyProof.EqKinds
import PyProof.TupleCall
import PyProof.ExcAttrAll.ValueError
import PySem.Challenge.RW_rerunyard_k17_whole_taken_in_order
set_option genSizeOf false
set_option Elab.async false
set_option linter.all false
set_option maxRecDepth 100000
/-! THE HAND LAYER, for ints, bools, texts, own classes, LISTS and tuples (index, slices, in, append, pop ..), calls, loops. Paste it whole ahead of your own text; what your proof does not reach may be deleted. -/
namespace L2
open PySem PySem.Spec PyProof.Rows

abbrev Key := Sum Int Str
def keyIs : Key → Value → Bool
  | .inl k, v => Value.isInt k v
  | .inr x, v => Value.isStrOf x v
def keyH (w : World) : Key → Int
  | .inl k => hashInt k
  | .inr x => hashStr w x
theorem keyIs_shape : ∀ {k : Key} {v : Value}, keyIs k v = true → (∃ i t, k = Sum.inl i ∧ v = Value.int i t) ∨ (∃ x t, k = Sum.inr x ∧ v = Value.str x t)
  | .inl i, v, h => by
    obtain ⟨t, e⟩ := Value.isInt_shape (k := i) (v := v) h
    exact .inl ⟨i, t, rfl, e⟩
  | .inr x, v, h => by
    obtain ⟨t, e⟩ := Value.isStrOf_shape (x := x) (v := v) h
    exact .inr ⟨x, t, rfl, e⟩
theorem key_ll (a b : Int) : decide ((Sum.inl a : Key) = Sum.inl b) = (a == b) := by
  by_cases e : a = b
  · subst e; simp
  · have h : ¬ (Sum.inl a : Key) = Sum.inl b := fun q => e (Sum.inl.inj q)
    rw [decide_eq_false h]
    exact (beq_eq_false_iff_ne.mpr e).symm
theorem key_rr (a b : Str) : decide ((Sum.inr a : Key) = Sum.inr b) = decide (a = b) := by
  by_cases e : a = b
  · subst e; simp
  · have h : ¬ (Sum.inr a : Key) = Sum.inr b := fun q => e (Sum.inr.inj q)
    rw [decide_eq_false h, decide_eq_false e]
theorem key_lr (a : Int) (b : Str) : decide ((Sum.inl a : Key) = Sum.inr b) = false := decide_eq_false (fun q => nomatch q)
theorem key_rl (a : Str) (b : Int) : decide ((Sum.inr a : Key) = Sum.inl b) = false := decide_eq_false (fun q => nomatch q)

def mixKind (prog : Program) (w : World) : PySem.KeyKind prog w Key where
  is := keyIs
  hash := keyH w
  inj := fun v a b ha hb => by
    rcases keyIs_shape ha with ⟨i, t, rfl, rfl⟩ | ⟨x, t, rfl, rfl⟩
    · rcases keyIs_shape hb with ⟨j, u, rfl, e⟩ | ⟨y, u, rfl, e⟩
      · injection e with e1 _; rw [e1]
      · exact nomatch e
    · rcases keyIs_shape hb with ⟨j, u, rfl, e⟩ | ⟨y, u, rfl, e⟩
      · exact nomatch e
      · injection e with e1 _; rw [e1]
  byValue := fun k v h => by
    rcases keyIs_shape h with ⟨i, t, rfl, rfl⟩ | ⟨x, t, rfl, rfl⟩ <;> rfl
  pyHash := fun hv h => by
    rcases keyIs_shape hv with ⟨i, t, rfl, rfl⟩ | ⟨x, t, rfl, rfl⟩
    · exact wpAny_pyHash_int h
    · exact wpAny_pyHash_str h
  eqBool := fun hu hv h => by
    rcases keyIs_shape hu with ⟨i, t, rfl, rfl⟩ | ⟨x, t, rfl, rfl⟩
    · rcases keyIs_shape hv with ⟨j, u, rfl, rfl⟩ | ⟨y, u, rfl, rfl⟩
      · rw [key_ll] at h; exact wpAny_eqBool_int h
      · rw [key_lr] at h; exact SeqAt.EqAt.int_str i t y u _ _ _ _ h
    · rcases keyIs_shape hv with ⟨j, u, rfl, rfl⟩ | ⟨y, u, rfl, rfl⟩
      · rw [key_rl] at h; exact SeqAt.EqAt.str_int x t j u _ _ _ _ h
      · rw [key_rr] at h; exact wpAny_eqBool_str h
  «strs» := fun k x t v h => by
    rcases keyIs_shape h with ⟨i, u, rfl, e⟩ | ⟨y, u, rfl, e⟩
    · exact nomatch e
    · injection e with e1 _
      subst e1
      cases v <;> rfl

end L2

namespace L2
open PySem PySem.Spec PyProof.Rows

inductive V where
  | non | bl (b : Bool) | int (i : Int) | str (x : Str) | byt (b : Array UInt8) | flt (b : UInt64) | ref (a : Addr) | ty (n : String)
  deriving DecidableEq

def RelV : V → Value → Prop
  | .non, u => u = Value.none
  | .bl b, u => u = Value.bool b
  | .int i, u => ∃ t, u = Value.int i t
  | .str x, u => ∃ t, u = Value.str x t
  | .byt b, u => ∃ t, u = Value.bytes b t
  | .flt b, u => ∃ t, u = Value.float b t
  | .ref a, u => u = Value.ref a
  | .ty n, u => u = Value.type n

abbrev Vals : List V → List Value → Prop := Paired RelV
theorem Vals.length {xs : List V} {us : List Value} (r : Vals xs us) : xs.length = us.length := Paired.length r
theorem Vals.get : ∀ {xs : List V} {us : List Value} {i : Nat} {x : V}, Vals xs us → xs[i]? = some x → ∃ u, us[i]? = some u ∧ RelV x u
  | _, _, _, _, .nil, e => by simp at e
  | _, _, 0, _, .cons r _, e => by simp at e; subst e; exact ⟨_, rfl, r⟩
  | _, _, i + 1, x, .cons _ t, e => by
    obtain ⟨u, h1, h2⟩ := Vals.get (i := i) (x := x) t (by simpa using e)
    exact ⟨u, by simpa using h1, h2⟩
theorem Vals.set {x : V} {u : Value} (r : RelV x u) : ∀ {xs : List V} {us : List Value} (i : Nat), Vals xs us → Vals (xs.set i x) (us.set i u)
  | _, _, _, .nil => .nil
  | _, _, 0, .cons _ t => .cons r t
  | _, _, i + 1, .cons q t => .cons q (Vals.set r i t)
theorem Vals.append : ∀ {xs ys : List V} {us ws : List Value}, Vals xs us → Vals ys ws → Vals (xs ++ ys) (us ++ ws)
  | _, _, _, _, .nil, s => s
  | _, _, _, _, .cons r t, s => .cons r (Vals.append t s)
theorem Vals.take : ∀ {xs : List V} {us : List Value} (n : Nat), Vals xs us → Vals (xs.take n) (us.take n)
  | _, _, 0, _ => .nil
  | _, _, _ + 1, .nil => .nil
  | _, _, n + 1, .cons r t => .cons r (Vals.take n t)
theorem Vals.drop : ∀ {xs : List V} {us : List Value} (n : Nat), Vals xs us → Vals (xs.drop n) (us.drop n)
  | _, _, 0, r => r
  | _, _, _ + 1, .nil => .nil
  | _, _, n + 1, .cons _ t => Vals.drop n t
theorem Vals.none_of : ∀ {xs : List V} {us : List Value} {i : Nat}, Vals xs us → xs[i]? = none → us[i]? = none := fun {xs us i} r e => by
  have h1 := r.length
  have h2 : xs.length ≤ i := List.getElem?_eq_none_iff.mp e
  exact List.getElem?_eq_none_iff.mpr (by omega)

def RelO : Option V → Option Value → Prop
  | some v, some u => RelV v u
  | none, none => True
  | _, _ => False
def KV {κ : Type} : List (κ × V) → List (κ × Value) → Prop := Paired fun (p : κ × V) (q : κ × Value) => p.1 = q.1 ∧ RelV p.2 q.2

def kV : Key → V
  | .inl i => .int i
  | .inr x => .str x

inductive HO where
  /-- a list -/
  | lst (xs : List V)
  /-- a tuple (never changes) -/
  | tup (xs : List V)
  /-- a dict whose keys are ints and texts; one whose keys are tuples of ints and texts (the empty one is both) -/
  | dK (kvs : List (Key × V)) | dT (kvs : List (List Key × V))
  /-- a set of ints: its members, its size -/
  | set (S : Int → Bool) (n : Nat)
  /-- an instance of the class at C, its dict at dx, its attributes -/
  | ins (C dx : Addr) (fs : List (Str × V))
  /-- the dict of the instance at x -/
  | own (x : Addr)
  /-- the dict of an exception -/
  | xd (fs : List (Str × V))
  /-- a bound method, f of x -/
  | met (f x : Addr)
  /-- a range object lo, lo + 1, .. below hi -/
  | rng (lo hi : Int)
  /-- a thing that is known to the object (the script; a dict while a loop walks it): read, never written while it is so -/
  | frz (o : Obj) (u : HO)
  /-- a code object's table -/
  | tbl (ps : Array Value)
  /-- any other thing, by what is true of its one object (a def of one's own: SetO a S n := HO.ext fun h => ..) -/
  | ext (φ : Heap → Prop)

abbrev Hp := Addr → Option HO
def upd (H : Hp) (a : Addr) (o : HO) : Hp := fun b => if b = a then some o else H b
theorem upd_same {H : Hp} {a : Addr} {o : HO} : upd H a o a = some o := by unfold upd; rw [if_pos rfl]
theorem upd_ne {H : Hp} {a b : Addr} {o : HO} (h : b ≠ a) : upd H a o b = H b := by unfold upd; rw [if_neg h]
theorem ne_of_none {H : Hp} {a b : Addr} {o : HO} (h : H a = some o) (h' : H b = none) : a ≠ b := by
  intro e; subst e; rw [h] at h'; cases h'

section
variable (P : Program) (w : World)
def ObjOk (H : Hp) (h : Heap) (a : Addr) : HO → Prop
  | .lst xs => xs.length ≤ sizeLine ∧ ∃ (its : List Value) (n : Nat), Vals xs its ∧ h.get? a = some { cls := .type "list", data := .seq its.toArray n }
  | .tup xs => xs.length ≤ sizeLine ∧ ∃ its : List Value, Vals xs its ∧ IsTup h a its.toArray
  | .dK kvs => kvs.length ≤ sizeLine ∧ (a == sysModules) = false ∧ ∃ vs, KV kvs vs ∧ h.DictOf (mixKind P w) a vs
  | .dT kvs => kvs.length ≤ sizeLine ∧ (a == sysModules) = false ∧ ∃ xs : List (List Key × Addr × Value),
      Paired (fun (p : List Key × V) (q : List Key × Addr × Value) => p.1 = q.1 ∧ H q.2.1 = some (.tup (p.1.map kV)) ∧ RelV p.2 q.2.2) kvs xs ∧
      ∃ o es ep, h.get? a = some o ∧ o.ExactDict ∧ o.data = .dict es ep ∧ es.toList = xs.map (entryOfKey (tupleKind (mixKind P w))) ∧ (xs.map (·.1)).Nodup
  | .set S n => h.SetOf (intKind P w) a S n
  | .ins C dx fs => H dx = some (.own a) ∧ fs.length ≤ 1000 ∧ dx ≠ a ∧ h.get? a = some (PySem.W.instObj C dx) ∧
      ∃ mA, h.Ns1 dx mA ∧ (∀ f, RelO (fs.lookup f) (mA f)) ∧ PySem.Within mA (fs.map (·.1))
  | .own _ => ∃ o, h.get? a = some o
  | .xd fs => ∃ mA, h.Ns1 a mA ∧ ∀ f, RelO (fs.lookup f) (mA f)
  | .rng lo hi => ∃ t u v, h.get? a = some { cls := .type "range", data := .fields #[.int lo t, .int hi u, .int 1 v] }
  | .frz o u => h.get? a = some o ∧ ObjOk H h a u
  | .tbl ps => h.get? a = some { cls := .none, data := .fields ps }
  | .met f x => h.get? a = some (PySem.W.methodObj (.ref f) (.ref x))
  | .ext φ => φ h ∧ (∃ o, h.get? a = some o) ∧ ∀ h1 h2 : Heap, φ h1 → (∀ o, h1.get? a = some o → h2.get? a = some o) → φ h2
def HOk (H : Hp) (h : Heap) : Prop := ∀ a o, H a = some o → ObjOk P w H h a o
end

section
variable {P : Program} {w : World} {H H' : Hp} {h h' : Heap} {a : Addr} {o : HO}
theorem ObjOk.lt (x : ObjOk P w H h a o) : a < h.objs.size := by
  cases o with
  | lst xs => obtain ⟨_, _, _, _, e⟩ := x; exact Heap.lt_size e
  | tup xs => obtain ⟨_, _, _, p⟩ := x; exact p.lt
  | dK kvs => obtain ⟨_, _, _, _, o, _, _, e, _⟩ := x; exact Heap.lt_size e
  | dT kvs => obtain ⟨_, _, _, _, o, _, _, e, _⟩ := x; exact Heap.lt_size e
  | set S n => obtain ⟨o, _, _, _, e, _⟩ := x; exact Heap.lt_size e
  | ins C dx fs => obtain ⟨_, _, _, e, _⟩ := x; exact Heap.lt_size e
  | own y => obtain ⟨_, e⟩ := x; exact Heap.lt_size e
  | xd fs => obtain ⟨_, ⟨_, _, _, e, _⟩, _⟩ := x; exact Heap.lt_size e
  | rng lo hi => obtain ⟨_, _, _, e⟩ := x; exact Heap.lt_size e
  | frz ob u => obtain ⟨e, _⟩ := x; exact Heap.lt_size e
  | tbl ps => exact Heap.lt_size (show h.get? a = some _ from x)
  | met f y => exact Heap.lt_size (show h.get? a = some _ from x)
  | ext φ => obtain ⟨_, ⟨_, e⟩, _⟩ := x; exact Heap.lt_size e
theorem Paired.mapP {α β : Type} {F G : α → β → Prop} : ∀ {l₁ : List α} {l₂ : List β}, Paired F l₁ l₂ → (∀ a b, F a b → G a b) → Paired G l₁ l₂
  | _, _, .nil, _ => .nil
  | _, _, .cons r t, f => .cons (f _ _ r) (Paired.mapP t f)
theorem ObjOk.stay (x : ObjOk P w H h a o) (k : ∀ b u, (b = a ∨ H b = some (.own a)) → h.get? b = some u → h'.get? b = some u)
    (ho : ∀ b, H b = some (.own a) → H' b = some (.own a)) (ht : ∀ b xs, H b = some (.tup xs) → H' b = some (.tup xs)) : ObjOk P w H' h' a o := by
  induction o with
  | lst xs => obtain ⟨z, its, n, r, e⟩ := x; exact ⟨z, its, n, r, k _ _ (.inl rfl) e⟩
  | tup xs => obtain ⟨z, its, r, ob, e, c⟩ := x; exact ⟨z, its, r, ob, k _ _ (.inl rfl) e, c⟩
  | dK kvs => obtain ⟨z, y, vs, r, ob, es, ep, e, c⟩ := x; exact ⟨z, y, vs, r, ob, es, ep, k _ _ (.inl rfl) e, c⟩
  | dT kvs =>
    obtain ⟨z, y, xs, r, ob, es, ep, e, c⟩ := x
    exact ⟨z, y, xs, Paired.mapP r fun p q z => ⟨z.1, ht _ _ z.2.1, z.2.2⟩, ob, es, ep, k _ _ (.inl rfl) e, c⟩
  | set S n => obtain ⟨ob, es, ep, t, e, c⟩ := x; exact ⟨ob, es, ep, t, k _ _ (.inl rfl) e, c⟩
  | ins C dx fs =>
    obtain ⟨d, z, ne, e, mA, ⟨od, es, ep, e2, c⟩, r⟩ := x
    exact ⟨ho _ d, z, ne, k _ _ (.inl rfl) e, mA, ⟨od, es, ep, k _ _ (.inr d) e2, c⟩, r⟩
  | own y => obtain ⟨ob, e⟩ := x; exact ⟨ob, k _ _ (.inl rfl) e⟩
  | xd fs => obtain ⟨mA, ⟨od, es, ep, e, c⟩, r⟩ := x; exact ⟨mA, ⟨od, es, ep, k _ _ (.inl rfl) e, c⟩, r⟩
  | rng lo hi => obtain ⟨t, u, v, e⟩ := x; exact ⟨t, u, v, k _ _ (.inl rfl) e⟩
  | frz ob u ih => obtain ⟨e, q⟩ := x; exact ⟨k _ _ (.inl rfl) e, ih q⟩
  | tbl ps =>
    have e : h.get? a = some { cls := .none, data := .fields ps } := x
    show h'.get? a = some { cls := .none, data := .fields ps }
    exact k a _ (.inl rfl) e
  | met f y =>
    have e : h.get? a = some (PySem.W.methodObj (.ref f) (.ref y)) := x
    show h'.get? a = some (PySem.W.methodObj (.ref f) (.ref y))
    exact k a _ (.inl rfl) e
  | ext φ => obtain ⟨p, ⟨o, e⟩, st⟩ := x; exact ⟨st _ _ p fun o q => k _ _ (.inl rfl) q, ⟨o, k _ _ (.inl rfl) e⟩, st⟩
theorem HOk.lt (x : HOk P w H h) (e : H a = some o) : a < h.objs.size := (x a o e).lt
theorem HOk.fresh (x : HOk P w H h) (e : h.objs.size ≤ a) : H a = none := by
  cases q : H a with
  | none => rfl
  | some u => exact absurd (Nat.lt_of_lt_of_le (x.lt q) e) (Nat.lt_irrefl _)
theorem HOk.kept (x : HOk P w H h) (k : ∀ b u, h.get? b = some u → h'.get? b = some u) : HOk P w H h' := fun a o e =>
  (x a o e).stay (fun b u _ q => k b u q) (fun _ q => q) fun _ _ q => q
theorem HOk.laid (x : HOk P w H h) (k : ∀ b u, h.get? b = some u → h'.get? b = some u) (hp : h.objs.size ≤ a) (new : ObjOk P w (upd H a o) h' a o) : HOk P w (upd H a o) h' := fun b u e => by
  have hn := x.fresh hp
  by_cases hb : b = a
  · subst hb; rw [upd_same] at e; cases e; exact new
  · rw [upd_ne hb] at e
    exact (x b u e).stay (fun c v _ q => k c v q) (fun c q => by rw [upd_ne (ne_of_none q hn)]; exact q) fun c xs q => by rw [upd_ne (ne_of_none q hn)]; exact q
end

def Rd (H : Hp) (a : Addr) (u : HO) : Prop := H a = some u ∨ ∃ o, H a = some (.frz o u)
theorem Rd.of {H : Hp} {a : Addr} {u : HO} (h : H a = some u) : Rd H a u := .inl h
theorem Rd.ok {P : Program} {w : World} {H : Hp} {h : Heap} {a : Addr} {u : HO} (r : Rd H a u) (x : HOk P w H h) : ObjOk P w H h a u := by
  rcases r with r | ⟨o, r⟩
  · exact x a u r
  · obtain ⟨_, q⟩ := x a _ r
    exact q
def Mut : Option HO → Prop
  | some (.lst _) => True
  | some (.dK _) => True
  | some (.dT _) => True
  | some (.set _ _) => True
  | some (.ins _ _ _) => True
  | some (.ext _) => True
  | _ => False
section
variable {P : Program} {w : World} {H : Hp} {h h' : Heap} {x e : Addr} {o' : HO}
theorem HOk.write (ok : HOk P w H h) (mu : Mut (H x)) (he : e = x ∨ H e = some (.own x)) (k : ∀ b u, b ≠ e → h.get? b = some u → h'.get? b = some u) (heo : ∃ u, h'.get? e = some u)
    (new : ObjOk P w (upd H x o') h' x o') : HOk P w (upd H x o') h' := fun b u q => by
  have nown : ∀ c y, H c = some (.own y) → c ≠ x := fun c y r z => by subst z; rw [r] at mu; exact mu
  have ntup : ∀ c xs, H c = some (.tup xs) → c ≠ x := fun c xs r z => by subst z; rw [r] at mu; exact mu
  by_cases hb : b = x
  · subst hb; rw [upd_same] at q; cases q; exact new
  · rw [upd_ne hb] at q
    by_cases hbe : b = e
    · have q' : H b = some (.own x) := by
        rcases he with z | z
        · exact absurd (hbe.trans z) hb
        · rw [hbe]; exact z
      rw [q] at q'; cases q'
      obtain ⟨v, hv⟩ := heo
      exact ⟨v, by rw [hbe]; exact hv⟩
    · refine (ok b u q).stay (fun c v hc r => k c v ?_ r) (fun c r => by rw [upd_ne (nown c b r)]; exact r) fun c xs r => by rw [upd_ne (ntup c xs r)]; exact r
      rcases hc with rfl | hc
      · exact hbe
      · rintro rfl
        rcases he with z | z
        · exact nown c b hc z
        · rw [hc] at z; cases z; exact hb rfl
end

/-! ### kept unless tracked; of the frames at fs (the callers') the slots may change (an exception that passes writes there); of the records at ex (iterators) nothing is said -/
structure Un (fs ex : List Addr) (H H' : Hp) (h h' : Heap) : Prop where
  keep : ∀ b o, h.get? b = some o → H b = none → b ∉ fs → b ∉ ex → h'.get? b = some o
  slot : ∀ b o, h.get? b = some o → H b = none → b ∈ fs → b ∉ ex → ∃ sl, h'.get? b = some { o with slots := sl }
  free : ∀ b o, h.get? b = some o → H b = none → b ∉ ex → H' b = none
  there : ∀ b o, h.get? b = some o → b ∉ ex → ∃ o', h'.get? b = some o'
  tups : ∀ b xs, H b = some (.tup xs) → H' b = some (.tup xs)
  frzs : ∀ b o u, H b = some (.frz o u) → H' b = some (.frz o u)
  tbls : ∀ b ps, H b = some (.tbl ps) → ∃ more, H' b = some (.tbl (ps ++ more))
section
variable {fs fs' ex ex' : List Addr} {H H1 H2 : Hp} {h h1 h2 h' : Heap} {a x e : Addr} {o : HO}
theorem Un.any (u : Un fs ex H H1 h h1) {b : Addr} {ob : Obj} (q : h.get? b = some ob) (n : H b = none) (hx : b ∉ ex) : ∃ sl, h1.get? b = some { ob with slots := sl } := by
  by_cases hb : b ∈ fs
  · exact u.slot b ob q n hb hx
  · exact ⟨ob.slots, u.keep b ob q n hb hx⟩
theorem Un.trans (a : Un fs ex H H1 h h1) (b : Un fs ex H1 H2 h1 h2) : Un fs ex H H2 h h2 where
  keep := fun c ob q n hc hx => b.keep c ob (a.keep c ob q n hc hx) (a.free c ob q n hx) hc hx
  slot := fun c ob q n hc hx => by
    obtain ⟨sl, e1⟩ := a.slot c ob q n hc hx
    obtain ⟨sl', e2⟩ := b.slot c _ e1 (a.free c ob q n hx) hc hx
    exact ⟨sl', e2⟩
  free := fun c ob q n hx => by
    obtain ⟨o', e1⟩ := a.there c ob q hx
    exact b.free c o' e1 (a.free c ob q n hx) hx
  there := fun c ob q hx => by
    obtain ⟨o', e1⟩ := a.there c ob q hx
    exact b.there c o' e1 hx
  tups := fun c xs q => b.tups c xs (a.tups c xs q)
  frzs := fun c ob xs q => b.frzs c ob xs (a.frzs c ob xs q)
  tbls := fun c ps q => by
    obtain ⟨m1, e1⟩ := a.tbls c ps q
    obtain ⟨m2, e2⟩ := b.tbls c _ e1
    exact ⟨m1 ++ m2, by rw [e2, Array.append_assoc]⟩
theorem Un.kept (k : ∀ b u, h.get? b = some u → h'.get? b = some u) : Un fs ex H H h h' :=
  ⟨fun b ob q _ _ _ => k b ob q, fun b ob q _ _ _ => ⟨ob.slots, k b ob q⟩, fun _ _ _ n _ => n, fun b ob q _ => ⟨ob, k b ob q⟩, fun _ _ q => q, fun _ _ _ q => q, fun _ ps q => ⟨#[], by rw [q]; simp⟩⟩
theorem Un.refl : Un fs ex H H h h := Un.kept fun _ _ q => q
theorem Un.laid (k : ∀ b u, h.get? b = some u → h'.get? b = some u) (hp : h.objs.size ≤ a) (hn : H a = none) : Un fs ex H (upd H a o) h h' where
  keep := fun b u q _ _ _ => k b u q
  slot := fun b u q _ _ _ => ⟨u.slots, k b u q⟩
  free := fun b u q n _ => by rw [upd_ne (Nat.ne_of_lt (Nat.lt_of_lt_of_le (Heap.lt_size q) hp))]; exact n
  there := fun b u q _ => ⟨u, k b u q⟩
  tups := fun b xs q => by rw [upd_ne (ne_of_none q hn)]; exact q
  frzs := fun b u xs q => by rw [upd_ne (ne_of_none q hn)]; exact q
  tbls := fun b ps q => ⟨#[], by rw [upd_ne (ne_of_none q hn), q]; simp⟩
theorem Un.write (mu : Mut (H x)) (he : e = x ∨ H e = some (.own x)) (k : ∀ b u, b ≠ e → h.get? b = some u → h'.get? b = some u) (heo : ∃ u, h'.get? e = some u) : Un fs ex H (upd H x o) h h' := by
  have hx : ∀ b, H b = none → b ≠ x := fun b n z => by subst z; rw [n] at mu; exact mu
  have hb : ∀ b, H b = none → b ≠ e := fun b n z => by
    subst z
    rcases he with r | r
    · exact hx b n r
    · rw [n] at r; cases r
  have hm : ∀ b u, H b = some u → ¬ Mut (some u) → b ≠ x := fun b u q nm z => by subst z; rw [q] at mu; exact nm mu
  refine ⟨fun b u q n _ _ => k b u (hb b n) q, fun b u q n _ _ => ⟨u.slots, k b u (hb b n) q⟩, fun b u q n _ => by rw [upd_ne (hx b n)]; exact n, fun b u q _ => ?_,
    fun b xs q => by rw [upd_ne (hm b _ q fun z => z)]; exact q, fun b u xs q => by rw [upd_ne (hm b _ q fun z => z)]; exact q, fun b ps q => ⟨#[], by rw [upd_ne (hm b _ q fun z => z), q]; simp⟩⟩
  by_cases hbe : b = e
  · subst hbe; exact heo
  · exact ⟨u, k b u hbe q⟩
theorem Un.mono (u : Un fs ex H H1 h h1) (hs : ∀ b ∈ fs, b ∈ fs') (hx : ∀ b ∈ ex, b ∈ ex') : Un fs' ex' H H1 h h1 :=
  ⟨fun b ob q n hb he => u.keep b ob q n (fun z => hb (hs b z)) fun z => he (hx b z), fun _ _ q n _ he => u.any q n fun z => he (hx _ z), fun b ob q n he => u.free b ob q n fun z => he (hx b z), fun b ob q he => u.there b ob q fun z => he (hx b z), u.tups, u.frzs, u.tbls⟩
end

/-! ### the heap without what is tracked -/
def trk (h : Heap) (H : Hp) : List Addr := (List.range h.objs.size).filter fun a => (H a).isSome
def hidT (h : Heap) (H : Hp) : Heap := PySem.W.hideAll h (trk h H)
theorem hidT_size (h : Heap) (H : Hp) : (hidT h H).objs.size = h.objs.size := PySem.W.hideAll_size _ _
theorem hidT_get {h : Heap} {H : Hp} {b : Addr} {o : Obj} (e : h.get? b = some o) (n : H b = none) : (hidT h H).get? b = some o :=
  PySem.W.hideAll_get _ e fun hm => by
    have q : (H b).isSome = true := (List.mem_filter.mp hm).2
    rw [n] at q; simp at q
theorem of_hidT {h : Heap} {H : Hp} {b : Addr} {o : Obj} (e : (hidT h H).get? b = some o) : h.get? b = some o ∧ H b = none := by
  have e' : h.get? b = some o := PySem.W.of_hideAll (trk h H) e
  refine ⟨e', ?_⟩
  cases q : H b with
  | none => rfl
  | some x =>
    have hm : b ∈ trk h H := List.mem_filter.mpr ⟨List.mem_range.mpr (Heap.lt_size e'), by simp [q]⟩
    have z : (hidT h H).get? b = none := PySem.W.hideAll_none (trk h H) hm
    rw [z] at e; cases e

/-! ### OpenK's ledger, filled with every new object but one -/
def allNews (g h : Heap) (L : Addr) : List (Addr × Obj) := (List.range h.objs.size).filterMap fun a => if a = L ∨ (g.get? a).isSome = true then none else (h.get? a).map fun o => (a, o)
def rest (g h : Heap) (L d : Addr) : List (Addr × Obj) := (allNews g h L).filter fun p => decide (p.1 ≠ d)
end L2

namespace L2
open PySem PySem.Spec PyProof.Rows

structure Mod (K : PySem.W.Frag) (mg : Str → Option Value) (base : Heap) : Prop where
  kin : K.In base
  glob : base.Ns mainGlobals mg
  blt : ∃ mb, base.Ns builtinsNs mb ∧ ∀ x : Str, x ≠ "__name__" → mb x = bootBuiltins x
  nolimit : base.NoLimit

structure Cx where
  prog : Program
  w : World
  K : PySem.W.Frag
  mg : Str → Option Value
  base : Heap
  A : Around
  N : List Str
  s₀ : Shared
  H₀ : Hp
  env : Env
  outer : List Env
  stack : List Env
  ex : List Addr
  fn : Str → Bool
  calm : Bool
  pn : List (Addr × Obj)
  xe : Value → Shared → Prop
def frs (l : List Env) : List Addr := l.filterMap (·.frame)
abbrev Cx.fs (X : Cx) : List Addr := frs X.outer

def Vis (sc : Scope) (x : Str) : Prop := sc.names.lookup x = some .local ∨ sc.names.lookup x = some .cell ∨ sc.names.lookup x = some .free
def Loc (sc : Scope) (x : Str) : Prop := sc.names.lookup x = some .local ∨ sc.names.lookup x = some .cell
def Look (env : Env) (h : Heap) (m : Str → Option Value) (x : Str) (u : Value) : Prop :=
  (env.kindOf x = some .local ∧ m x = some u) ∨ ((env.kindOf x = some .cell ∨ env.kindOf x = some .free) ∧ ∃ c, env.cells.lookup x = some c ∧ h.IsCell c (some u))

structure Cx.Ok (X : Cx) : Prop where
  mod : Mod X.K X.mg X.base
  kind : X.env.scope.kind = .function
  glob : X.env.globals = mainGlobals
  blt : X.env.builtins = builtinsNs
  above : X.s₀.heap.objs.size ≤ X.env.locals
  inj : ∀ x y c, X.env.cells.lookup x = some c → X.env.cells.lookup y = some c → x = y
  has : ∀ x, (X.env.kindOf x = some .cell ∨ X.env.kindOf x = some .free) → ∃ c, X.env.cells.lookup x = some c
  cab : ∀ x c, X.fn x = true → X.env.cells.lookup x = some c → X.s₀.heap.objs.size ≤ c
  hd : X.calm = true → X.A.handled = none
  frames : X.A.frames = some X.stack
  stk : X.stack = X.outer ∨ (X.stack = X.env :: X.outer ∧ X.env.frame = some X.env.locals)
  exf : ∀ b ∈ X.ex, b ≠ X.env.locals ∧ ∀ x c, X.env.cells.lookup x = some c → c ≠ b
  bs : ∀ b o, X.base.get? b = some o → X.s₀.heap.get? b = some o ∧ X.H₀ b = none
  bsz : X.base.objs.size ≤ X.s₀.heap.objs.size
  noex : ∀ b o, X.base.get? b = some o → b ∉ X.ex
  exfs : ∀ b ∈ X.ex, b ∉ X.fs
  funs : X.s₀.heap.FunFrames X.base X.outer
  frf : ∀ b ∈ X.fs, X.H₀ b = none

structure Inv (X : Cx) (pins : List (Addr × Obj)) (σ : List (Option V)) (H : Hp) (s : Shared) : Prop where
  ok : X.Ok
  os : s.os = X.s₀.os
  bare : AllBare s.gens
  base : Un X.fs X.ex X.H₀ H X.s₀.heap s.heap
  loc : ∃ m, s.heap.Ns X.env.locals m ∧ ∀ (i : Nat) (x : Str) (v : V), X.N[i]? = some x → σ[i]? = some (some v) → Vis X.env.scope x → ∃ u, RelV v u ∧ Look X.env s.heap m x u
  cell : ∀ x c, X.env.cells.lookup x = some c → ∃ v, s.heap.IsCell c v
  free : H X.env.locals = none
  freeC : ∀ x c, X.env.cells.lookup x = some c → H c = none
  pin : ∀ p ∈ X.pn ++ pins, s.heap.get? p.1 = some p.2 ∧ H p.1 = none ∧ p.1 ≠ X.env.locals ∧ p.1 ∉ X.fs ∧ ∀ v, p.2.data ≠ .cell v
  hok : HOk X.prog X.w H s.heap
  len : σ.length = X.N.length

section
variable {X : Cx} {pins : List (Addr × Obj)} {σ : List (Option V)} {H H' : Hp} {s : Shared} {h' : Heap}

theorem Cx.Ok.nofr (ok : X.Ok) {b : Addr} {o : Obj} (e : X.base.get? b = some o) : b ∉ X.fs := fun hb => by
  have := (ok.funs.mem hb).1
  rw [e] at this; cases this
theorem Inv.bs (I : Inv X pins σ H s) : ∀ b o, X.base.get? b = some o → s.heap.get? b = some o ∧ H b = none := fun b o e =>
  ⟨I.base.keep b o (I.ok.bs b o e).1 (I.ok.bs b o e).2 (I.ok.nofr e) (I.ok.noex b o e), I.base.free b o (I.ok.bs b o e).1 (I.ok.bs b o e).2 (I.ok.noex b o e)⟩
theorem Inv.bk (I : Inv X pins σ H s) : ∀ b o, X.base.get? b = some o → s.heap.get? b = some o := fun b o e => (I.bs b o e).1
theorem Inv.mod (I : Inv X pins σ H s) : Mod X.K X.mg X.base := I.ok.mod
theorem Inv.kIn (I : Inv X pins σ H s) : X.K.In s.heap := I.ok.mod.kin.keeps I.bk
theorem Inv.nolimit (I : Inv X pins σ H s) : s.heap.NoLimit := I.ok.mod.nolimit.keeps I.bk
theorem Inv.fr (I : Inv X pins σ H s) : ∃ m, Fr X.base X.env.locals s.heap m :=
  let ⟨m, hn, _⟩ := I.loc
  ⟨m, hn, I.bk, Nat.le_trans I.ok.bsz I.ok.above⟩
theorem Inv.lt (I : Inv X pins σ H s) : X.env.locals < s.heap.objs.size := let ⟨_, hn, _⟩ := I.loc; hn.lt
theorem Inv.sz (I : Inv X pins σ H s) : X.s₀.heap.objs.size ≤ s.heap.objs.size := Nat.le_trans I.ok.above (Nat.le_of_lt I.lt)
theorem Inv.nofs (I : Inv X pins σ H s) {a : Addr} (h : s.heap.objs.size ≤ a) : a ∉ X.fs := fun hb => by
  obtain ⟨_, o, ho, _⟩ := I.ok.funs.mem hb
  exact absurd (Nat.lt_of_lt_of_le (Heap.lt_size ho) (Nat.le_trans I.sz h)) (Nat.lt_irrefl _)
theorem Inv.cne (I : Inv X pins σ H s) : ∀ x c, X.env.cells.lookup x = some c → c ≠ X.env.locals := fun x c e z => by
  obtain ⟨v, o, ho, hd⟩ := I.cell x c e
  obtain ⟨m, ⟨o', es, ep, ho', hd', _⟩, _⟩ := I.loc
  rw [z, ho'] at ho; cases ho; rw [hd'] at hd; cases hd
theorem Inv.funs (I : Inv X pins σ H s) : s.heap.FunFrames X.base X.outer := by
  have all : ∀ (l : List Env), (∀ b ∈ frs l, b ∈ X.fs) → X.s₀.heap.FunFrames X.base l → s.heap.FunFrames X.base l := by
    intro l
    induction l with
    | nil => intro _ _; trivial
    | cons env r ih =>
      intro hs hl
      obtain ⟨hk, ⟨L, o, hf, hn, ho, hd⟩, hr⟩ := hl
      have hL : L ∈ X.fs := hs L (by unfold frs; rw [List.filterMap_cons, hf]; exact List.mem_cons_self)
      obtain ⟨sl, e⟩ := I.base.slot L o ho (I.ok.frf L hL) hL fun z => I.ok.exfs L z hL
      exact ⟨hk, ⟨L, _, hf, hn, e, hd⟩, ih (fun b hb => hs b (by unfold frs; rw [List.filterMap_cons, hf]; exact List.mem_cons_of_mem _ hb)) hr⟩
  exact all X.outer (fun _ hb => hb) I.ok.funs

theorem Inv.stack (I : Inv X pins σ H s) : s.heap.FunFrames X.base X.stack := by
  rcases I.ok.stk with e | ⟨e, hf⟩
  · rw [e]; exact I.funs
  · rw [e]
    obtain ⟨m, hn, _⟩ := I.loc
    refine .cons (by rw [I.ok.kind]; decide) hf hn ?_ I.funs
    exact Heap.get?_none_of_le (Nat.le_trans I.ok.bsz I.ok.above)
theorem Inv.stkSub (I : Inv X pins σ H s) : ∀ b ∈ frs X.stack, b ∈ X.env.locals :: X.fs := fun b hb => by
  rcases I.ok.stk with e | ⟨e, hf⟩
  · rw [e] at hb; exact List.mem_cons_of_mem _ hb
  · rw [e] at hb
    unfold frs at hb
    rw [List.filterMap_cons, hf] at hb
    exact hb
theorem Inv.stkFree (I : Inv X pins σ H s) : ∀ b ∈ frs X.stack, H b = none := fun b hb => by
  rcases List.mem_cons.mp (I.stkSub b hb) with e | hb
  · rw [e]; exact I.free
  · obtain ⟨_, o, ho, _⟩ := I.ok.funs.mem hb
    exact I.base.free b o ho (I.ok.frf b hb) fun z => I.ok.exfs b z hb

theorem Inv.step {g' : Array GenState} {t' : Nat} {d' : Drawn} {ch : List Addr} (I : Inv X pins σ H s)
    (hch : ∀ b ∈ ch, (b ∈ X.ex ∨ X.s₀.heap.objs.size ≤ b) ∧ b ≠ X.env.locals ∧ (∀ x c, X.env.cells.lookup x = some c → c ≠ b) ∧ ∀ p ∈ X.pn ++ pins, p.1 ≠ b)
    (keep : ∀ b o, b ≠ X.env.locals → b ∉ X.fs → b ∉ ch → s.heap.get? b = some o → H b = none → h'.get? b = some o)
    (slot : ∀ b o, b ≠ X.env.locals → b ∈ X.fs → b ∉ ch → s.heap.get? b = some o → H b = none → ∃ sl, h'.get? b = some { o with slots := sl }) (free : ∀ b o, b ∉ ch → s.heap.get? b = some o → H b = none → H' b = none)
    (there : ∀ b o, b ∉ ch → s.heap.get? b = some o → ∃ o', h'.get? b = some o')
    (tups : ∀ b xs, H b = some (.tup xs) → H' b = some (.tup xs)) (frzs : ∀ b o u, H b = some (.frz o u) → H' b = some (.frz o u)) (tbls : ∀ b ps, H b = some (.tbl ps) → ∃ more, H' b = some (.tbl (ps ++ more)))
    (ns : ∀ m, s.heap.Ns X.env.locals m → h'.Ns X.env.locals m) (hok : HOk X.prog X.w H' h') (hg : AllBare g') :
    Inv X pins σ H' { s with heap := h', gens := g', drawn := d', toks := t' } := by
  have neL : ∀ b o, X.s₀.heap.get? b = some o → b ≠ X.env.locals := fun b o e => Nat.ne_of_lt (Nat.lt_of_lt_of_le (Heap.lt_size e) I.ok.above)
  have neC : ∀ b o, X.s₀.heap.get? b = some o → b ∉ X.ex → b ∉ ch := fun b o e hx hb => by
    rcases (hch b hb).1 with z | z
    · exact hx z
    · exact absurd (Nat.lt_of_lt_of_le (Heap.lt_size e) z) (Nat.lt_irrefl _)
  have cellK : ∀ x c, X.env.cells.lookup x = some c → ∀ v, s.heap.IsCell c v → h'.IsCell c v := fun x c e v ⟨o, ho, hd⟩ => by
    have nch : c ∉ ch := fun z => (hch c z).2.2.1 x c e rfl
    by_cases hc : c ∈ X.fs
    · obtain ⟨sl, q⟩ := slot c o (I.cne x c e) hc nch ho (I.freeC x c e)
      exact ⟨_, q, hd⟩
    · exact ⟨o, keep c o (I.cne x c e) hc nch ho (I.freeC x c e), hd⟩
  refine ⟨I.ok, I.os, hg, ⟨fun b o e n hb hx => ?_, fun b o e n hb hx => ?_, fun b o e n hx => ?_, fun b o e hx => ?_, fun b xs e => tups b xs (I.base.tups b xs e), fun b o xs e => frzs b o xs (I.base.frzs b o xs e), fun b ps e => ?_⟩, ?_, fun x c e => ?_, ?_, fun x c e => ?_, fun p hp => ?_, hok, I.len⟩
  · exact keep b o (neL b o e) hb (neC b o e hx) (I.base.keep b o e n hb hx) (I.base.free b o e n hx)
  · obtain ⟨sl, e1⟩ := I.base.slot b o e n hb hx
    obtain ⟨sl', e2⟩ := slot b _ (neL b o e) hb (neC b o e hx) e1 (I.base.free b o e n hx)
    exact ⟨sl', e2⟩
  · obtain ⟨o', e1⟩ := I.base.there b o e hx
    exact free b o' (neC b o e hx) e1 (I.base.free b o e n hx)
  · obtain ⟨o', e1⟩ := I.base.there b o e hx
    exact there b o' (neC b o e hx) e1
  · obtain ⟨m1, e1⟩ := I.base.tbls b ps e
    obtain ⟨m2, e2⟩ := tbls b _ e1
    exact ⟨m1 ++ m2, by rw [e2, Array.append_assoc]⟩
  · obtain ⟨m, hn, hl⟩ := I.loc
    refine ⟨m, ns m hn, fun i x v e1 e2 e3 => ?_⟩
    obtain ⟨u, r, l⟩ := hl i x v e1 e2 e3
    refine ⟨u, r, ?_⟩
    rcases l with l | ⟨k, c, e, z⟩
    · exact .inl l
    · exact .inr ⟨k, c, e, cellK x c e _ z⟩
  · obtain ⟨v, z⟩ := I.cell x c e
    exact ⟨v, cellK x c e v z⟩
  · obtain ⟨m, ⟨o, _, _, ho, _⟩, _⟩ := I.loc
    exact free _ o (fun z => (hch _ z).2.1 rfl) ho I.free
  · obtain ⟨v, o, ho, hd⟩ := I.cell x c e
    exact free c o (fun z => (hch c z).2.2.1 x c e rfl) ho (I.freeC x c e)
  · obtain ⟨e, n, ne, nf, d⟩ := I.pin p hp
    have nch : p.1 ∉ ch := fun z => (hch p.1 z).2.2.2 p hp rfl
    exact ⟨keep p.1 p.2 ne nf nch e n, free p.1 p.2 nch e n, ne, nf, d⟩
theorem Inv.un {t' : Nat} (I : Inv X pins σ H s) (u : Un X.fs [] H H' s.heap h') (hok : HOk X.prog X.w H' h') : Inv X pins σ H' { s with heap := h', toks := t' } := by
  obtain ⟨m, ⟨o, es, ep, ho, r⟩, _⟩ := id I.loc
  obtain ⟨sl, hL⟩ := u.any ho I.free (by simp)
  exact I.step (g' := s.gens) (d' := s.drawn) (ch := []) (fun _ z => nomatch z) (fun b o _ hb _ e n => u.keep b o e n hb (by simp)) (fun b o _ hb _ e n => u.slot b o e n hb (by simp)) (fun b o _ e n => u.free b o e n (by simp)) (fun b o _ e => u.there b o e (by simp)) u.tups u.frzs u.tbls (fun m' hm => by
    obtain ⟨o', es', ep', ho', r'⟩ := hm
    rw [ho] at ho'; cases ho'
    exact ⟨_, es', ep', hL, r'⟩) hok I.bare
theorem Inv.call {g' : Array GenState} {t' : Nat} {d' : Drawn} {ch : List Addr} (I : Inv X pins σ H s) (u : Un (frs X.stack) ch H H' s.heap h') (hok : HOk X.prog X.w H' h') (hg : AllBare g')
    (hch : ∀ b ∈ ch, (b ∈ X.ex ∨ X.s₀.heap.objs.size ≤ b) ∧ b ≠ X.env.locals ∧ (∀ x c, X.env.cells.lookup x = some c → c ≠ b) ∧ ∀ p ∈ X.pn ++ pins, p.1 ≠ b) :
    Inv X pins σ H' { s with heap := h', gens := g', drawn := d', toks := t' } := by
  obtain ⟨m, ⟨o, es, ep, ho, r⟩, _⟩ := id I.loc
  obtain ⟨sl, hL⟩ := u.any ho I.free fun z => (hch _ z).2.1 rfl
  exact I.step (ch := ch) hch (fun b o hL hb hc e n => u.keep b o e n (fun z => (List.mem_cons.mp (I.stkSub b z)).elim hL hb) hc) (fun b o _ _ hc e n => u.any e n hc) (fun b o hc e n => u.free b o e n hc) (fun b o hc e => u.there b o e hc) u.tups u.frzs u.tbls (fun m' hm => by
    obtain ⟨o', es', ep', ho', r'⟩ := hm
    rw [ho] at ho'; cases ho'
    exact ⟨_, es', ep', hL, r'⟩) hok hg
theorem Inv.turned {t' : Nat} {it : Addr} (I : Inv X pins σ H s) (k : ∀ b o, b ≠ it → s.heap.get? b = some o → h'.get? b = some o) (hn : H it = none) (hL : it ≠ X.env.locals)
    (h1 : it ∈ X.ex ∨ X.s₀.heap.objs.size ≤ it) (h2 : ∀ x c, X.env.cells.lookup x = some c → c ≠ it) (h3 : ∀ p ∈ X.pn ++ pins, p.1 ≠ it) : Inv X pins σ H { s with heap := h', toks := t' } := by
  have nit : ∀ b u, H b = some u → b ≠ it := fun b u e z => by rw [z, hn] at e; cases e
  refine I.step (g' := s.gens) (d' := s.drawn) (ch := [it]) (fun b hb => ?_) (fun b o _ _ hc e _ => k b o (fun z => hc (by simp [z])) e) (fun b o _ _ hc e _ => ⟨o.slots, k b o (fun z => hc (by simp [z])) e⟩) (fun _ _ _ _ n => n)
    (fun b o hc e => ⟨o, k b o (fun z => hc (by simp [z])) e⟩) (fun _ _ e => e) (fun _ _ _ e => e) (fun b ps e => ⟨#[], by rw [e]; simp⟩) (fun m hm => ?_) (fun b u e => ?_) I.bare
  · have e : b = it := by simpa using hb
    subst e
    exact ⟨h1, hL, h2, h3⟩
  · obtain ⟨o, es, ep, ho, r⟩ := hm
    exact ⟨o, es, ep, k _ o (Ne.symm hL) ho, r⟩
  · refine (I.hok b u e).stay (fun c v hc q => k c v ?_ q) (fun _ q => q) fun _ _ q => q
    rcases hc with z | z
    · rw [z]; exact nit b u e
    · exact nit c _ z
theorem Inv.tok (I : Inv X pins σ H s) (t : Nat) : Inv X pins σ H { s with toks := t } := I.un (h' := s.heap) (t' := t) Un.refl I.hok
theorem Inv.kept {t' : Nat} (I : Inv X pins σ H s) (k : ∀ b u, s.heap.get? b = some u → h'.get? b = some u) : Inv X pins σ H { s with heap := h', toks := t' } := I.un (Un.kept k) (I.hok.kept k)
theorem Inv.laid {a : Addr} {o : HO} {t' : Nat} (I : Inv X pins σ H s) (k : ∀ b u, s.heap.get? b = some u → h'.get? b = some u) (hp : s.heap.objs.size ≤ a) (new : ObjOk X.prog X.w (upd H a o) h' a o) :
    Inv X pins σ (upd H a o) { s with heap := h', toks := t' } := I.un (Un.laid k hp (I.hok.fresh hp)) (I.hok.laid k hp new)
theorem Inv.write {x e : Addr} {o : HO} {t' : Nat} (I : Inv X pins σ H s) (mu : Mut (H x)) (he : e = x ∨ H e = some (.own x)) (k : ∀ b u, b ≠ e → s.heap.get? b = some u → h'.get? b = some u) (heo : ∃ u, h'.get? e = some u)
    (new : ObjOk X.prog X.w (upd H x o) h' x o) : Inv X pins σ (upd H x o) { s with heap := h', toks := t' } := I.un (Un.write mu he k heo) (I.hok.write mu he k heo new)
theorem Inv.pins_of {pins' : List (Addr × Obj)} (I : Inv X pins σ H s) (h : ∀ p ∈ pins', s.heap.get? p.1 = some p.2 ∧ H p.1 = none ∧ p.1 ≠ X.env.locals ∧ p.1 ∉ X.fs ∧ ∀ v, p.2.data ≠ .cell v) : Inv X pins' σ H s :=
  ⟨I.ok, I.os, I.bare, I.base, I.loc, I.cell, I.free, I.freeC, fun p hp => (List.mem_append.mp hp).elim (fun z => I.pin p (List.mem_append_left _ z)) (h p), I.hok, I.len⟩

theorem nodup_ix {N : List Str} (hN : N.Nodup) {i j : Nat} {x : Str} (a : N[i]? = some x) (b : N[j]? = some x) : i = j := by
  obtain ⟨h1, e1⟩ := List.getElem?_eq_some_iff.mp a
  obtain ⟨h2, e2⟩ := List.getElem?_eq_some_iff.mp b
  exact (List.getElem_inj hN).mp (e1.trans e2.symm)

theorem store_ok2 {M : Model} {A : Around} {E : Value → Shared → Prop} {i : Nat} {x : Str} {v : V} {u : Value} {Q : Unit → Shared → Prop} (I : Inv X pins σ H s) (hN : X.N.Nodup) (hi : X.N[i]? = some x) (hx : Loc X.env.scope x) (r : RelV v u)
    (h : ∀ s', Inv X pins (σ.set i (some v)) H s' → (∃ a, Heap.SameBut a s.heap s'.heap ∧ (a = X.env.locals ∨ X.env.cells.lookup x = some a)) → Q () s') (hf : X.fn x = true ∨ X.env.scope.names.lookup x = some .local := by first | exact .inl rfl | exact .inr rfl | assumption) : wpAny M A (storeName X.env x u) Q E s := by
  obtain ⟨m, hn, hl⟩ := id I.loc
  have hcls : (X.env.scope.kind == .class || (X.env.scope.kind == .module && X.env.locals != X.env.globals)) = false := by rw [I.ok.kind]; rfl
  have hiσ : i < σ.length := by rw [I.len]; exact (List.getElem?_eq_some_iff.mp hi).1
  have cne := I.cne
  have tracked : ∀ {a : Addr} {h' : Heap}, (∃ o, s.heap.get? a = some o ∧ H a = none) → Heap.SameBut a s.heap h' → HOk X.prog X.w H h' := fun {a h'} ha hs b ob e => by
    obtain ⟨_, _, hfree⟩ := ha
    refine (I.hok b ob e).stay (fun c w' hc q => (hs.2 c ?_).trans q) (fun _ q => q) fun _ _ q => q
    rintro rfl
    rcases hc with rfl | hc
    · rw [hfree] at e; cases e
    · rw [hfree] at hc; cases hc
  rcases hx with hk | hk
  · refine wpAny_storeName_local hk hn (fun h' hn' hs => ?_) hcls
    obtain ⟨oL, _, _, hoL, _⟩ := id hn
    refine h _ ⟨I.ok, I.os, I.bare, ⟨fun b o e n hb hx => ?_, fun b o e n hb hx => ?_, I.base.free, fun b o e hx => ?_, I.base.tups, I.base.frzs, I.base.tbls⟩, ⟨_, hn', fun j y v' e1 e2 e3 => ?_⟩, fun y c e => ?_, I.free, I.freeC, fun p hp => ?_, tracked ⟨oL, hoL, I.free⟩ hs, by simpa using I.len⟩ ⟨_, hs, .inl rfl⟩
    · exact (hs.2 b (Nat.ne_of_lt (Nat.lt_of_lt_of_le (Heap.lt_size e) I.ok.above))).trans (I.base.keep b o e n hb hx)
    · obtain ⟨sl, e1⟩ := I.base.slot b o e n hb hx
      exact ⟨sl, (hs.2 b (Nat.ne_of_lt (Nat.lt_of_lt_of_le (Heap.lt_size e) I.ok.above))).trans e1⟩
    · obtain ⟨o', e1⟩ := I.base.there b o e hx
      exact ⟨o', (hs.2 b (Nat.ne_of_lt (Nat.lt_of_lt_of_le (Heap.lt_size e) I.ok.above))).trans e1⟩
    · by_cases hj : j = i
      · subst hj
        rw [hi] at e1; cases e1
        rw [List.getElem?_set_self hiσ] at e2
        cases e2
        exact ⟨u, r, .inl ⟨hk, by simp⟩⟩
      · rw [List.getElem?_set_ne (Ne.symm hj)] at e2
        obtain ⟨u', r', q⟩ := hl j y v' e1 e2 e3
        refine ⟨u', r', ?_⟩
        rcases q with ⟨k, e⟩ | ⟨k, c, e, z⟩
        · refine .inl ⟨k, ?_⟩
          have : y ≠ x := fun e => hj (nodup_ix hN e1 (e ▸ hi))
          simp [this, e]
        · exact .inr ⟨k, c, e, z.sameBut hs (cne y c e)⟩
    · obtain ⟨w', z⟩ := I.cell y c e
      exact ⟨w', z.sameBut hs (cne y c e)⟩
    · obtain ⟨e, n, ne, nf, d⟩ := I.pin p hp
      exact ⟨(hs.2 p.1 ne).trans e, n, ne, nf, d⟩
  · have hfn : X.fn x = true := by
      rcases hf with z | z
      · exact z
      · rw [z] at hk; cases hk
    obtain ⟨c, hc⟩ := I.ok.has x (.inl hk)
    obtain ⟨w', z⟩ := I.cell x c hc
    refine wpAny_storeName_cell I.ok.kind hk hc z (fun h' hc' hs => ?_)
    obtain ⟨oc, hoc, hocd⟩ := id z
    refine h { s with heap := h' } ⟨I.ok, I.os, I.bare, ⟨fun b o e n hb hx => ?_, fun b o e n hb hx => ?_, I.base.free, fun b o e hx => ?_, I.base.tups, I.base.frzs, I.base.tbls⟩, ⟨m, hn.sameBut hs (Ne.symm (cne x c hc)), fun j y v' e1 e2 e3 => ?_⟩, fun y c' e => ?_, I.free, I.freeC, fun p hp => ?_, tracked ⟨oc, hoc, I.freeC x c hc⟩ hs, by simpa using I.len⟩ ⟨c, hs, .inr hc⟩
    · exact (hs.2 b (Nat.ne_of_lt (Nat.lt_of_lt_of_le (Heap.lt_size e) (I.ok.cab x c hfn hc)))).trans (I.base.keep b o e n hb hx)
    · obtain ⟨sl, e1⟩ := I.base.slot b o e n hb hx
      exact ⟨sl, (hs.2 b (Nat.ne_of_lt (Nat.lt_of_lt_of_le (Heap.lt_size e) (I.ok.cab x c hfn hc)))).trans e1⟩
    · obtain ⟨o', e1⟩ := I.base.there b o e hx
      exact ⟨o', (hs.2 b (Nat.ne_of_lt (Nat.lt_of_lt_of_le (Heap.lt_size e) (I.ok.cab x c hfn hc)))).trans e1⟩
    · by_cases hj : j = i
      · subst hj
        rw [hi] at e1; cases e1
        rw [List.getElem?_set_self hiσ] at e2
        cases e2
        exact ⟨u, r, .inr ⟨.inl hk, c, hc, hc'⟩⟩
      · rw [List.getElem?_set_ne (Ne.symm hj)] at e2
        obtain ⟨u', r', q⟩ := hl j y v' e1 e2 e3
        refine ⟨u', r', ?_⟩
        rcases q with q | ⟨k, c', e, z'⟩
        · exact .inl q
        · refine .inr ⟨k, c', e, z'.sameBut hs ?_⟩
          rintro rfl
          exact hj (nodup_ix hN e1 (I.ok.inj _ _ _ e hc ▸ hi))
    · by_cases hcc : c' = c
      · subst hcc; exact ⟨_, hc'⟩
      · obtain ⟨w2, z2⟩ := I.cell y c' e
        exact ⟨w2, z2.sameBut hs hcc⟩
    · obtain ⟨e, n, ne, nf, d⟩ := I.pin p hp
      refine ⟨(hs.2 p.1 ?_).trans e, n, ne, nf, d⟩
      intro q
      rw [q, hoc] at e
      have q' : oc = p.2 := Option.some.inj e
      exact d w' (by rw [← q']; exact hocd)
theorem store_ok {M : Model} {A : Around} {E : Value → Shared → Prop} {i : Nat} {x : Str} {v : V} {u : Value} {Q : Unit → Shared → Prop} (I : Inv X pins σ H s) (hN : X.N.Nodup) (hi : X.N[i]? = some x) (hx : Loc X.env.scope x) (r : RelV v u)
    (h : ∀ s', Inv X pins (σ.set i (some v)) H s' → Q () s') (hf : X.fn x = true ∨ X.env.scope.names.lookup x = some .local := by first | exact .inl rfl | exact .inr rfl | assumption) : wpAny M A (storeName X.env x u) Q E s :=
  store_ok2 I hN hi hx r (fun s' I' _ => h s' I') hf
theorem Inv.call' {s' : Shared} {ch : List Addr} (I : Inv X pins σ H s) (ho : s'.os = s.os) (u : Un (frs X.stack) ch H H' s.heap s'.heap) (hok : HOk X.prog X.w H' s'.heap) (hg : AllBare s'.gens)
    (hch : ∀ b ∈ ch, (b ∈ X.ex ∨ X.s₀.heap.objs.size ≤ b) ∧ b ≠ X.env.locals ∧ (∀ x c, X.env.cells.lookup x = some c → c ≠ b) ∧ ∀ p ∈ X.pn ++ pins, p.1 ≠ b) : Inv X pins σ H' s' := by
  obtain ⟨h', g', d', t', o'⟩ := s'
  have e : o' = s.os := ho
  subst e
  exact I.call (g' := g') (t' := t') (d' := d') u hok hg hch
end

/-! ### the judgements -/
abbrev XK := Value → Option Addr → Hp → Prop
abbrev St := List (Option V)
abbrev VK := V → Hp → Prop
abbrev TE := St → Hp → VK → Prop
abbrev TT := St → Hp → (Bool → Hp → Prop) → Prop
abbrev TA := St → Hp → (List V → Hp → Prop) → Prop
structure Ends where
  nx : St → Hp → Prop
  rt : VK
  bk : St → Hp → Prop := fun _ _ => False
  ct : St → Hp → Prop := fun _ _ => False
abbrev TS := Ends → St → Hp → Prop

def EP (X : Cx) (pins : List (Addr × Obj)) (σ : St) (Q : VK) (u : Value) (s' : Shared) : Prop := ∃ v H', Inv X pins σ H' s' ∧ RelV v u ∧ Q v H'
def TP (X : Cx) (pins : List (Addr × Obj)) (σ : St) (Q : Bool → Hp → Prop) (b : Bool) (s' : Shared) : Prop := ∃ H', Inv X pins σ H' s' ∧ Q b H'
def AP (X : Cx) (pins : List (Addr × Obj)) (σ : St) (Q : List V → Hp → Prop) (us : List Value) (s' : Shared) : Prop := ∃ vs H', Inv X pins σ H' s' ∧ Vals vs us ∧ Q vs H'
def SP (X : Cx) (pins : List (Addr × Obj)) (D : Ends) (f : Flow) (s' : Shared) : Prop :=
  match f with
  | .next => ∃ σ' H', Inv X pins σ' H' s' ∧ D.nx σ' H'
  | .brk => ∃ σ' H', Inv X pins σ' H' s' ∧ D.bk σ' H'
  | .cont => ∃ σ' H', Inv X pins σ' H' s' ∧ D.ct σ' H'
  | .ret u => ∃ v σ' H', Inv X pins σ' H' s' ∧ RelV v u ∧ D.rt v H'

def PE (X : Cx) (e : Expr) (t : TE) : Prop :=
  ∀ (pins : List (Addr × Obj)) (s : Shared) (σ : St) (H : Hp) (Q : VK), Inv X pins σ H s → t σ H Q → wpAny (model X.prog X.w) X.A (eval e X.env) (EP X pins σ Q) X.xe s
def PT (X : Cx) (e : Expr) (t : TT) : Prop :=
  ∀ (pins : List (Addr × Obj)) (s : Shared) (σ : St) (H : Hp) (Q : Bool → Hp → Prop), Inv X pins σ H s → t σ H Q → wpAny (model X.prog X.w) X.A (isTrue e X.env (eval e X.env)) (TP X pins σ Q) X.xe s
def PW (X : Cx) (e : Expr) (t : TT) : Prop :=
  ∀ (whole : Sem Value) (pins : List (Addr × Obj)) (s : Shared) (σ : St) (H : Hp) (Q : Bool → Hp → Prop), Inv X pins σ H s → t σ H Q → wpAny (model X.prog X.w) X.A (isTrue e X.env whole) (TP X pins σ Q) X.xe s
theorem PW.pt {X : Cx} {e : Expr} {t : TT} (h : PW X e t) : PT X e t := h _
def PA (X : Cx) (es : List Expr) (t : TA) : Prop :=
  ∀ (pos : Pos) (pins : List (Addr × Obj)) (s : Shared) (σ : St) (H : Hp) (Q : List V → Hp → Prop), Inv X pins σ H s → t σ H Q → wpAny (model X.prog X.w) X.A (spliced (backTo pos (starEach es X.env))) (AP X pins σ Q) X.xe s
def PS (X : Cx) (st : Stmt) (t : TS) : Prop :=
  ∀ (pins : List (Addr × Obj)) (s : Shared) (σ : St) (H : Hp) (D : Ends), Inv X pins σ H s → t D σ H → wpAny (model X.prog X.w) X.A (exec st X.env) (SP X pins D) X.xe s
def PSs (X : Cx) (st : List Stmt) (t : TS) : Prop :=
  ∀ (pins : List (Addr × Obj)) (s : Shared) (σ : St) (H : Hp) (D : Ends), Inv X pins σ H s → t D σ H → wpAny (model X.prog X.w) X.A (execs st X.env) (SP X pins D) X.xe s
theorem thn {α : Type} {t : Sem α} {Q Q' : α → Shared → Prop} {M : Model} {A : Around} {E : Value → Shared → Prop} {s : Shared} (h : wpAny M A t Q E s) (hQ : ∀ a s, Q a s → Q' a s) : wpAny M A t Q' E s := wpAny_mono h hQ fun _ _ x => x
end L2

namespace L2
open PySem PySem.Spec PyProof.Rows
section
variable {X : Cx}

theorem bin {a b : Expr} {ta tb : TE} (ha : PE X a ta) (hb : PE X b tb) {pins : List (Addr × Obj)} {s : Shared} {σ : St} {H : Hp} {R : V → V → Hp → Prop} (I : Inv X pins σ H s) (h : ta σ H fun x H1 => tb σ H1 fun y H2 => R x y H2)
    {α : Type} {Q : α → Shared → Prop} {f : Value → Value → Sem α}
    (hf : ∀ v u s2 x y H2, Inv X pins σ H2 s2 → RelV x v → RelV y u → R x y H2 → wpAny (model X.prog X.w) X.A (f v u) Q X.xe s2) :
    wpAny (model X.prog X.w) X.A (eval a X.env) (fun v s₁ => wpAny (model X.prog X.w) X.A (eval b X.env) (fun u s₂ => wpAny (model X.prog X.w) X.A (f v u) Q X.xe s₂) X.xe s₁) X.xe s := by
  refine thn (ha pins s σ H _ I h) fun v s1 ⟨x, H1, I1, r1, q1⟩ => ?_
  refine thn (hb pins s1 σ H1 _ I1 q1) fun u s2 ⟨y, H2, I2, r2, q2⟩ => ?_
  exact hf v u s2 x y H2 I2 r1 r2 q2

/-! ### names and constants -/
def tVar (i : Nat) : TE := fun σ H Q => ∃ v, σ[i]? = some (some v) ∧ Q v H
def tC (v : V) : TE := fun _ H Q => Q v H
theorem pe_var {i : Nat} {x : Str} {pos : Pos} (hN : X.N[i]? = some x) (hv : Vis X.env.scope x) (hd : (x == ("__debug__" : Str)) = false := by decide) (hcd : (x == ("__classdict__" : Str)) = false := by decide) : PE X (.Name x pos) (tVar i) := by
  intro pins s σ H Q I h
  obtain ⟨v, e, h⟩ := h
  obtain ⟨m, hn, hl⟩ := I.loc
  obtain ⟨u, r, l⟩ := hl i x v hN e hv
  have fin : EP X pins σ Q u s := ⟨v, H, I, r, h⟩
  rcases l with ⟨hk, hm⟩ | ⟨hk, c, hc, hcell⟩
  · exact wpAny_Name (wpAny_loadName_local I.ok.kind hk hn hm fin) hd
  · rcases hk with hk | hk
    · exact wpAny_Name (wpAny_loadName_cell I.ok.kind hk hc hcell fin) hd
    · exact wpAny_Name (wpAny_loadName_free I.ok.kind hk hc hcell fin hcd) hd
theorem pe_int {i j pos} : PE X (.Constant (.int i) j pos) (tC (.int i)) := fun _ _ _ H _ I h => wpAny_Constant_int ⟨.int i, H, I.tok _, ⟨_, rfl⟩, h⟩
theorem pe_bl {b j pos} : PE X (.Constant (.bool b) j pos) (tC (.bl b)) := fun _ _ _ H _ I h => Constant_bool ⟨.bl b, H, I, rfl, h⟩
theorem pe_non {j pos} : PE X (.Constant .none j pos) (tC .non) := fun _ _ _ H _ I h => Constant_none ⟨.non, H, I, rfl, h⟩
def Gl (X : Cx) (x : Str) : Prop := X.env.kindOf x = some .globalImplicit
theorem ld_glob {E : Value → Shared → Prop} {pins : List (Addr × Obj)} {s : Shared} {σ : St} {H : Hp} {x : Str} {u : Value} {pos : Pos} {Q : Value → Shared → Prop} (I : Inv X pins σ H s) (hg : Gl X x) (hm : X.mg x = some u) (h : Q u s)
    (hd : (x == ("__debug__" : Str)) = false := by decide) : wpAny (model X.prog X.w) X.A (eval (.Name x pos) X.env) Q E s :=
  Calls.Name_function_global I.ok.kind hg (Calls.loadGlobal_global (by rw [I.ok.glob]; exact I.mod.glob.keeps I.bk) hm h) hd
theorem ld_blt {E : Value → Shared → Prop} {pins : List (Addr × Obj)} {s : Shared} {σ : St} {H : Hp} {x : Str} {u : Value} {pos : Pos} {Q : Value → Shared → Prop} (I : Inv X pins σ H s) (hg : Gl X x) (hm : X.mg x = none) (hv : bootBuiltins x = some u) (h : Q u s)
    (hn : x ≠ "__name__" := by decide) (hd : (x == ("__debug__" : Str)) = false := by decide) : wpAny (model X.prog X.w) X.A (eval (.Name x pos) X.env) Q E s := by
  obtain ⟨mb, h1, h2⟩ := I.mod.blt
  exact Calls.Name_function_global I.ok.kind hg (Calls.loadGlobal_builtin (by rw [I.ok.glob]; exact I.mod.glob.keeps I.bk) hm (by rw [I.ok.blt]; exact h1.keeps I.bk) ((h2 x hn).trans hv) h) hd
/-! ### arithmetic -/
variable {a b : Expr} {ta tb : TE} {pos : Pos}
/-! ### comparisons -/
def PC (X : Cx) (op : CmpOp) (a b : Expr) (t : TE) : Prop :=
  ∀ (pins : List (Addr × Obj)) (s : Shared) (σ : St) (H : Hp) (Q : VK), Inv X pins σ H s → t σ H Q →
    wpAny (model X.prog X.w) X.A (eval a X.env) (fun v s₁ => wpAny (model X.prog X.w) X.A (eval b X.env) (fun u s₂ => wpAny (model X.prog X.w) X.A (compareOp op v u) (EP X pins σ Q) X.xe s₂) X.xe s₁) X.xe s
def tB (t : TE) : TT := fun σ H Q => t σ H fun x H1 => ∃ c, x = .bl c ∧ Q c H1
theorem pt_val {e : Expr} {t : TE} (h : PE X e t) (he : ∀ whole, isTrue e X.env whole = (do let v ← whole; standAt e.pos; holding [v] (truthy v)) := by intro _; rfl) : PT X e (tB t) := by
  intro pins s σ H Q I hw
  refine isTrue_plain (thn (h pins s σ H _ I hw) fun v s1 ⟨x, H1, I1, r1, q1⟩ => ?_) (he _)
  obtain ⟨d, rfl, q⟩ := q1
  cases r1
  exact wpAny_truthy_bool ⟨H1, I1, q⟩

/-! ### and, or, not -/
variable {tA tB' : TT} {rest : List Expr}
def tAnd (t u : TT) : TT := fun σ H Q => t σ H fun c H1 => if c = true then u σ H1 Q else Q false H1
def tOr (t u : TT) : TT := fun σ H Q => t σ H fun c H1 => if c = true then Q true H1 else u σ H1 Q
def tNot (t : TT) : TT := fun σ H Q => t σ H fun c H1 => Q (!c) H1
theorem pw_and1 (ha : PT X a tA) : PW X (.BoolOp .And [a] pos) tA := by
  intro wh pins s σ H Q I h
  refine isTrue_and (thn (ha pins s σ H Q I h) fun c s1 e => ?_)
  cases c with
  | true => exact isTrue_and_nil e
  | false => exact e
theorem pw_or1 (ha : PT X a tA) : PW X (.BoolOp .Or [a] pos) tA := by
  intro wh pins s σ H Q I h
  refine isTrue_or (thn (ha pins s σ H Q I h) fun c s1 e => ?_)
  cases c with
  | false => exact isTrue_or_nil e
  | true => exact e
theorem pw_and (ha : PT X a tA) (hb : PW X (.BoolOp .And (b :: rest) pos) tB') : PW X (.BoolOp .And (a :: b :: rest) pos) (tAnd tA tB') := by
  intro wh pins s σ H Q I h
  refine isTrue_and (thn (ha pins s σ H _ I h) fun c s1 ⟨H1, I1, q1⟩ => ?_)
  cases c with
  | true => exact hb wh pins s1 σ H1 Q I1 q1
  | false => exact ⟨H1, I1, q1⟩
theorem pw_or (ha : PT X a tA) (hb : PW X (.BoolOp .Or (b :: rest) pos) tB') : PW X (.BoolOp .Or (a :: b :: rest) pos) (tOr tA tB') := by
  intro wh pins s σ H Q I h
  refine isTrue_or (thn (ha pins s σ H _ I h) fun c s1 ⟨H1, I1, q1⟩ => ?_)
  cases c with
  | true => exact ⟨H1, I1, q1⟩
  | false => exact hb wh pins s1 σ H1 Q I1 q1
theorem pt_not (ha : PT X a tA) : PT X (.UnaryOp .Not a pos) (tNot tA) := by
  intro pins s σ H Q I h
  exact isTrue_not (ha pins s σ H (fun c H1 => Q (!c) H1) I h)
def tAndV (ta tb : TE) : TE := fun σ H Q => ta σ H fun x H1 => ∃ c, x = .bl c ∧ if c = true then tb σ H1 Q else Q (.bl false) H1
def tOrV (ta tb : TE) : TE := fun σ H Q => ta σ H fun x H1 => ∃ c, x = .bl c ∧ if c = true then Q (.bl true) H1 else tb σ H1 Q
def tNotV (ta : TE) : TE := fun σ H Q => ta σ H fun x H1 => ∃ c, x = .bl c ∧ Q (.bl (!c)) H1
def tIf (t : TT) (ta tb : TE) : TE := fun σ H Q => t σ H fun c H1 => if c = true then ta σ H1 Q else tb σ H1 Q
end
end L2

namespace L2
open PySem PySem.Spec PyProof.Rows

/-! ### a list, a tuple that is read: tracked, frozen, or an object of the module -/
def SqL (K : PySem.W.Frag) (H : Hp) (a : Addr) (xs : List V) : Prop :=
  Rd H a (.lst xs) ∨
    ∃ (o : Obj) (its : Array Value) (n : Nat), K.lookup a = some o ∧ o.cls = .type "list" ∧ o.dict = none ∧ o.data = .seq its n ∧ its.size ≤ sizeLine ∧ Vals xs its.toList
def SqT (K : PySem.W.Frag) (H : Hp) (a : Addr) (xs : List V) : Prop :=
  Rd H a (.tup xs) ∨
    ∃ (o : Obj) (its : Array Value) (n : Nat), K.lookup a = some o ∧ o.cls = .type "tuple" ∧ o.data = .seq its n ∧ its.size ≤ sizeLine ∧ Vals xs its.toList
def absV : Value → Option V
  | .none => some .non
  | .bool b => some (.bl b)
  | .int i _ => some (.int i)
  | .str x _ => some (.str x)
  | .bytes b _ => some (.byt b)
  | .float b _ => some (.flt b)
  | .ref a => some (.ref a)
  | .type n => some (.ty n)
  | _ => none
theorem RelV.abs {x : V} {u : Value} (r : RelV x u) : absV u = some x := by
  cases x with
  | non => cases r; rfl
  | bl _ => cases r; rfl
  | int _ => obtain ⟨t, rfl⟩ := r; rfl
  | str _ => obtain ⟨t, rfl⟩ := r; rfl
  | byt _ => obtain ⟨t, rfl⟩ := r; rfl
  | flt _ => obtain ⟨t, rfl⟩ := r; rfl
  | ref _ => cases r; rfl
  | ty _ => cases r; rfl
theorem RelV.inj {x y : V} {u : Value} (r : RelV x u) (q : RelV y u) : x = y := Option.some.inj (r.abs.symm.trans q.abs)
theorem Vals.inj : ∀ {xs ys : List V} {us : List Value}, Vals xs us → Vals ys us → xs = ys
  | _, _, _, .nil, .nil => rfl
  | _, _, _, .cons r t, .cons r' t' => by rw [r.inj r', Vals.inj t t']
section
variable {X : Cx} {pins : List (Addr × Obj)} {σ : St} {H : Hp} {s : Shared} {a : Addr} {xs ys : List V}
theorem SqL.of {K : PySem.W.Frag} (h : H a = some (.lst xs)) : SqL K H a xs := .inl (.inl h)
theorem SqT.of {K : PySem.W.Frag} (h : H a = some (.tup xs)) : SqT K H a xs := .inl (.inl h)
theorem Inv.list (I : Inv X pins σ H s) (h : SqL X.K H a xs) : ∃ its : List Value, Vals xs its ∧ PlainL s.heap a its.toArray ∧ xs.length ≤ sizeLine := by
  rcases h with h | ⟨o, its, n, hk, hc, hd, hs, hz, r⟩
  · obtain ⟨z, its, n, r, e⟩ := h.ok I.hok
    exact ⟨its, r, ⟨_, n, e, rfl, rfl, rfl⟩, z⟩
  · refine ⟨its.toList, r, ⟨o, n, I.kIn a o hk, hc, hd, by simpa using hs⟩, ?_⟩
    have e := r.length
    simp only [Array.length_toList] at e
    omega
theorem Inv.tuple (I : Inv X pins σ H s) (h : SqT X.K H a xs) : ∃ its : List Value, Vals xs its ∧ IsTup s.heap a its.toArray ∧ xs.length ≤ sizeLine := by
  rcases h with h | ⟨o, its, n, hk, hc, hs, hz, r⟩
  · obtain ⟨z, its, r, p⟩ := h.ok I.hok
    exact ⟨its, r, p, z⟩
  · refine ⟨its.toList, r, ⟨o, I.kIn a o hk, hc, n, by simpa using hs⟩, ?_⟩
    have e := r.length
    simp only [Array.length_toList] at e
    omega
theorem Inv.list_inj (I : Inv X pins σ H s) (h : SqL X.K H a xs) (h' : SqL X.K H a ys) : xs = ys := by
  obtain ⟨its, r, ⟨o, n, e, _, _, d⟩, _⟩ := I.list h
  obtain ⟨its', r', ⟨o', n', e', _, _, d'⟩, _⟩ := I.list h'
  rw [e] at e'; cases e'
  rw [d] at d'
  injection d' with d1 _
  have : its = its' := by simpa using congrArg Array.toList d1
  subst this
  exact r.inj r'
theorem Inv.tuple_inj (I : Inv X pins σ H s) (h : SqT X.K H a xs) (h' : SqT X.K H a ys) : xs = ys := by
  obtain ⟨its, r, ⟨o, e, _, n, d⟩, _⟩ := I.tuple h
  obtain ⟨its', r', ⟨o', e', _, n', d'⟩, _⟩ := I.tuple h'
  rw [e] at e'; cases e'
  rw [d] at d'
  injection d' with d1 _
  have : its = its' := by simpa using congrArg Array.toList d1
  subst this
  exact r.inj r'
end

/-! ### another wish about exceptions -/
abbrev Cx.wish (X : Cx) (E : Value → Shared → Prop) : Cx := { X with xe := E }
abbrev Cx.nox (X : Cx) : Cx := X.wish fun _ _ => False
theorem Cx.Ok.wish {X : Cx} (ok : X.Ok) (E : Value → Shared → Prop) : (X.wish E).Ok :=
  ⟨ok.mod, ok.kind, ok.glob, ok.blt, ok.above, ok.inj, ok.has, ok.cab, ok.hd, ok.frames, ok.stk, ok.exf, ok.bs, ok.bsz, ok.noex, ok.exfs, ok.funs, ok.frf⟩
theorem Cx.Ok.unwish {X : Cx} {E : Value → Shared → Prop} (ok : (X.wish E).Ok) : X.Ok :=
  ⟨ok.mod, ok.kind, ok.glob, ok.blt, ok.above, ok.inj, ok.has, ok.cab, ok.hd, ok.frames, ok.stk, ok.exf, ok.bs, ok.bsz, ok.noex, ok.exfs, ok.funs, ok.frf⟩
section
variable {X : Cx} {pins : List (Addr × Obj)} {σ : St} {H : Hp} {s : Shared} {E : Value → Shared → Prop}
theorem Inv.wish (I : Inv X pins σ H s) (E : Value → Shared → Prop) : Inv (X.wish E) pins σ H s := ⟨I.ok.wish E, I.os, I.bare, I.base, I.loc, I.cell, I.free, I.freeC, I.pin, I.hok, I.len⟩
theorem Inv.unwish (I : Inv (X.wish E) pins σ H s) : Inv X pins σ H s := ⟨I.ok.unwish, I.os, I.bare, I.base, I.loc, I.cell, I.free, I.freeC, I.pin, I.hok, I.len⟩
theorem SP.unwish {D : Ends} {f : Flow} {s' : Shared} (h : SP (X.wish E) pins D f s') : SP X pins D f s' := by
  cases f with
  | next => obtain ⟨σ', H', I, q⟩ := h; exact ⟨σ', H', I.unwish, q⟩
  | brk => obtain ⟨σ', H', I, q⟩ := h; exact ⟨σ', H', I.unwish, q⟩
  | cont => obtain ⟨σ', H', I, q⟩ := h; exact ⟨σ', H', I.unwish, q⟩
  | ret u => obtain ⟨v, σ', H', I, r, q⟩ := h; exact ⟨v, σ', H', I.unwish, r, q⟩
theorem PE.nox {e : Expr} {t : TE} (h : PE X.nox e t) : PE X e t := fun pins s σ H Q I hw =>
  wpAny_mono (h pins s σ H Q (I.wish _) hw) (fun _ _ ⟨v, H', I', r, q⟩ => ⟨v, H', I'.unwish, r, q⟩) fun _ _ z => False.elim z
theorem PT.nox {e : Expr} {t : TT} (h : PT X.nox e t) : PT X e t := fun pins s σ H Q I hw =>
  wpAny_mono (h pins s σ H Q (I.wish _) hw) (fun _ _ ⟨H', I', q⟩ => ⟨H', I'.unwish, q⟩) fun _ _ z => False.elim z
theorem PSs.nox {st : List Stmt} {t : TS} (h : PSs X.nox st t) : PSs X st t := fun pins s σ H D I hw =>
  wpAny_mono (h pins s σ H D (I.wish _) hw) (fun _ _ q => q.unwish) fun _ _ z => False.elim z
end

/-! ### blocks and small statements -/
section
variable {X : Cx} {st : Stmt} {rest : List Stmt} {t u : TS} {e : Expr} {te : TE} {pos : Pos}
def tNext : TS := fun D σ H => D.nx σ H
def tSeq (t u : TS) : TS := fun D σ H => t { D with nx := u D } σ H
theorem pss_nil : PSs X [] tNext := fun _ _ σ H _ I h => wpAny_execs_nil ⟨σ, H, I, h⟩
theorem pss_cons (h1 : PS X st t) (h2 : PSs X rest u) : PSs X (st :: rest) (tSeq t u) := by
  intro pins s σ H D I h
  refine wpAny_execs_cons (thn (h1 pins s σ H { D with nx := u D } I h) fun f s1 q => ?_)
  cases f with
  | next =>
    obtain ⟨σ', H', I', q⟩ := q
    exact h2 pins s1 σ' H' D I' q
  | ret v => exact q
  | brk => exact q
  | cont => exact q
theorem pss_one (h1 : PS X st t) : PSs X [st] t := by
  intro pins s σ H D I h
  refine wpAny_execs_cons (thn (h1 pins s σ H D I h) fun f s1 q => ?_)
  cases f with
  | next => exact wpAny_execs_nil q
  | ret v => exact q
  | brk => exact q
  | cont => exact q
def tBreak : TS := fun D σ H => D.bk σ H
def tCont : TS := fun D σ H => D.ct σ H
theorem Inv.quiet {pins : List (Addr × Obj)} {σ : St} {H : Hp} {s : Shared} (I : Inv X pins σ H s) : interactive X.env = false := by simp [interactive, I.ok.kind]
def tDrop (te : TE) : TS := fun D σ H => te σ H fun _ H1 => D.nx σ H1
theorem ps_expr (he : PE X e te) (hs : swapsWith e none pos.line X.env = pure false := by rfl) : PS X (.Expr e pos) (tDrop te) := by
  intro pins s σ H D I h
  exact wpAny_Expr_any (thn (he pins s σ H _ I h) fun v s1 ⟨x, H1, I1, r1, q1⟩ => ⟨σ, H1, I1, q1⟩) I.quiet hs
def tRet (te : TE) : TS := fun D σ H => te σ H D.rt
theorem ps_ret (he : PE X e te) : PS X (.Return (some e) pos) (tRet te) := by
  intro pins s σ H D I h
  exact wpAny_Return_some (thn (he pins s σ H _ I h) fun v s1 ⟨x, H1, I1, r1, q1⟩ => ⟨x, σ, H1, I1, r1, q1⟩)
def tRetN : TS := fun D _ H => D.rt .non H
def tIfS (c : TT) (t u : TS) : TS := fun D σ H => c σ H fun b H1 => if b = true then t D σ H1 else u D σ H1
theorem ps_if {c : Expr} {a b : List Stmt} {tc : TT} (hc : PT X c tc) (ha : PSs X a t) (hb : PSs X b u) : PS X (.If c a b pos) (tIfS tc t u) := by
  intro pins s σ H D I h
  refine wpAny_If (thn (hc pins s σ H _ I h) fun d s1 ⟨H1, I1, q1⟩ => ?_)
  cases d with
  | true => exact ha pins s1 σ H1 D I1 q1
  | false => exact hb pins s1 σ H1 D I1 q1
end

/-! ### targets -/
abbrev TG := V → St → Hp → (St → Hp → Prop) → Prop
abbrev TGs := List V → St → Hp → (St → Hp → Prop) → Prop
def PG (X : Cx) (target : Expr) (t : TG) : Prop :=
  ∀ (pins : List (Addr × Obj)) (s : Shared) (σ : St) (H : Hp) (v : V) (u : Value) (Q : St → Hp → Prop), Inv X pins σ H s → RelV v u → t v σ H Q →
    wpAny (model X.prog X.w) X.A (assign target X.env u) (fun _ s' => ∃ σ' H', Inv X pins σ' H' s' ∧ Q σ' H') X.xe s
def PGs (X : Cx) (ts : List Expr) (t : TGs) : Prop :=
  ∀ (pins : List (Addr × Obj)) (s : Shared) (σ : St) (H : Hp) (vs : List V) (us : List Value) (Q : St → Hp → Prop), Inv X pins σ H s → Vals vs us → t vs σ H Q →
    wpAny (model X.prog X.w) X.A (assignInOrder ((assignEach ts X.env).map (·.2)) us) (fun _ s' => ∃ σ' H', Inv X pins σ' H' s' ∧ Q σ' H') X.xe s
abbrev TSet := V → V → V → Hp → (Hp → Prop) → Prop
def PSet (X : Cx) (t : TSet) : Prop :=
  ∀ (pins : List (Addr × Obj)) (s : Shared) (σ : St) (H : Hp) (o i v : V) (ov iv u : Value) (Q : Hp → Prop), Inv X pins σ H s → RelV o ov → RelV i iv → RelV v u → t o i v H Q →
    wpAny (model X.prog X.w) X.A (setItem ov iv u) (fun _ s' => ∃ H', Inv X pins σ H' s' ∧ Q H') X.xe s
section
variable {X : Cx} {pos : Pos}
def gName (i : Nat) : TG := fun v σ H Q => Q (σ.set i (some v)) H
theorem pg_name {i : Nat} {x : Str} (hN : X.N.Nodup) (hi : X.N[i]? = some x) (hx : Loc X.env.scope x) (hf : X.fn x = true ∨ X.env.scope.names.lookup x = some .local := by first | exact .inl rfl | exact .inr rfl | assumption) : PG X (.Name x pos) (gName i) := by
  intro pins s σ H v u Q I r h
  exact wpAny_assign_Name (store_ok I hN hi hx r (fun s' I' => ⟨_, H, I', h⟩) hf)
def gNil : TGs := fun vs σ H Q => vs = [] ∧ Q σ H
def gCons (t : TG) (u : TGs) : TGs := fun vs σ H Q => ∃ v r, vs = v :: r ∧ t v σ H fun σ' H' => u r σ' H' Q
theorem pgs_nil : PGs X [] gNil := by
  intro pins s σ H vs us Q I r h
  obtain ⟨e, h⟩ := h
  subst e
  cases r
  exact assignInOrder_nil ⟨σ, H, I, h⟩
theorem pgs_cons {e : Expr} {es : List Expr} {t : TG} {u : TGs} (h1 : PG X e t) (h2 : PGs X es u)
    (hs : (assignEach (e :: es) X.env).map (·.2) = assign e X.env :: (assignEach es X.env).map (·.2) := by rfl) : PGs X (e :: es) (gCons t u) := by
  intro pins s σ H vs us Q I r h
  obtain ⟨v, vr, e1, h⟩ := h
  subst e1
  cases r with
  | cons r rr =>
    rw [hs]
    refine assignInOrder_cons (thn (h1 pins s σ H _ _ _ I r h) fun _ s1 ⟨σ1, H1, I1, q1⟩ => ?_)
    exact h2 pins s1 σ1 H1 _ _ Q I1 rr q1
def gTup (K : PySem.W.Frag) (n : Nat) (t : TGs) : TG := fun v σ H Q => ∃ a xs, v = .ref a ∧ SqT K H a xs ∧ xs.length = n ∧ t xs σ H Q
theorem pg_tup {es : List Expr} {k : Nat} {t : TGs} {n : Nat} (hc : X.calm = true) (h : PGs X es t)
    (hn : (assignEach es X.env).length = n := by rfl) (hst : (assignEach es X.env).findIdx? (·.1) = none := by rfl) : PG X (.Tuple es k pos) (gTup X.K n t) := by
  intro pins s σ H v u Q I r hw
  obtain ⟨a, xs, e1, hq, hl, hw⟩ := hw
  subst e1
  cases r
  obtain ⟨its, rv, ht, hz⟩ := I.tuple hq
  refine assign_Tuple_tuple (I.ok.hd hc) ht (by simp [hn, ← hl, rv.length]) hst fun h' hx => ?_
  have I1 : Inv X pins σ H { s with heap := h' } := I.kept (t' := s.toks) fun b o e => hx b o (Nat.ne_of_lt (Heap.lt_size e)) e
  exact h pins _ σ H xs _ Q I1 (by simpa using rv) hw
def gSub (to ti : TE) (t : TSet) : TG := fun v σ H Q => to σ H fun o H1 => ti σ H1 fun i H2 => t o i v H2 fun H3 => Q σ H3
theorem pg_sub {o i : Expr} {to ti : TE} {t : TSet} (ho : PE X o to) (hi : PE X i ti) (hs : PSet X t)
    (ha : ∀ v, assign (.Subscript o i pos) X.env v = (do
      let ov ← holding [v] (eval o X.env)
      let iv ← holding [v, ov] (eval i X.env)
      standAt pos
      holding [v, ov, iv] (setItem ov iv v)
      release [v, ov, iv] []) := by intro _; rfl) : PG X (.Subscript o i pos) (gSub to ti t) := by
  intro pins s σ H v u Q I r h
  rw [ha]
  refine wpAny_bind (wpAny_holding (thn (ho pins s σ H _ I h) fun ov s1 ⟨x, H1, I1, r1, q1⟩ => ?_))
  refine wpAny_bind (wpAny_holding (thn (hi pins s1 σ H1 _ I1 q1) fun iv s2 ⟨y, H2, I2, r2, q2⟩ => ?_))
  refine wpAny_bind (wpAny_standAt (wpAny_bind (wpAny_holding (thn (hs pins s2 σ H2 x y v ov iv u _ I2 r1 r2 r q2) fun _ s3 ⟨H3, I3, q3⟩ => ?_))))
  exact wpAny_release ⟨σ, H3, I3, q3⟩
def tAsg (te : TE) (g : TG) : TS := fun D σ H => te σ H fun x H1 => g x σ H1 D.nx
theorem ps_asg {tg e : Expr} {te : TE} {g : TG} (he : PE X e te) (hg : PG X tg g) (hs : swapsWithSole [tg] e pos.line X.env = pure false := by rfl) (hw : swappedStores [tg] e X.env = pure none := by rfl)
    (h1 : (assignEach [tg] X.env).map (·.2) = [assign tg X.env] := by rfl) : PS X (.Assign [tg] e pos) (tAsg te g) := by
  intro pins s σ H D I h
  refine wpAny_Assign_stores (thn (he pins s σ H _ I h) fun v s1 ⟨x, H1, I1, r1, q1⟩ => ?_) hs hw
  rw [h1]
  exact thn (hg pins s1 σ H1 x v _ I1 r1 q1) fun _ s2 q => q
theorem ps_set {i : Nat} {x : Str} {e : Expr} {te : TE} {pos' : Pos} (hN : X.N.Nodup) (hi : X.N[i]? = some x) (hx : Loc X.env.scope x) (he : PE X e te) (hs : swapsWith e (some (.Name x pos')) pos.line X.env = pure false := by rfl) (hf : X.fn x = true ∨ X.env.scope.names.lookup x = some .local := by first | exact .inl rfl | exact .inr rfl | assumption) :
    PS X (.Assign [.Name x pos'] e pos) (tAsg te (gName i)) := by
  intro pins s σ H D I h
  refine wpAny_Assign_Name (thn (he pins s σ H _ I h) fun v s1 ⟨y, H1, I1, r1, q1⟩ => ?_) hs
  exact store_ok I1 hN hi hx r1 (fun s2 I2 => ⟨_, H1, I2, q1⟩) hf
end

/-! ### while -/
section
variable {X : Cx} {pos : Pos}
def tWhile (c : TT) (tb : TS) : TS := fun D σ H => ∃ W : Nat → St → Hp → Prop, (∃ m, W m σ H) ∧ ∀ m σ H, W m σ H →
  c σ H fun b H1 => if b = true then ∃ N : St → Hp → Prop, (∀ σ' H', N σ' H' → ∃ m', m' < m ∧ W m' σ' H') ∧ tb { D with nx := N, ct := N, bk := D.nx } σ H1 else D.nx σ H1
theorem ps_while {c : Expr} {body : List Stmt} {tc : TT} {tb : TS} (hp : PassesOwn (model X.prog X.w) X.A X.env X.xe) (hc : PT X c tc) (hb : PSs X body tb) : PS X (.While c body [] pos) (tWhile tc tb) := by
  intro pins s σ H D I h
  obtain ⟨W, ⟨m0, w0⟩, turn⟩ := h
  refine wpAny_While (codeAny_whileLoop (fun n s' => ∃ σ' H', Inv X pins σ' H' s' ∧ W n σ' H') ?_ m0 ⟨σ, H, I, w0⟩)
  rintro n s1 ⟨σ1, H1, I1, w1⟩
  refine wpAny_passesOwn hp (thn (hc pins s1 σ1 H1 _ I1 (turn n σ1 H1 w1)) fun b s2 ⟨H2, I2, q2⟩ => ?_)
  cases b with
  | true =>
    obtain ⟨N, hN, q2⟩ := q2
    rw [if_pos rfl]
    refine wpAny_passesOwn hp (thn (hb pins s2 σ1 H2 _ I2 q2) fun f s3 q3 => ?_)
    cases f with
    | next =>
      obtain ⟨σ3, H3, I3, n3⟩ := q3
      obtain ⟨m', hm, w3⟩ := hN σ3 H3 n3
      exact ⟨m', hm, σ3, H3, I3, w3⟩
    | cont =>
      obtain ⟨σ3, H3, I3, n3⟩ := q3
      obtain ⟨m', hm, w3⟩ := hN σ3 H3 n3
      exact ⟨m', hm, σ3, H3, I3, w3⟩
    | brk => exact q3
    | ret v => exact q3
  | false =>
    rw [if_neg Bool.false_ne_true]
    exact wpAny_execs_nil ⟨σ1, H2, I2, q2⟩
end

/-! ### what a loop or a comprehension walks -/
structure It where
  go : Nat → Hp → Prop
  yld : Nat → Hp → V → Hp → Prop
  stop : Nat → Hp → Prop
def FpOk (X : Cx) (pins : List (Addr × Obj)) (H : Hp) (b : Addr) : Prop :=
  H b = none ∧ b ≠ X.env.locals ∧ b ∉ X.fs ∧ (b ∈ X.ex ∨ X.s₀.heap.objs.size ≤ b) ∧ (∀ x c, X.env.cells.lookup x = some c → c ≠ b) ∧ ∀ p ∈ X.pn ++ pins, p.1 ≠ b
theorem Inv.fpOk {X : Cx} {pins : List (Addr × Obj)} {σ : St} {H H' : Hp} {s : Shared} {b : Addr} (I : Inv X pins σ H s) (hb : s.heap.objs.size ≤ b) (hn : H' b = none) : FpOk X pins H' b := by
  refine ⟨hn, Nat.ne_of_gt (Nat.lt_of_lt_of_le I.lt hb), I.nofs hb, .inr (Nat.le_trans I.sz hb), fun x c e z => ?_, fun p hp z => ?_⟩
  · obtain ⟨v, q⟩ := I.cell x c e
    exact absurd (Nat.lt_of_lt_of_le q.lt (by rw [z]; exact hb)) (Nat.lt_irrefl _)
  · exact absurd (Nat.lt_of_lt_of_le (Heap.lt_size (I.pin p hp).1) (by rw [z]; exact hb)) (Nat.lt_irrefl _)
structure Turn (P : Program) (w : World) (K : PySem.W.Frag) (tg : Expr) (J : It) (fp : List Addr) (it : Addr) (tn : Nat → Heap → Prop) : Prop where
  mem : it ∈ fp
  obj : ∀ i h, tn i h → ∀ b ∈ fp, ∃ o, h.get? b = some o ∧ ∀ v, o.data ≠ .cell v
  keep : ∀ i h h', tn i h → (∀ b ∈ fp, ∀ o, h.get? b = some o → h'.get? b = some o) → tn i h'
  item : ∀ (X : Cx), X.prog = P → X.w = w → X.K = K → X.calm = true → ∀ (i : Nat) (pins : List (Addr × Obj)) (s : Shared) (σ : St) (H : Hp) (E : Value → Shared → Prop), Inv X pins σ H s → (∀ b ∈ fp, FpOk X pins H b) → tn i s.heap → J.go i H →
    wpAny (model P w) X.A (pyNext (.ref it)) (fun r s1 => ∃ u, r = some u ∧
      wpAny (model P w) X.A (letOwnedTupleGo tg (.ref it) u) (fun _ s2 => ∃ x H', Inv X pins σ H' s2 ∧ RelV x u ∧ J.yld i H x H' ∧ tn (i + 1) s2.heap ∧ ∀ b ∈ fp, H' b = none) E s1) E s
  done : ∀ (X : Cx), X.prog = P → X.w = w → X.K = K → X.calm = true → ∀ (i : Nat) (pins : List (Addr × Obj)) (s : Shared) (σ : St) (H : Hp) (E : Value → Shared → Prop), Inv X pins σ H s → (∀ b ∈ fp, FpOk X pins H b) → tn i s.heap → J.stop i H →
    wpAny (model P w) X.A (pyNext (.ref it)) (fun r s1 => r = none ∧ Inv X pins σ H s1) E s
  self : ∀ (A : Around) (i : Nat) (s : Shared) (Q : Value → Shared → Prop) (E : Value → Shared → Prop), tn i s.heap → Q (.ref it) s → wpAny (model P w) A (pyIter (.ref it)) Q E s
abbrev TI := St → Hp → (It → Hp → Prop) → Prop
def PIE (X : Cx) (pins : List (Addr × Obj)) (σ : St) (tg : Expr) (R : It → Hp → Prop) (itv : Value) (s2 : Shared) : Prop :=
  ∃ (it : Addr) (fp : List Addr) (tn : Nat → Heap → Prop) (J : It) (H' : Hp), itv = .ref it ∧ Inv X pins σ H' s2 ∧ Turn X.prog X.w X.K tg J fp it tn ∧ tn 0 s2.heap ∧ (∀ b ∈ fp, FpOk X pins H' b) ∧ R J H'
def PI (X : Cx) (tg iter : Expr) (wi : TI) : Prop :=
  ∀ (pins : List (Addr × Obj)) (s : Shared) (σ : St) (H : Hp) (R : It → Hp → Prop), Inv X pins σ H s → wi σ H R →
    wpAny (model X.prog X.w) X.A (eval iter X.env) (fun v s1 => wpAny (model X.prog X.w) X.A (pyIter v) (PIE X pins σ tg R) X.xe s1) X.xe s

theorem go_of {M : Model} {A : Around} {E : Value → Shared → Prop} {s : Shared} {tg : Expr} {it : Addr} {u : Value} {o : Obj} {n : String} {vs : Array Value} {Q : Unit → Shared → Prop} (ho : s.heap.get? it = some o) (hc : o.cls = .type n) (hd : o.data = .fields vs)
    (hn : ["enumerate", "zip", "dict_itemiterator", "dict_reverseitemiterator", "odict_iterator", "itertools.zip_longest", "itertools.pairwise"].contains n = false) (hQ : Q () s) : wpAny M A (letOwnedTupleGo tg (.ref it) u) Q E s := by
  unfold letOwnedTupleGo
  cases tg <;> first
    | exact wpAny_pure hQ
    | (cases u <;> first
        | exact wpAny_pure hQ
        | (refine wpAny_bind (wpAny_load ho ?_)
           rw [hc, hd]
           show wpAny M A (if (["enumerate", "zip", "dict_itemiterator", "dict_reverseitemiterator", "odict_iterator", "itertools.zip_longest", "itertools.pairwise"].contains n && vs[0]? == some (rawInt _)) = true then _ else _) Q E s
           rw [if_neg (by intro h; rw [hn, Bool.false_and] at h; cases h)]
           exact wpAny_pure hQ))

def Itl (K : PySem.W.Frag) (a : Addr) : It :=
  ⟨fun i H => ∃ xs x, SqL K H a xs ∧ xs[i]? = some x, fun i H x H' => H' = H ∧ ∀ xs, SqL K H a xs → xs[i]? = some x, fun i H => ∃ xs, SqL K H a xs ∧ xs.length ≤ i⟩
def Itt (K : PySem.W.Frag) (a : Addr) : It :=
  ⟨fun i H => ∃ xs x, SqT K H a xs ∧ xs[i]? = some x, fun i H x H' => H' = H ∧ ∀ xs, SqT K H a xs → xs[i]? = some x, fun i H => ∃ xs, SqT K H a xs ∧ xs.length ≤ i⟩
def Itr (lo : Int) (n : Nat) : It := ⟨fun i _ => i < n, fun i H x H' => H' = H ∧ x = .int (lo + i), fun i _ => n ≤ i⟩
theorem turn_list {P : Program} {w : World} {K : PySem.W.Frag} {tg : Expr} (a it : Addr) : Turn P w K tg (Itl K a) [it] it (fun i h => h.IsListIter it a i) where
  mem := by simp
  obj := fun i h st b hb => by
    have e : b = it := by simpa using hb
    subst e
    obtain ⟨o, e, c, d⟩ := st
    exact ⟨o, e, fun v z => by rw [d] at z; cases z⟩
  keep := fun i h h' st k => st.at fun o e => k it (by simp) o e
  item := by
    intro X hP hw hK hc i pins s σ H E I hf st hg
    subst hP hw hK
    obtain ⟨xs, x, hq, hx⟩ := hg
    obtain ⟨its, rv, p, hz⟩ := I.list hq
    obtain ⟨u, hu, ru⟩ := rv.get hx
    obtain ⟨f0, f1, f2, f3, f4, f5⟩ := hf it (by simp)
    refine wpAny_pyNext_list_item st p.isList (x := u) (by simpa using hu) fun h' st' sb => ?_
    have I1 : Inv X pins σ H { s with heap := h' } := I.turned (t' := s.toks) (fun b o hb e => (sb.2 b hb).trans e) f0 f1 f3 f4 f5
    obtain ⟨o, e, c, d⟩ := id st'
    exact ⟨u, rfl, go_of (s := { s with heap := h' }) e c d (by decide) ⟨x, H, I1, ru, ⟨rfl, fun ys hy => by rw [I.list_inj hy hq]; exact hx⟩, st', fun b hb => (hf b hb).1⟩⟩
  done := by
    intro X hP hw hK hc i pins s σ H E I hf st hg
    subst hP hw hK
    obtain ⟨xs, hq, hx⟩ := hg
    obtain ⟨its, rv, p, hz⟩ := I.list hq
    obtain ⟨f0, f1, f2, f3, f4, f5⟩ := hf it (by simp)
    have hl := rv.length
    exact wpAny_pyNext_list_end (I.ok.hd hc) st p.isList (by simp; omega) fun h' eb => ⟨rfl, I.turned (t' := s.toks) (fun b o hb e => eb b o hb e) f0 f1 f3 f4 f5⟩
  self := fun _ _ _ _ _ st h => wpAny_pyIter_listiter st h
theorem turn_tuple {P : Program} {w : World} {K : PySem.W.Frag} {tg : Expr} (a it : Addr) : Turn P w K tg (Itt K a) [it] it (fun i h => h.IsTupleIter it a i) where
  mem := by simp
  obj := fun i h st b hb => by
    have e : b = it := by simpa using hb
    subst e
    obtain ⟨o, e, c, d⟩ := st
    exact ⟨o, e, fun v z => by rw [d] at z; cases z⟩
  keep := fun i h h' st k => st.at fun o e => k it (by simp) o e
  item := by
    intro X hP hw hK hc i pins s σ H E I hf st hg
    subst hP hw hK
    obtain ⟨xs, x, hq, hx⟩ := hg
    obtain ⟨its, rv, p, hz⟩ := I.tuple hq
    obtain ⟨u, hu, ru⟩ := rv.get hx
    obtain ⟨f0, f1, f2, f3, f4, f5⟩ := hf it (by simp)
    refine wpAny_pyNext_tuple_item st (show s.heap.IsTuple a its.toArray from p) (x := u) (by simpa using hu) fun h' st' sb => ?_
    have I1 : Inv X pins σ H { s with heap := h' } := I.turned (t' := s.toks) (fun b o hb e => (sb.2 b hb).trans e) f0 f1 f3 f4 f5
    obtain ⟨o, e, c, d⟩ := id st'
    exact ⟨u, rfl, go_of (s := { s with heap := h' }) e c d (by decide) ⟨x, H, I1, ru, ⟨rfl, fun ys hy => by rw [I.tuple_inj hy hq]; exact hx⟩, st', fun b hb => (hf b hb).1⟩⟩
  done := by
    intro X hP hw hK hc i pins s σ H E I hf st hg
    subst hP hw hK
    obtain ⟨xs, hq, hx⟩ := hg
    obtain ⟨its, rv, p, hz⟩ := I.tuple hq
    obtain ⟨f0, f1, f2, f3, f4, f5⟩ := hf it (by simp)
    have hl := rv.length
    exact wpAny_pyNext_tuple_end (I.ok.hd hc) st (show s.heap.IsTuple a its.toArray from p) (by simp; omega) fun h' eb => ⟨rfl, I.turned (t' := s.toks) (fun b o hb e => eb b o hb e) f0 f1 f3 f4 f5⟩
  self := fun _ _ _ _ _ st h => wpAny_pyIter_tupleiter st h
theorem turn_range {P : Program} {w : World} {K : PySem.W.Frag} {tg : Expr} (it : Addr) (lo : Int) (n : Nat) : Turn P w K tg (Itr lo n) [it] it (fun i h => IsRangeIter h it (lo + (i : Nat) * 1) ((n : Int) - (i : Nat)) 1) where
  mem := by simp
  obj := fun i h st b hb => by
    have e : b = it := by simpa using hb
    subst e
    exact ⟨_, st, fun v z => by
      have z' : Data.fields _ = Data.cell v := z
      cases z'⟩
  keep := fun i h h' st k => k it (by simp) _ st
  item := by
    intro X hP hw hK hc i pins s σ H E I hf st hg
    subst hP hw hK
    obtain ⟨f0, f1, f2, f3, f4, f5⟩ := hf it (by simp)
    have W := Walks.range (prog := X.prog) (w := X.w) (I.ok.hd hc) it lo 1 n
    refine W.item i s _ _ hg st fun v h' tk hv st' kk => ?_
    obtain ⟨t, rfl⟩ := hv
    have I1 : Inv X pins σ H { s with heap := h', toks := tk } := I.turned (fun b o hb e => kk b o (by simpa using hb) e) f0 f1 f3 f4 f5
    refine ⟨_, rfl, go_of (s := { s with heap := h', toks := tk }) (n := "range_iterator") st' rfl rfl (by decide) ⟨.int (lo + i), H, I1, ⟨t, ?_⟩, ⟨rfl, rfl⟩, st', fun b hb => (hf b hb).1⟩⟩
    rw [Int.mul_one]
  done := by
    intro X hP hw hK hc i pins s σ H E I hf st hg
    subst hP hw hK
    obtain ⟨f0, f1, f2, f3, f4, f5⟩ := hf it (by simp)
    exact wpAny_pyNext_range_end (I.ok.hd hc) st (by have : n ≤ i := hg; omega) fun h' eb => ⟨rfl, I.turned (t' := s.toks) (fun b o hb e => eb b o hb e) f0 f1 f3 f4 f5⟩
  self := fun _ _ _ _ _ st h => wpAny_pyIter_rangeiter st h
end L2

namespace L2
open PySem PySem.Spec PyProof.Rows
section
variable {X : Cx} {tg : Expr}
def iList (K : PySem.W.Frag) (tl : TE) : TI := fun σ H R => tl σ H fun x H1 => ∃ a, x = .ref a ∧ (∃ xs, SqL K H1 a xs) ∧ R (Itl K a) H1
def iTup (K : PySem.W.Frag) (tl : TE) : TI := fun σ H R => tl σ H fun x H1 => ∃ a, x = .ref a ∧ (∃ xs, SqT K H1 a xs) ∧ R (Itt K a) H1
theorem pi_list {l : Expr} {tl : TE} (hl : PE X l tl) : PI X tg l (iList X.K tl) := by
  intro pins s σ H R I h
  refine thn (hl pins s σ H _ I h) fun v s1 ⟨x, H1, I1, r1, q1⟩ => ?_
  obtain ⟨a, e, ⟨xs, hq⟩, q⟩ := q1
  subst e
  cases r1
  obtain ⟨its, rv, p, hz⟩ := I1.list hq
  refine wpAny_pyIter_list p.isList ?_
  refine ⟨s1.heap.objs.size, [s1.heap.objs.size], _, _, H1, rfl, I1.kept (t' := s1.toks) fun b o e => Heap.get?_push_of_some _ e, turn_list a _, ⟨_, Heap.get?_push_size _ rfl, rfl, rfl⟩, fun b hb => ?_, q⟩
  have e : b = s1.heap.objs.size := by simpa using hb
  subst e
  exact I1.fpOk (Nat.le_refl _) (I1.hok.fresh (Nat.le_refl _))
theorem pi_tup {l : Expr} {tl : TE} (hl : PE X l tl) : PI X tg l (iTup X.K tl) := by
  intro pins s σ H R I h
  refine thn (hl pins s σ H _ I h) fun v s1 ⟨x, H1, I1, r1, q1⟩ => ?_
  obtain ⟨a, e, ⟨xs, hq⟩, q⟩ := q1
  subst e
  cases r1
  obtain ⟨its, rv, p, hz⟩ := I1.tuple hq
  refine wpAny_pyIter_tuple (show s1.heap.IsTuple a its.toArray from p) ?_
  refine ⟨s1.heap.objs.size, [s1.heap.objs.size], _, _, H1, rfl, I1.kept (t' := s1.toks) fun b o e => Heap.get?_push_of_some _ e, turn_tuple a _, ⟨_, Heap.get?_push_size _ rfl, rfl, rfl⟩, fun b hb => ?_, q⟩
  have e : b = s1.heap.objs.size := by simpa using hb
  subst e
  exact I1.fpOk (Nat.le_refl _) (I1.hok.fresh (Nat.le_refl _))
theorem range_it {pins : List (Addr × Obj)} {σ : St} {H : Hp} {s : Shared} {R : It → Hp → Prop} {E : Value → Shared → Prop} {lo hi : Int} {t u v : Tok} {tk : Nat} (I : Inv X pins σ H s) (h1 : -(2 ^ 62) ≤ lo) (h2 : lo < 2 ^ 62) (h3 : -(2 ^ 62) ≤ hi) (h4 : hi < 2 ^ 62)
    (q : R (Itr lo (hi - lo).toNat) H) : wpAny (model X.prog X.w) X.A (pyIter (.ref s.heap.objs.size)) (PIE X pins σ tg R) E { s with heap := s.heap.push { cls := .type "range", data := .fields #[.int lo t, .int hi u, .int 1 v] }, toks := tk } := by
  refine wpAny_pyIter_range (IsRange.new ..) (small_one h1 h2 h3 h4) ?_
  have I1 : Inv X pins σ H { s with heap := s.heap.push { cls := .type "range", data := .fields #[.int lo t, .int hi u, .int 1 v] }, toks := tk } := I.kept fun b o e => Heap.get?_push_of_some _ e
  refine ⟨(s.heap.push { cls := .type "range", data := .fields #[.int lo t, .int hi u, .int 1 v] }).objs.size, [(s.heap.push { cls := .type "range", data := .fields #[.int lo t, .int hi u, .int 1 v] }).objs.size], _, _, H, rfl,
    I1.kept (t' := tk) fun b o e => Heap.get?_push_of_some _ e, turn_range _ lo (hi - lo).toNat, ?_, fun b hb => ?_, q⟩
  · have e1 : lo + ((0 : Nat) : Int) * 1 = lo := by simp
    have e2 : (((hi - lo).toNat : Nat) : Int) - ((0 : Nat) : Int) = Builtin.Range.rangeSize lo hi 1 := by rw [rangeSize_one]; split <;> omega
    show IsRangeIter _ _ (lo + ((0 : Nat) : Int) * 1) ((((hi - lo).toNat : Nat) : Int) - ((0 : Nat) : Int)) 1
    rw [e1, e2]
    exact Heap.get?_push_size _ rfl
  · have e : b = (s.heap.push { cls := .type "range", data := .fields #[.int lo t, .int hi u, .int 1 v] }).objs.size := by simpa using hb
    subst e
    exact I1.fpOk (Nat.le_refl _) (I1.hok.fresh (Nat.le_refl _))
def iRng1 (ta : TA) : TI := fun σ H R => ta σ H fun vs H1 => ∃ j : Int, vs = [.int j] ∧ -(2 ^ 62) ≤ j ∧ j < 2 ^ 62 ∧ R (Itr 0 j.toNat) H1
theorem pi_range1 {a : Expr} {ta : TA} {p pos : Pos} (hg : Gl X "range") (hm : X.mg "range" = none) (ha : PA X [a] ta) (hs : starEach [a] X.env = [(false, eval a X.env)] := by rfl) : PI X tg (.Call (.Name "range" p) [a] [] pos) (iRng1 ta) := by
  intro pins s σ H R I h
  refine Call_ (ld_blt I hg hm boot_range (PyProof.Rows.callWith_type1 (thn (ha pos pins s σ H _ I h) fun us s1 ⟨vs, H1, I1, r1, q1⟩ => ?_) hs rfl))
  obtain ⟨j, e, q1, q2, q⟩ := q1
  subst e
  cases r1 with
  | cons r rr =>
    cases rr
    obtain ⟨t, rfl⟩ := r
    exact call_range_1 (range_it I1 (by omega) (by omega) q1 q2 (by simpa using q))
/-! ### for -/
def tFor (wi : TI) (g : TG) (tb : TS) : TS := fun D σ H => wi σ H fun J H1 => ∃ W : Nat → Nat → St → Hp → Prop, (∃ m, W 0 m σ H1) ∧ ∀ i m σ H, W i m σ H →
  (J.stop i H ∧ D.nx σ H) ∨ (J.go i H ∧ ∃ N : St → Hp → Prop, (∀ σ' H', N σ' H' → ∃ m', m' < m ∧ W (i + 1) m' σ' H') ∧ ∀ x H', J.yld i H x H' → g x σ H' fun σ2 H2 => tb { D with nx := N, ct := N, bk := D.nx } σ2 H2)
def pinsAt (fp : List Addr) (h : Heap) : List (Addr × Obj) := fp.filterMap fun b => (h.get? b).map fun o => (b, o)
theorem mem_pinsAt {fp : List Addr} {h : Heap} {b : Addr} {o : Obj} (hb : b ∈ fp) (e : h.get? b = some o) : (b, o) ∈ pinsAt fp h := List.mem_filterMap.mpr ⟨b, hb, by rw [e]; rfl⟩
theorem of_pinsAt {fp : List Addr} {h : Heap} {p : Addr × Obj} (hp : p ∈ pinsAt fp h) : p.1 ∈ fp ∧ h.get? p.1 = some p.2 := by
  obtain ⟨b, hb, e⟩ := List.mem_filterMap.mp hp
  cases q : h.get? b with
  | none => rw [q] at e; cases e
  | some o =>
    rw [q] at e
    have e' : (b, o) = p := Option.some.inj e
    subst e'
    exact ⟨hb, q⟩
theorem Inv.pinned {pins : List (Addr × Obj)} {σ : St} {H : Hp} {s : Shared} {fp : List Addr} (I : Inv X pins σ H s) (hf : ∀ b ∈ fp, FpOk X pins H b) (ho : ∀ b ∈ fp, ∃ o, s.heap.get? b = some o ∧ ∀ v, o.data ≠ .cell v) : Inv X (pins ++ pinsAt fp s.heap) σ H s :=
  I.pins_of fun p hp => (List.mem_append.mp hp).elim (fun z => I.pin p (List.mem_append_right _ z)) fun z => by
    obtain ⟨hb, e⟩ := of_pinsAt z
    obtain ⟨f0, f1, f2, _⟩ := hf p.1 hb
    obtain ⟨o, e', d⟩ := ho p.1 hb
    rw [e] at e'; cases e'
    exact ⟨e, f0, f1, f2, d⟩
theorem Inv.unpinned {pins pl : List (Addr × Obj)} {σ : St} {H : Hp} {s : Shared} (I : Inv X (pins ++ pl) σ H s) : Inv X pins σ H s := I.pins_of fun p hp => I.pin p (List.mem_append_right _ (List.mem_append_left _ hp))
theorem ps_for {iter : Expr} {body : List Stmt} {wi : TI} {g : TG} {tb : TS} {pos : Pos} (hp : PassesOwn (model X.prog X.w) X.A X.env X.xe) (hc : X.calm = true) (hi : PI X tg iter wi) (hg : PG X tg g) (hb : PSs X body tb)
    (hs : ∀ x, foldedSetIterable iter X.env x = pure x := by intro _; rfl) : PS X (.For tg iter body [] pos) (tFor wi g tb) := by
  intro pins s σ H D I h
  refine wpAny_For (thn (hi pins s σ H _ I h) fun v s1 h1 => thn h1 fun itv s2 h2 => ?_) hs
  obtain ⟨it, fp, tn, J, H2, e, I2, T, st2, f2, W, ⟨m0, w0⟩, turn⟩ := h2
  subst e
  -- what stays true of the iterator's objects through the loop
  have stat : ∀ {H' : Hp}, (∀ b ∈ fp, H' b = none) → ∀ b ∈ fp, FpOk X pins H' b := fun hn b hb => ⟨hn b hb, (f2 b hb).2⟩
  refine codeAny_forLoop_any (fun n s' => ∃ i σ' H', Inv X pins σ' H' s' ∧ tn i s'.heap ∧ (∀ b ∈ fp, H' b = none) ∧ W i n σ' H') ?_ m0 ⟨0, σ, H2, I2, st2, fun b hb => (f2 b hb).1, w0⟩
  rintro n s3 ⟨i, σ3, H3, I3, st3, fr3, w3⟩
  rcases turn i n σ3 H3 w3 with ⟨stop, qn⟩ | ⟨go, N, hN, step⟩
  · refine wpAny_passesOwn hp (thn (T.done X rfl rfl rfl hc i pins s3 σ3 H3 X.xe I3 (stat fr3) st3 stop) fun r s4 ⟨hr, I4⟩ => ?_)
    subst hr
    exact wpAny_execs_nil ⟨σ3, H3, I4, qn⟩
  · refine wpAny_passesOwn hp (thn (T.item X rfl rfl rfl hc i pins s3 σ3 H3 X.xe I3 (stat fr3) st3 go) fun r s4 ⟨u, hr, h4⟩ => ?_)
    subst hr
    refine wpAny_passesOwn hp (thn h4 fun _ s5 ⟨x, H5, I5, r5, y5, st5, fr5⟩ => ?_)
    have I5' := I5.pinned (stat fr5) (T.obj _ _ st5)
    refine wpAny_passesOwn hp (thn (hg _ s5 σ3 H5 x u _ I5' r5 (step x H5 y5)) fun _ s6 ⟨σ6, H6, I6, q6⟩ => ?_)
    refine wpAny_passesOwn hp (thn (hb _ s6 σ6 H6 _ I6 q6) fun f s7 q7 => ?_)
    have again : ∀ {σ7 : St} {H7 : Hp}, Inv X (pins ++ pinsAt fp s5.heap) σ7 H7 s7 → N σ7 H7 → ∃ m, m < n ∧ ∃ i σ' H', Inv X pins σ' H' s7 ∧ tn i s7.heap ∧ (∀ b ∈ fp, H' b = none) ∧ W i m σ' H' := fun {σ7 H7} I7 n7 => by
      obtain ⟨m', hm, w7⟩ := hN σ7 H7 n7
      refine ⟨m', hm, i + 1, σ7, H7, I7.unpinned, T.keep _ _ _ st5 fun b hb o e => (I7.pin (b, o) (List.mem_append_right _ (List.mem_append_right _ (mem_pinsAt hb e)))).1, fun b hb => ?_, w7⟩
      obtain ⟨o, e, d⟩ := T.obj _ _ st5 b hb
      exact (I7.pin (b, o) (List.mem_append_right _ (List.mem_append_right _ (mem_pinsAt hb e)))).2.1
    cases f with
    | next => obtain ⟨σ7, H7, I7, n7⟩ := q7; exact again I7 n7
    | cont => obtain ⟨σ7, H7, I7, n7⟩ := q7; exact again I7 n7
    | brk => obtain ⟨σ7, H7, I7, q7⟩ := q7; exact ⟨σ7, H7, I7.unpinned, q7⟩
    | ret v => obtain ⟨x7, σ7, H7, I7, r7, q7⟩ := q7; exact ⟨x7, σ7, H7, I7.unpinned, r7, q7⟩
end

/-! ### the forms one uses -/
theorem for_list {K : PySem.W.Frag} {a : Addr} {xs : List V} {g : TG} {tb : TS} {D : Ends} {σ : St} {H : Hp} (Pv : Nat → St → Hp → Prop) (h0 : Pv 0 σ H) (hl : ∀ i σ H, i ≤ xs.length → Pv i σ H → SqL K H a xs)
    (hs : ∀ i x σ H, xs[i]? = some x → Pv i σ H → g x σ H fun σ2 H2 => tb { D with nx := Pv (i + 1), ct := Pv (i + 1), bk := D.nx } σ2 H2) (hd : ∀ σ H, Pv xs.length σ H → D.nx σ H) :
    ∃ W : Nat → Nat → St → Hp → Prop, (∃ m, W 0 m σ H) ∧ ∀ i m σ H, W i m σ H →
      ((Itl K a).stop i H ∧ D.nx σ H) ∨ ((Itl K a).go i H ∧ ∃ N : St → Hp → Prop, (∀ σ' H', N σ' H' → ∃ m', m' < m ∧ W (i + 1) m' σ' H') ∧ ∀ x H', (Itl K a).yld i H x H' → g x σ H' fun σ2 H2 => tb { D with nx := N, ct := N, bk := D.nx } σ2 H2) := by
  refine ⟨fun i m σ H => m = xs.length - i ∧ i ≤ xs.length ∧ Pv i σ H, ⟨xs.length, by simp, Nat.zero_le _, h0⟩, ?_⟩
  rintro i m σ H ⟨rfl, hi, p⟩
  have q := hl i σ H hi p
  by_cases hlt : i < xs.length
  · refine .inr ⟨⟨xs, xs[i], q, by simp [hlt]⟩, Pv (i + 1), fun σ' H' p' => ⟨xs.length - (i + 1), by omega, rfl, hlt, p'⟩, fun x H' y => ?_⟩
    obtain ⟨e, y⟩ := y
    subst e
    exact hs i x σ _ (y xs q) p
  · have e : i = xs.length := by omega
    subst e
    exact .inl ⟨⟨xs, q, Nat.le_refl _⟩, hd σ H p⟩
theorem for_range {lo : Int} {n : Nat} {g : TG} {tb : TS} {D : Ends} {σ : St} {H : Hp} (Pv : Nat → St → Hp → Prop) (h0 : Pv 0 σ H)
    (hs : ∀ i σ H, i < n → Pv i σ H → g (.int (lo + i)) σ H fun σ2 H2 => tb { D with nx := Pv (i + 1), ct := Pv (i + 1), bk := D.nx } σ2 H2) (hd : ∀ σ H, Pv n σ H → D.nx σ H) :
    ∃ W : Nat → Nat → St → Hp → Prop, (∃ m, W 0 m σ H) ∧ ∀ i m σ H, W i m σ H →
      ((Itr lo n).stop i H ∧ D.nx σ H) ∨ ((Itr lo n).go i H ∧ ∃ N : St → Hp → Prop, (∀ σ' H', N σ' H' → ∃ m', m' < m ∧ W (i + 1) m' σ' H') ∧ ∀ x H', (Itr lo n).yld i H x H' → g x σ H' fun σ2 H2 => tb { D with nx := N, ct := N, bk := D.nx } σ2 H2) := by
  refine ⟨fun i m σ H => m = n - i ∧ i ≤ n ∧ Pv i σ H, ⟨n, by simp, Nat.zero_le _, h0⟩, ?_⟩
  rintro i m σ H ⟨rfl, hi, p⟩
  by_cases hlt : i < n
  · refine .inr ⟨hlt, Pv (i + 1), fun σ' H' p' => ⟨n - (i + 1), by omega, rfl, hlt, p'⟩, fun x H' y => ?_⟩
    obtain ⟨e, y⟩ := y
    subst e y
    exact hs i σ _ hlt p
  · have e : i = n := by omega
    subst e
    exact .inl ⟨Nat.le_refl _, hd σ H p⟩
end L2

namespace L2
open PySem PySem.Spec PyProof.Rows

abbrev R2 := V → V → Hp → VK → Prop
def OpR (X : Cx) (f : Value → Value → Sem Value) (r : R2) : Prop :=
  ∀ (pins : List (Addr × Obj)) (s : Shared) (σ : St) (H : Hp) (x y : V) (v u : Value) (Q : VK), Inv X pins σ H s → RelV x v → RelV y u → r x y H Q →
    wpAny (model X.prog X.w) X.A (f v u) (EP X pins σ Q) X.xe s
def UnR (X : Cx) (f : Value → Sem Value) (r : V → Hp → VK → Prop) : Prop :=
  ∀ (pins : List (Addr × Obj)) (s : Shared) (σ : St) (H : Hp) (x : V) (v : Value) (Q : VK), Inv X pins σ H s → RelV x v → r x H Q →
    wpAny (model X.prog X.w) X.A (f v) (EP X pins σ Q) X.xe s
def CallR (X : Cx) (f : Value) (r : List V → Hp → VK → Prop) : Prop :=
  ∀ (pins : List (Addr × Obj)) (s : Shared) (σ : St) (H : Hp) (xs : List V) (us : List Value) (Q : VK), Inv X pins σ H s → Vals xs us → r xs H Q →
    wpAny (model X.prog X.w) X.A (call f us) (EP X pins σ Q) X.xe s
def TruR (X : Cx) (r : V → Hp → (Bool → Hp → Prop) → Prop) : Prop :=
  ∀ (pins : List (Addr × Obj)) (s : Shared) (σ : St) (H : Hp) (x : V) (v : Value) (Q : Bool → Hp → Prop), Inv X pins σ H s → RelV x v → r x H Q →
    wpAny (model X.prog X.w) X.A (truthy v) (TP X pins σ Q) X.xe s

def tOp (r : R2) (ta tb : TE) : TE := fun σ H Q => ta σ H fun x H1 => tb σ H1 fun y H2 => r x y H2 Q
def tUn (r : V → Hp → VK → Prop) (ta : TE) : TE := fun σ H Q => ta σ H fun x H1 => r x H1 Q
def rI (C : Int → Int → Prop) (g : Int → Int → V) : R2 := fun x y H Q => ∃ i j, x = .int i ∧ y = .int j ∧ C i j ∧ Q (g i j) H
def rI0 (g : Int → Int → V) : R2 := fun x y H Q => ∃ i j, x = .int i ∧ y = .int j ∧ Q (g i j) H
def rU (g : Int → V) : V → Hp → VK → Prop := fun x H Q => ∃ i, x = .int i ∧ Q (g i) H

section
variable {X : Cx} {a b c : Expr} {ta tb tc : TE} {pos : Pos}

theorem binT (ha : PE X a ta) (hb : PE X b tb) {pins : List (Addr × Obj)} {s : Shared} {σ : St} {H : Hp} {R : V → V → Hp → Prop} (I : Inv X pins σ H s)
    (h : ta σ H fun x H1 => tb σ H1 fun y H2 => R x y H2) {Q : Value → Shared → Prop} {f : Value → Value → Sem Value}
    (hf : ∀ v u s2 x y H2, Inv X pins σ H2 s2 → RelV x v → RelV y u → R x y H2 → wpAny (model X.prog X.w) X.A (f v u) Q X.xe s2) :
    wpAny (model X.prog X.w) X.A (eval a X.env) (fun v s₁ => wpAny (model X.prog X.w) X.A (eval b X.env) (fun u s₂ => wpAny (model X.prog X.w) X.A (f v u) Q X.xe s₂) X.xe s₁) X.xe s := by
  refine thn (ha pins s σ H _ I h) fun v s1 ⟨x, H1, I1, r1, q1⟩ => ?_
  refine thn (hb pins s1 σ H1 _ I1 q1) fun u s2 ⟨y, H2, I2, r2, q2⟩ => ?_
  exact hf v u s2 x y H2 I2 r1 r2 q2

theorem pe_op {op : Operator} {r : R2} (ho : OpR X (binaryOp op) r) (ha : PE X a ta) (hb : PE X b tb) : PE X (.BinOp a op b pos) (tOp r ta tb) := by
  intro pins s σ H Q I h
  exact wpAny_BinOp (binT ha hb I h fun v u s2 x y H2 I2 rx ry q => ho pins s2 σ H2 x y v u Q I2 rx ry q)
/-! ### ints -/
theorem opI {f : Value → Value → Sem Value} {C : Int → Int → Prop} {g : Int → Int → Int}
    (rule : ∀ (i j : Int) (t u : Tok) (s : Shared) (Q : Value → Shared → Prop) (E : Value → Shared → Prop), C i j → Q (.int (g i j) s.toks) { s with toks := s.toks + 1 } → wpAny (model X.prog X.w) X.A (f (.int i t) (.int j u)) Q E s) :
    OpR X f (rI C fun i j => .int (g i j)) := by
  intro pins s σ H x y v u Q I rx ry h
  obtain ⟨i, j, rfl, rfl, hc, q⟩ := h
  obtain ⟨t, rfl⟩ := rx
  obtain ⟨t', rfl⟩ := ry
  exact rule i j t t' s _ _ hc ⟨.int (g i j), H, I.tok _, ⟨_, rfl⟩, q⟩
theorem opI0 {f : Value → Value → Sem Value} {g : Int → Int → Int}
    (rule : ∀ (i j : Int) (t u : Tok) (s : Shared) (Q : Value → Shared → Prop) (E : Value → Shared → Prop), Q (.int (g i j) s.toks) { s with toks := s.toks + 1 } → wpAny (model X.prog X.w) X.A (f (.int i t) (.int j u)) Q E s) :
    OpR X f (rI0 fun i j => .int (g i j)) := by
  intro pins s σ H x y v u Q I rx ry h
  obtain ⟨i, j, rfl, rfl, q⟩ := h
  obtain ⟨t, rfl⟩ := rx
  obtain ⟨t', rfl⟩ := ry
  exact rule i j t t' s _ _ ⟨.int (g i j), H, I.tok _, ⟨_, rfl⟩, q⟩
theorem opB0 {f : Value → Value → Sem Value} {g : Int → Int → Bool}
    (rule : ∀ (i j : Int) (t u : Tok) (s : Shared) (Q : Value → Shared → Prop) (E : Value → Shared → Prop), Q (.bool (g i j)) s → wpAny (model X.prog X.w) X.A (f (.int i t) (.int j u)) Q E s) :
    OpR X f (rI0 fun i j => .bl (g i j)) := by
  intro pins s σ H x y v u Q I rx ry h
  obtain ⟨i, j, rfl, rfl, q⟩ := h
  obtain ⟨t, rfl⟩ := rx
  obtain ⟨t', rfl⟩ := ry
  exact rule i j t t' s _ _ ⟨.bl (g i j), H, I, rfl, q⟩

def CDiv (i j : Int) : Prop := 0 < j ∧ j < 1073741824
def CPow (i j : Int) : Prop := 0 ≤ j ∧ j ≤ 1000000 ∧ i.natAbs < 2 ^ 64
def CMul (i j : Int) : Prop := (-(2 ^ 64) < i ∧ i < 2 ^ 64) ∨ (-(2 ^ 64) < j ∧ j < 2 ^ 64)
theorem CMul.ok {i j : Int} (h : CMul i j) : IntMulOk i j := by
  rcases h with ⟨h1, h2⟩ | ⟨h1, h2⟩
  · exact .of_left (intBits_le_64 h1 h2)
  · exact .of_right (intBits_le_64 h1 h2)
theorem op_add : OpR X (binaryOp .Add) (rI0 fun i j => .int (i + j)) := opI0 fun _ _ _ _ _ _ _ q => add_int q
theorem op_sub : OpR X (binaryOp .Sub) (rI0 fun i j => .int (i - j)) := opI0 fun _ _ _ _ _ _ _ q => sub_int q
theorem op_mul : OpR X (binaryOp .Mult) (rI CMul fun i j => .int (i * j)) := opI fun _ _ _ _ _ _ _ hc q => mul_int q hc.ok
theorem op_fdiv : OpR X (binaryOp .FloorDiv) (rI CDiv fun i j => .int (i / j)) := opI fun i j _ _ _ _ _ hc q => by
  have h1 : (0 : Int) < j := hc.1
  have h2 : j < 1073741824 := hc.2
  exact floordiv_int (by omega) (by rw [Int.fdiv_eq_ediv_of_nonneg i (by omega)]; exact q) (.inl (PyProof.noPylong_small (by omega)))
theorem op_mod : OpR X (binaryOp .Mod) (rI (fun _ j => 0 < j) fun i j => .int (i % j)) := opI fun i j _ _ _ _ _ hc q => by
  have h1 : (0 : Int) < j := hc
  exact mod_int' (by omega) (by rw [Int.fmod_eq_emod_of_nonneg i (by omega)]; exact q)
theorem op_pow : OpR X (binaryOp .Pow) (rI CPow fun i j => .int (i ^ j.toNat)) := opI fun _ _ _ _ _ _ _ hc q => pow_int_small hc.1 hc.2.1 hc.2.2 q
/-! ### bools among ints: n += (a < b) -/
end

/-! ### comparisons -/
def scal : V → V → Bool
  | .non, .non => true | .non, .int _ => true | .int _, .non => true | .non, .bl _ => true | .bl _, .non => true | .non, .str _ => true | .str _, .non => true
  | .int _, .int _ => true | .bl _, .bl _ => true | .str _, .str _ => true | .byt _, .byt _ => true
  | .int _, .str _ => true | .str _, .int _ => true | .bl _, .str _ => true | .str _, .bl _ => true
  | _, _ => false
def rEq : R2 := fun x y H Q => scal x y = true ∧ Q (.bl (decide (x = y))) H
def rNe : R2 := fun x y H Q => scal x y = true ∧ Q (.bl (!decide (x = y))) H

theorem dec_int {i j : Int} : decide (V.int i = V.int j) = (i == j) := by
  rw [Bool.eq_iff_iff]
  simp
theorem dec_bl {i j : Bool} : decide (V.bl i = V.bl j) = (i == j) := by
  rw [Bool.eq_iff_iff]
  simp
theorem dec_str {i j : Str} : decide (V.str i = V.str j) = (i == j) := by
  rw [Bool.eq_iff_iff]
  simp
theorem dec_byt {i j : Array UInt8} : decide (V.byt i = V.byt j) = (i.toList == j.toList) := by
  rw [Bool.eq_iff_iff]
  cases i
  cases j
  simp

section
variable {X : Cx} {a b c : Expr} {ta tb tc : TE} {pos : Pos}
theorem fin_bl {pins : List (Addr × Obj)} {σ : St} {H : Hp} {s : Shared} {Q : VK} {k k' : Bool} (I : Inv X pins σ H s) (q : Q (.bl k) H) (e : k = k') : EP X pins σ Q (.bool k') s := by
  subst e
  exact ⟨.bl k, H, I, rfl, q⟩
theorem op_eq : OpR X (compareOp .Eq) rEq := by
  intro pins s σ H x y v u Q I rx ry h
  obtain ⟨hs, q⟩ := h
  cases x with
  | non =>
    cases rx
    cases y with
    | non => cases ry; exact PySem.EqNone.eq_none_none (fin_bl I q (by simp))
    | bl j => cases ry; exact PySem.EqNone.eq_none_bool (fin_bl I q (by simp))
    | int j => obtain ⟨t', rfl⟩ := ry; exact PySem.EqNone.eq_none_int (fin_bl I q (by simp))
    | str j => obtain ⟨t', rfl⟩ := ry; exact PySem.EqNone.eq_none_str (fin_bl I q (by simp))
    | _ => exact absurd (show false = true from hs) Bool.false_ne_true
  | bl i =>
    cases rx
    cases y with
    | non => cases ry; exact PySem.EqNone.eq_bool_none (fin_bl I q (by simp))
    | bl j => cases ry; exact eq_bool (fin_bl I q dec_bl)
    | str j => obtain ⟨t', rfl⟩ := ry; exact PySem.EqMixed.eq_bool_str (fin_bl I q (by simp))
    | _ => exact absurd (show false = true from hs) Bool.false_ne_true
  | int i =>
    obtain ⟨t, rfl⟩ := rx
    cases y with
    | non => cases ry; exact PySem.EqNone.eq_int_none (fin_bl I q (by simp))
    | int j => obtain ⟨t', rfl⟩ := ry; exact eq_int (fin_bl I q dec_int)
    | str j => obtain ⟨t', rfl⟩ := ry; exact PySem.EqMixed.eq_int_str (fin_bl I q (by simp))
    | _ => exact absurd (show false = true from hs) Bool.false_ne_true
  | str i =>
    obtain ⟨t, rfl⟩ := rx
    cases y with
    | non => cases ry; exact PySem.EqNone.eq_str_none (fin_bl I q (by simp))
    | bl j => cases ry; exact PySem.EqMixed.eq_str_bool (fin_bl I q (by simp))
    | int j => obtain ⟨t', rfl⟩ := ry; exact PySem.EqMixed.eq_str_int (fin_bl I q (by simp))
    | str j => obtain ⟨t', rfl⟩ := ry; exact eq_str (fin_bl I q dec_str)
    | _ => exact absurd (show false = true from hs) Bool.false_ne_true
  | byt i =>
    obtain ⟨t, rfl⟩ := rx
    cases y with
    | byt j => obtain ⟨t', rfl⟩ := ry; exact PySem.W.eq_bytes (fin_bl I q dec_byt)
    | _ => exact absurd (show false = true from hs) Bool.false_ne_true
  | _ => cases y <;> exact absurd (show false = true from hs) Bool.false_ne_true
theorem op_ne : OpR X (compareOp .NotEq) rNe := by
  intro pins s σ H x y v u Q I rx ry h
  obtain ⟨hs, q⟩ := h
  cases x with
  | non =>
    cases rx
    cases y with
    | non => cases ry; exact PySem.EqNone.ne_none_none (fin_bl I q (by simp))
    | bl j => cases ry; exact PySem.EqNone.ne_none_bool (fin_bl I q (by simp))
    | int j => obtain ⟨t', rfl⟩ := ry; exact PySem.EqNone.ne_none_int (fin_bl I q (by simp))
    | str j => obtain ⟨t', rfl⟩ := ry; exact PySem.EqNone.ne_none_str (fin_bl I q (by simp))
    | _ => exact absurd (show false = true from hs) Bool.false_ne_true
  | bl i =>
    cases rx
    cases y with
    | non => cases ry; exact PySem.EqNone.ne_bool_none (fin_bl I q (by simp))
    | bl j => cases ry; exact ne_bool (fin_bl I q (congrArg not dec_bl))
    | str j => obtain ⟨t', rfl⟩ := ry; exact PySem.EqMixed.ne_bool_str (fin_bl I q (by simp))
    | _ => exact absurd (show false = true from hs) Bool.false_ne_true
  | int i =>
    obtain ⟨t, rfl⟩ := rx
    cases y with
    | non => cases ry; exact PySem.EqNone.ne_int_none (fin_bl I q (by simp))
    | int j => obtain ⟨t', rfl⟩ := ry; exact ne_int (fin_bl I q (congrArg not dec_int))
    | str j => obtain ⟨t', rfl⟩ := ry; exact PySem.EqMixed.ne_int_str (fin_bl I q (by simp))
    | _ => exact absurd (show false = true from hs) Bool.false_ne_true
  | str i =>
    obtain ⟨t, rfl⟩ := rx
    cases y with
    | non => cases ry; exact PySem.EqNone.ne_str_none (fin_bl I q (by simp))
    | bl j => cases ry; exact PySem.EqMixed.ne_str_bool (fin_bl I q (by simp))
    | int j => obtain ⟨t', rfl⟩ := ry; exact PySem.EqMixed.ne_str_int (fin_bl I q (by simp))
    | str j => obtain ⟨t', rfl⟩ := ry; exact ne_str (fin_bl I q (congrArg not dec_str))
    | _ => exact absurd (show false = true from hs) Bool.false_ne_true
  | byt i =>
    obtain ⟨t, rfl⟩ := rx
    cases y with
    | byt j => obtain ⟨t', rfl⟩ := ry; exact PySem.W.ne_bytes (fin_bl I q (congrArg not dec_byt))
    | _ => exact absurd (show false = true from hs) Bool.false_ne_true
  | _ => cases y <;> exact absurd (show false = true from hs) Bool.false_ne_true

theorem op_lt : OpR X (compareOp .Lt) (rI0 fun i j => .bl (decide (i < j))) := opB0 fun _ _ _ _ _ _ _ q => lt_int q
theorem op_gt : OpR X (compareOp .Gt) (rI0 fun i j => .bl (decide (j < i))) := opB0 fun _ _ _ _ _ _ _ q => gt_int q
theorem op_ge : OpR X (compareOp .GtE) (rI0 fun i j => .bl (decide (j ≤ i))) := opB0 fun _ _ _ _ _ _ _ q => ge_int q
theorem op_notN : OpR X (compareOp .IsNot) (fun x y H Q => y = .non ∧ Q (.bl (!decide (x = .non))) H) := by
  intro pins s σ H x y v u Q I rx ry h
  obtain ⟨rfl, q⟩ := h
  cases ry
  refine isnot_none_gen (fin_bl I q ?_)
  cases x <;> first
    | (cases rx; rfl)
    | (obtain ⟨t, rfl⟩ := rx; rfl)

theorem nomark (b : Expr) {op : CmpOp} (h : op ≠ .In := by decide) (h2 : op ≠ .NotIn := by decide) : behindInMarks op b = false := by
  have e1 : (op == CmpOp.In) = false := by cases op <;> first | rfl | exact absurd rfl h
  have e2 : (op == CmpOp.NotIn) = false := by cases op <;> first | rfl | exact absurd rfl h2
  cases b <;> simp [behindInMarks, e1, e2]
theorem pe_cmpR {op : CmpOp} {r : R2} (ho : OpR X (compareOp op) r) (ha : PE X a ta) (hb : PE X b tb) (hm : behindInMarks op b = false) : PE X (.Compare a [op] [b] pos) (tOp r ta tb) := by
  intro pins s σ H Q I h
  exact wpAny_Compare1 (binT ha hb I h fun v u s2 x y H2 I2 rx ry q => ho pins s2 σ H2 x y v u Q I2 rx ry q) hm
def tTest (t : TE) : TT := fun σ H Q => t σ H fun x H' => ∃ k, x = .bl k ∧ Q k H'
theorem pt_cmpR {op : CmpOp} {r : R2} (ho : OpR X (compareOp op) r) (ha : PE X a ta) (hb : PE X b tb) (hm : behindInMarks op b = false) : PT X (.Compare a [op] [b] pos) (tTest (tOp r ta tb)) := by
  intro pins s σ H Q I h
  refine wpAny_isTrue_Compare1 (thn (ha pins s σ H _ I h) fun v s1 ⟨x, H1, I1, r1, q1⟩ => thn (hb pins s1 σ H1 _ I1 q1) fun u s2 ⟨y, H2, I2, r2, q2⟩ =>
    thn (ho pins s2 σ H2 x y v u _ I2 r1 r2 q2) fun c s3 ⟨z, H3, I3, r3, k, e, q3⟩ => ?_) hm
  subst e
  cases r3
  exact wpAny_truthy_bool ⟨H3, I3, q3⟩
def tChain (r r' : R2) (ta tb tc : TE) : TE := fun σ H Q => ta σ H fun x H1 => tb σ H1 fun y H2 => r x y H2 fun z H3 => ∃ k, z = .bl k ∧
  (if k = true then tc σ H3 fun w' H4 => r' y w' H4 Q else Q (.bl false) H3)
/-! ### truth -/
def TruV (K : PySem.W.Frag) (x : V) (H : Hp) (k : Bool) : Prop :=
  match x with
  | .non => k = false
  | .bl b => k = b
  | .int i => k = (i != 0)
  | .str y => y.length ≤ sizeLine ∧ k = ((y.length : Int) != 0)
  | .byt y => y.size ≤ sizeLine ∧ k = ((y.size : Int) != 0)
  | .ref p => (∃ xs, SqL K H p xs ∧ k = !xs.isEmpty) ∨ (∃ xs, SqT K H p xs ∧ k = !xs.isEmpty) ∨ ∃ kvs, H p = some (.dK kvs) ∧ k = !kvs.isEmpty
  | _ => False
theorem isEmpty_kv {κ : Type} {kvs : List (κ × V)} {vs : List (κ × Value)} (r : KV kvs vs) : (!vs.isEmpty) = !kvs.isEmpty := by
  cases r <;> rfl
theorem isEmpty_of {xs : List V} {its : List Value} (r : Vals xs its) : (!its.toArray.isEmpty) = !xs.isEmpty := by
  cases r <;> simp
theorem line63 : (sizeLine : Nat) < 2 ^ 63 := by rw [sizeLine_eq]; decide
theorem tru_ok : TruR X (fun x H Q => ∃ k, TruV X.K x H k ∧ Q k H) := by
  intro pins s σ H x v Q I rx h
  obtain ⟨k, e, q⟩ := h
  have hl := line63
  have hs : sizeLine = 16777216 := sizeLine_eq
  cases x with
  | non =>
    cases rx
    have e' : k = false := e
    subst e'
    exact truthy_none ⟨H, I, q⟩
  | bl b =>
    cases rx
    have e' : k = b := e
    subst e'
    exact wpAny_truthy_bool ⟨H, I, q⟩
  | int i =>
    obtain ⟨t, rfl⟩ := rx
    have e' : k = (i != 0) := e
    subst e'
    exact PySem.P.truthy_int ⟨H, I, q⟩
  | str y =>
    obtain ⟨t, rfl⟩ := rx
    obtain ⟨hy, e'⟩ : y.length ≤ sizeLine ∧ k = ((y.length : Int) != 0) := e
    subst e'
    exact PySem.P.truthy_str (by omega) ⟨H, I.tok _, q⟩
  | byt y =>
    obtain ⟨t, rfl⟩ := rx
    obtain ⟨hy, e'⟩ : y.size ≤ sizeLine ∧ k = ((y.size : Int) != 0) := e
    subst e'
    exact PySem.W.truthy_bytes (by omega) ⟨H, I.tok _, q⟩
  | ref p =>
    cases rx
    have e' : (∃ xs, SqL X.K H p xs ∧ k = !xs.isEmpty) ∨ (∃ xs, SqT X.K H p xs ∧ k = !xs.isEmpty) ∨ ∃ kvs, H p = some (.dK kvs) ∧ k = !kvs.isEmpty := e
    rcases e' with ⟨xs, hx, e'⟩ | ⟨xs, hx, e'⟩ | ⟨kvs, hx, e'⟩
    · subst e'
      obtain ⟨its, r, pl, hz⟩ := I.list hx
      have hlen := r.length
      exact wpAny_truthy_list pl.isList (by simp only [List.size_toArray]; omega) ⟨H, I.tok _, by rw [isEmpty_of r]; exact q⟩
    · subst e'
      obtain ⟨its, r, pl, hz⟩ := I.tuple hx
      have hlen := r.length
      exact truthy_tuple pl (by simp only [List.size_toArray]; omega) ⟨H, I.tok _, by rw [isEmpty_of r]; exact q⟩
    · subst e'
      obtain ⟨hz, hS, vs, r, m⟩ : kvs.length ≤ sizeLine ∧ (p == sysModules) = false ∧ ∃ vs, KV kvs vs ∧ s.heap.DictOf (mixKind X.prog X.w) p vs := I.hok p _ hx
      have hlen : kvs.length = vs.length := Paired.length r
      exact wpAny_truthy_dict hS m (by omega) ⟨H, I.tok _, by rw [isEmpty_kv r]; exact q⟩
  | _ => exact (show False from e).elim
theorem pt_truth (ha : PE X a ta) (he : ∀ whole, isTrue a X.env whole = (do let v ← whole; standAt a.pos; holding [v] (truthy v))) :
    PT X a (fun σ H Q => ta σ H fun x H' => ∃ k, TruV X.K x H' k ∧ Q k H') := by
  intro pins s σ H Q I h
  exact isTrue_plain (thn (ha pins s σ H _ I h) fun v s1 ⟨x, H1, I1, r1, q1⟩ => tru_ok pins s1 σ H1 x v Q I1 r1 q1) (he _)

/-! ### strs and bytes -/
/-! ### scalar builtins, by CallR -/
theorem vals1 {x : V} {us : List Value} (r : Vals [x] us) : ∃ u, us = [u] ∧ RelV x u := by
  cases r with
  | cons r1 r2 => cases r2; exact ⟨_, rfl, r1⟩
theorem vals2 {x y : V} {us : List Value} (r : Vals [x, y] us) : ∃ u w', us = [u, w'] ∧ RelV x u ∧ RelV y w' := by
  cases r with
  | cons r1 r2 =>
    cases r2 with
    | cons r3 r4 => cases r4; exact ⟨_, _, rfl, r1, r3⟩
theorem call_max2 (hc : X.calm = true) : CallR X (.builtin "max") (fun xs H Q => ∃ i j, xs = [.int i, .int j] ∧ Q (.int (if j > i then j else i)) H) := by
  intro pins s σ H xs us Q I r h
  obtain ⟨i, j, rfl, q⟩ := h
  obtain ⟨u, w', rfl, ⟨t, rfl⟩, ⟨t', rfl⟩⟩ := vals2 r
  refine max_two_ints (I.ok.hd hc) fun h' tk k => ⟨_, H, I.kept k, ?_, q⟩
  by_cases hj : j > i
  · rw [if_pos hj, if_pos hj]; exact ⟨_, rfl⟩
  · rw [if_neg hj, if_neg hj]; exact ⟨_, rfl⟩
theorem call_min2 (hc : X.calm = true) : CallR X (.builtin "min") (fun xs H Q => ∃ i j, xs = [.int i, .int j] ∧ Q (.int (if j < i then j else i)) H) := by
  intro pins s σ H xs us Q I r h
  obtain ⟨i, j, rfl, q⟩ := h
  obtain ⟨u, w', rfl, ⟨t, rfl⟩, ⟨t', rfl⟩⟩ := vals2 r
  refine min_two_ints (I.ok.hd hc) fun h' tk k => ⟨_, H, I.kept k, ?_, q⟩
  by_cases hj : j < i
  · rw [if_pos hj, if_pos hj]; exact ⟨_, rfl⟩
  · rw [if_neg hj, if_neg hj]; exact ⟨_, rfl⟩
end
end L2

namespace L2
open PySem PySem.Spec PyProof.Rows

/-! ### an instance, its attributes a map -/
structure ObjM (h : Heap) (x dx C : Addr) (mA : Str → Option Value) : Prop where
  obj : h.get? x = some (PySem.W.instObj C dx)
  ns : h.Ns1 dx mA
  ne : dx ≠ x

theorem lookIn_ns {h : Heap} {dx : Addr} {mA : Str → Option Value} (n : h.Ns1 dx mA) : ∃ od, h.get? dx = some od ∧ ∀ name, PySem.W.lookIn name od = some (mA name) := by
  obtain ⟨o, es, ep, ho, hd, hk, _, hm⟩ := n
  refine ⟨o, ho, fun name => ?_⟩
  have e := hm name
  unfold nsFind findBy at e
  rw [← Array.find?_toList] at e
  unfold PySem.W.lookIn
  rw [hd]
  dsimp only
  split
  · rename_i y q
    rw [q] at e
    exact congrArg some e
  · rename_i q
    rw [q] at e
    have a : es.toList.any (·.refKey) = false := by
      rw [List.any_eq_false]
      intro y hy
      obtain ⟨z, t, hkey⟩ := hk y (Array.mem_toList_iff.mp hy)
      simp [DictEntry.refKey, hkey]
    have a' : ¬ es.toList.any (·.refKey) = true := by rw [a]; exact Bool.false_ne_true
    rw [if_neg a']
    exact congrArg some e

theorem ObjM.look {h : Heap} {x dx C : Addr} {mA : Str → Option Value} (I : ObjM h x dx C mA) : ∃ od, PySem.W.InstAt h x (PySem.W.instObj C dx) C (some od) ∧ ∀ name, PySem.W.lookIn name od = some (mA name) :=
  let ⟨od, ho, hl⟩ := lookIn_ns I.ns
  ⟨od, ⟨I.obj, rfl, rfl, ho⟩, hl⟩

section
variable {prog : Program} {w : World} {A : Around} {E : Value → Shared → Prop} {s : Shared} {K : PySem.W.Frag} {x dx C f : Addr} {mA : Str → Option Value} {name : Str} {v : Value}

theorem get_map {expr : Bool} {Q : Value → Shared → Prop} (X : K.In s.heap) (I : ObjM s.heap x dx C mA) (hg : PySem.W.plainGet K C name = true) (hh : PySem.W.hasDictIn K C = true)
    (ha : PySem.W.findIn K (.ref C) name = some none) (hv : mA name = some v) (hv' : PySem.W.handedIn v = true) (h : Q v { s with toks := s.toks + 1 }) :
    wpAny (model prog w) A (getAttr (.ref x) name expr) Q E s := by
  obtain ⟨od, J, hl⟩ := I.look
  exact PySem.W.get_value X J (PySem.W.plainGet_of hg).1 (PySem.W.findObj_own hh ha rfl (by rw [hl, hv])) hv' h

theorem get_meth {pl : Sem Bool} {Q : Value × List Value → Shared → Prop} (X : K.In s.heap) (I : ObjM s.heap x dx C mA) (hg : PySem.W.plainGet K C name = true)
    (hf : PySem.W.findIn K (.ref C) name = some (some (.ref f))) (ht : PySem.W.isFn K (.ref f) = true) (hv : mA name = none) (h : Q (.ref f, [.ref x]) s) :
    wpAny (model prog w) A (getMethod (.ref x) name pl) Q E s := by
  obtain ⟨od, J, hl⟩ := I.look
  exact PySem.W.method_fn X J (PySem.W.plainGet_of hg).1 (PySem.W.plainGet_of hg).2 hf (beq_iff_eq.mp ht) (by show (PySem.W.lookIn name od).map (·.isSome) = some false; rw [hl, hv]; rfl) h

theorem set_map {ns : List Str} {Q : Unit → Shared → Prop} (X : K.In s.heap) (I : ObjM s.heap x dx C mA)
    (hs : PySem.W.findIn K (.ref C) "__setattr__" = some (some (.builtin "object.__setattr__"))) (hp : PySem.W.plainOver K C = true) (ht : PySem.W.takerIn K C name = some none) (hh : PySem.W.hasDictIn K C = true)
    (hw : PySem.Within mA ns) (hsz : ns.length ≤ sizeLine)
    (h : ∀ h', ObjM h' x dx C (fun y => if y = name then some v else mA y) → Heap.SameBut dx s.heap h' → Q () { s with heap := h', toks := s.toks + 2 }) :
    wpAny (model prog w) A (setAttr (.ref x) name v) Q E s := by
  obtain ⟨od, J, hl⟩ := I.look
  refine PySem.W.set_plain X J hs (PySem.W.osa_open (s := { s with toks := s.toks + 1 }) (r := none) X J hp ht fun b => ?_)
  obtain ⟨cd, hc, hd'⟩ := PySem.W.any_some hh
  have hx : s.heap.get? x = some ⟨.ref C, some dx, .plain, #[]⟩ := I.obj
  refine wpAny_bind (wpAny_pure (wpAny_bind (wpAny_bind (wpAny_loadPart hx (wpAny_bind (PySem.W.Looks.here (s := { s with toks := s.toks + 1 }) (PySem.W.looks_clsIn X hc) ?_))))))
  rw [hd']
  refine wpAny_pure (a := some dx) (wpAny_bind (wpAny_pure (wpAny_bind ?_)))
  refine wpAny_nsSet1 (s := { s with toks := s.toks + 1 }) I.ns fun h' hn2 hs2 => ?_
  obtain ⟨oD, esD, epD, hoD, hdD, hcD⟩ := hn2.count (PySem.Within.cons name v hw)
  refine wpAny_bind (wpAny_lookBehind hoD (by rw [hdD]; exact pastItsLine_dict (Nat.le_trans hcD (by rw [List.length_cons]; omega))) ?_)
  exact wpAny_pure (h _ ⟨(hs2.2 _ (Ne.symm I.ne)).trans I.obj, hn2, I.ne⟩ hs2)

theorem make_map {R : Result → Shared → Prop} {vs : List Value} {kw : List (Str × Value)} (X : K.In s.heap) (hm : PySem.W.makesIn K C = true)
    (hi : PySem.W.findIn K (.ref C) "__init__" = some (some (.ref f))) (hf : PySem.W.typeIn K (.ref f) = some (.type "function"))
    (h : codeAny (model prog w) (A.under (.builtin "type.__call__" ⟨.ref C :: vs, kw⟩)) (.call (.ref f) ⟨.ref (s.heap.objs.size + 1) :: vs, kw⟩) (PySem.W.InitBack (s.heap.objs.size + 1) R)
      { s with heap := (s.heap.push PySem.W.emptyDict).push (PySem.W.instObj C s.heap.objs.size) }) :
    codeAny (model prog w) A (.call (.ref C) ⟨vs, kw⟩) R s := by
  obtain ⟨hh, g, d, t, os⟩ := s
  exact PySem.W.make_core (PySem.W.makes_of X hm) (PySem.W.looks_findIn X hi) (fun self => PySem.W.bind_fn X self hf) (.inl rfl) h
end

/-! ### the attributes as a list of pairs -/
def putF (f : Str) (v : V) : List (Str × V) → List (Str × V)
  | [] => [(f, v)]
  | (g, x) :: r => if g = f then (g, v) :: r else (g, x) :: putF f v r
theorem lookup_putF (f g : Str) (v : V) : ∀ fs : List (Str × V), (putF f v fs).lookup g = if g = f then some v else fs.lookup g
  | [] => by
    show List.lookup g [(f, v)] = _
    by_cases h : g = f
    · have hb : (g == f) = true := beq_iff_eq.mpr h
      simp only [List.lookup, hb, if_pos h]
    · have hb : (g == f) = false := beq_eq_false_iff_ne.mpr h
      simp only [List.lookup, hb, if_neg h]
  | (k, x) :: r => by
    have ih := lookup_putF f g v r
    rw [show putF f v ((k, x) :: r) = (if k = f then (k, v) :: r else (k, x) :: putF f v r) from rfl]
    by_cases hk : k = f
    · rw [if_pos hk]
      by_cases h : g = k
      · have hb : (g == k) = true := beq_iff_eq.mpr h
        simp only [List.lookup, hb, if_pos (h.trans hk)]
      · have hb : (g == k) = false := beq_eq_false_iff_ne.mpr h
        simp only [List.lookup, hb, if_neg (fun e : g = f => h (e.trans hk.symm))]
    · rw [if_neg hk]
      by_cases h : g = k
      · have hb : (g == k) = true := beq_iff_eq.mpr h
        simp only [List.lookup, hb, if_neg (fun e : g = f => hk (h.symm.trans e))]
      · have hb : (g == k) = false := beq_eq_false_iff_ne.mpr h
        simp only [List.lookup, hb]
        exact ih
theorem keys_putF (f : Str) (v : V) : ∀ fs : List (Str × V), f ∈ (putF f v fs).map (·.1) ∧ ∀ g, g ∈ fs.map (·.1) → g ∈ (putF f v fs).map (·.1)
  | [] => ⟨by simp [putF], fun g h => by simp at h⟩
  | (k, x) :: r => by
    obtain ⟨i1, i2⟩ := keys_putF f v r
    rw [show putF f v ((k, x) :: r) = (if k = f then (k, v) :: r else (k, x) :: putF f v r) from rfl]
    by_cases hk : k = f
    · rw [if_pos hk]
      subst hk
      exact ⟨by simp, fun g h => by simpa using h⟩
    · rw [if_neg hk]
      refine ⟨?_, fun g h => ?_⟩
      · rw [List.map_cons]
        exact List.mem_cons_of_mem _ i1
      · rw [List.map_cons] at h ⊢
        rcases List.mem_cons.mp h with e | e
        · exact List.mem_cons.mpr (.inl e)
        · exact List.mem_cons_of_mem _ (i2 g e)
theorem length_putF (f : Str) (v : V) : ∀ fs : List (Str × V), (putF f v fs).length ≤ fs.length + 1
  | [] => by simp [putF]
  | (k, x) :: r => by
    have ih := length_putF f v r
    rw [show putF f v ((k, x) :: r) = (if k = f then (k, v) :: r else (k, x) :: putF f v r) from rfl]
    by_cases hk : k = f
    · rw [if_pos hk, List.length_cons, List.length_cons]; omega
    · rw [if_neg hk, List.length_cons, List.length_cons]; omega

theorem RelO.some_of {v : V} {o : Option Value} (r : RelO (some v) o) : ∃ u, o = some u ∧ RelV v u := by
  cases o with
  | none => exact (show False from r).elim
  | some u => exact ⟨u, rfl, r⟩
theorem RelO.none_of {o : Option Value} (r : RelO none o) : o = none := by
  cases o with
  | none => rfl
  | some u => exact (show False from r).elim
theorem handed_of {v : V} {u : Value} (r : RelV v u) : PySem.W.handedIn u = true := by
  cases v with
  | non => cases (show u = Value.none from r); rfl
  | bl b => cases (show u = Value.bool b from r); rfl
  | int i => obtain ⟨t, e⟩ := (show ∃ t, u = Value.int i t from r); cases e; rfl
  | str x => obtain ⟨t, e⟩ := (show ∃ t, u = Value.str x t from r); cases e; rfl
  | byt b => obtain ⟨t, e⟩ := (show ∃ t, u = Value.bytes b t from r); cases e; rfl
  | flt b => obtain ⟨t, e⟩ := (show ∃ t, u = Value.float b t from r); cases e; rfl
  | ref a => cases (show u = Value.ref a from r); rfl
  | ty n => cases (show u = Value.type n from r); rfl

section
variable {P : Program} {w : World} {H H' : Hp} {h h' : Heap} {a C dx : Addr} {fs fs' : List (Str × V)}
theorem ins_get (hok : HOk P w H h) (e : H a = some (.ins C dx fs)) : ∃ mA, ObjM h a dx C mA ∧ (∀ f, RelO (fs.lookup f) (mA f)) ∧ PySem.Within mA (fs.map (·.1)) ∧ fs.length ≤ 1000 ∧ H dx = some (.own a) := by
  obtain ⟨d, z, ne, ob, mA, n, r, q⟩ := (show ObjOk P w H h a (.ins C dx fs) from hok a _ e)
  exact ⟨mA, ⟨ob, n, ne⟩, r, q, z, d⟩
end

/-! ### what of the text a class must have -/
structure Cls (K : PySem.W.Frag) (C : Addr) : Prop where
  pg : PySem.W.plainGet K C Str.empty = true
  hd : PySem.W.hasDictIn K C = true
  po : PySem.W.plainOver K C = true
  sa : PySem.W.findIn K (.ref C) "__setattr__" = some (some (.builtin "object.__setattr__"))
theorem Cls.get {K : PySem.W.Frag} {C : Addr} (c : Cls K C) (f : Str) : PySem.W.plainGet K C f = true := c.pg
def NoAttr (K : PySem.W.Frag) (C : Addr) (f : Str) : Prop := PySem.W.findIn K (.ref C) f = some none
theorem NoAttr.taker {K : PySem.W.Frag} {C : Addr} {f : Str} (n : NoAttr K C f) : PySem.W.takerIn K C f = some none := by
  unfold PySem.W.takerIn
  rw [show PySem.W.findIn K (.ref C) f = some none from n]
  rfl
structure Con (K : PySem.W.Frag) (C : Addr) (f : Str) (v : V) (u : Value) : Prop where
  at_ : PySem.W.findIn K (.ref C) f = some (some u)
  rel : RelV v u
  get : PySem.W.specialIn K u "__get__" = some none
  cp : PySem.W.copiedNames.contains f = false
structure Meth (K : PySem.W.Frag) (C : Addr) (m : Str) (f : Addr) : Prop where
  at_ : PySem.W.findIn K (.ref C) m = some (some (.ref f))
  fn : PySem.W.isFn K (.ref f) = true
  kp : PySem.W.keepIn K (.ref f) = true

section
variable {X : Cx} {pins : List (Addr × Obj)} {σ : St} {H : Hp} {s : Shared} {a C dx : Addr} {fs : List (Str × V)} {f : Str} {v : V} {A : Around} {E : Value → Shared → Prop}

theorem getattr_ok {b : Bool} {Q : Value → Shared → Prop} (I : Inv X pins σ H s) (e : H a = some (.ins C dx fs)) (c : Cls X.K C) (n : NoAttr X.K C f) (l : fs.lookup f = some v)
    (h : ∀ u s', Inv X pins σ H s' → RelV v u → Q u s') : wpAny (model X.prog X.w) A (getAttr (.ref a) f b) Q E s := by
  obtain ⟨mA, O, r, _, _, _⟩ := ins_get I.hok e
  obtain ⟨u, hu, ru⟩ := RelO.some_of (v := v) (o := mA f) (by rw [← l]; exact r f)
  exact get_map I.kIn O (c.get f) c.hd n hu (handed_of ru) (h u _ (I.tok _) ru)

theorem getmeth_ok {m : Str} {g : Addr} {pl : Sem Bool} {Q : Value × List Value → Shared → Prop} (I : Inv X pins σ H s) (e : H a = some (.ins C dx fs)) (c : Cls X.K C) (k : Meth X.K C m g) (l : fs.lookup m = none)
    (h : Q (.ref g, [.ref a]) s) : wpAny (model X.prog X.w) A (getMethod (.ref a) m pl) Q E s := by
  obtain ⟨mA, O, r, _, _, _⟩ := ins_get I.hok e
  have hn : mA m = none := RelO.none_of (by rw [← l]; exact r m)
  exact get_meth I.kIn O (c.get m) k.at_ k.fn hn h

theorem setattr_ok {y : V} {u : Value} {Q : Unit → Shared → Prop} (I : Inv X pins σ H s) (e : H a = some (.ins C dx fs)) (c : Cls X.K C) (n : NoAttr X.K C f) (hl : fs.length < 1000) (ry : RelV y u)
    (h : ∀ s', Inv X pins σ (upd H a (.ins C dx (putF f y fs))) s' → Q () s') : wpAny (model X.prog X.w) A (setAttr (.ref a) f u) Q E s := by
  obtain ⟨mA, O, r, wi, _, ho⟩ := ins_get I.hok e
  have hz : (fs.map (·.1)).length ≤ sizeLine := by rw [List.length_map, sizeLine_eq]; omega
  refine set_map I.kIn O c.sa c.po n.taker c.hd wi hz fun h' O' sb => h _ ?_
  have hd : ∃ o, h'.get? dx = some o := let ⟨o, _, _, e', _⟩ := O'.ns; ⟨o, e'⟩
  refine I.write (x := a) (e := dx) (by rw [e]; exact True.intro) (.inr ho) (fun b q hb z => (sb.2 b hb).trans z) hd ?_
  refine ⟨by rw [upd_ne O.ne]; exact ho, ?_, O.ne, O'.obj, _, O'.ns, fun g => ?_, fun g hg => ?_⟩
  · have := length_putF f y fs; omega
  · show RelO ((putF f y fs).lookup g) (if g = f then some u else mA g)
    rw [lookup_putF]
    by_cases q : g = f
    · rw [if_pos q, if_pos q]; exact ry
    · rw [if_neg q, if_neg q]; exact r g
  · by_cases q : g = f
    · rw [q]; exact (keys_putF f y fs).1
    · refine (keys_putF f y fs).2 g (wi g fun z => hg ?_)
      show (if g = f then some u else mA g) = none
      rw [if_neg q]; exact z

theorem Inv.made (I : Inv X pins σ H s) : Inv X pins σ (upd (upd H s.heap.objs.size (.own (s.heap.objs.size + 1))) (s.heap.objs.size + 1) (.ins C s.heap.objs.size []))
    { s with heap := (s.heap.push PySem.W.emptyDict).push (PySem.W.instObj C s.heap.objs.size) } := by
  have e1 : (s.heap.push PySem.W.emptyDict).get? s.heap.objs.size = some PySem.W.emptyDict := Heap.get?_push_size s.heap rfl
  have e2 : ((s.heap.push PySem.W.emptyDict).push (PySem.W.instObj C s.heap.objs.size)).get? (s.heap.objs.size + 1) = some (PySem.W.instObj C s.heap.objs.size) := by
    have := Heap.get?_push_size (s.heap.push PySem.W.emptyDict) (o := PySem.W.instObj C s.heap.objs.size) rfl
    rwa [Heap.size_push] at this
  have e3 : (s.heap.push PySem.W.emptyDict).Ns s.heap.objs.size (fun _ => none) := ⟨PySem.W.emptyDict, #[], _, e1, rfl, (fun e he => absurd he (by simp)), fun _ => rfl⟩
  have I1 := I.laid (a := s.heap.objs.size) (o := .own (s.heap.objs.size + 1)) (h' := s.heap.push PySem.W.emptyDict) (t' := s.toks) (fun b u q => Heap.get?_push_of_some _ q) (Nat.le_refl _) ⟨_, e1⟩
  refine I1.laid (a := s.heap.objs.size + 1) (o := .ins C s.heap.objs.size []) (t' := s.toks) (fun b u q => Heap.get?_push_of_some _ q) (Nat.le_of_eq (Heap.size_push _ _)) ?_
  have ne : s.heap.objs.size ≠ s.heap.objs.size + 1 := Nat.ne_of_lt (Nat.lt_succ_self _)
  refine ⟨by rw [upd_ne ne, upd_same], Nat.zero_le _, ne, e2, fun _ => none, (Heap.Ns1.of_empty e3).at fun o q => Heap.get?_push_of_some _ q, fun _ => True.intro, fun y hy => absurd rfl hy⟩

theorem attr_of {prog : Program} {w : World} {env : Env} {e : Expr} {f : Str} {pos : Pos} {s : Shared} {Q : Value → Shared → Prop} (hb : attributeBase e f env (eval e env) = eval e env)
    (h : wpAny (model prog w) A (eval e env) (fun o s₁ => wpAny (model prog w) A (getAttr o f true) Q E s₁) E s) : wpAny (model prog w) A (eval (.Attribute e f pos) env) Q E s :=
  Attribute_any_ h (by rw [arm_eval_Attribute, hb])
end

/-! ### readings and rules -/
section
variable {X : Cx} {o e value : Expr} {f : Str} {pos pos' tpos : Pos} {ta tv : TE}
end

/-! ### isinstance -/
section
variable {X : Cx} {pins : List (Addr × Obj)} {σ : St} {H : Hp} {s : Shared} {A : Around} {E : Value → Shared → Prop} {Q : Value → Shared → Prop} {c : Value} {b : Bool}
inductive TyOf (K : PySem.W.Frag) (H : Hp) : V → Value → Prop where
  | non : TyOf K H .non (.type "NoneType")
  | bl (x : Bool) : TyOf K H (.bl x) (.type "bool")
  | int (i : Int) : TyOf K H (.int i) (.type "int")
  | str (x : Str) : TyOf K H (.str x) (.type "str")
  | flt (x : UInt64) : TyOf K H (.flt x) (.type "float")
  | lst {a : Addr} {xs : List V} (e : H a = some (.lst xs)) : TyOf K H (.ref a) (.type "list")
  | frz {a : Addr} {o : Obj} {xs : List V} (e : H a = some (.frz o (.lst xs))) : TyOf K H (.ref a) (.type "list")
  | tup {a : Addr} {xs : List V} (e : H a = some (.tup xs)) : TyOf K H (.ref a) (.type "tuple")
  | dK {a : Addr} {kvs : List (Key × V)} (e : H a = some (.dK kvs)) : TyOf K H (.ref a) (.type "dict")
  | dT {a : Addr} {kvs : List (List Key × V)} (e : H a = some (.dT kvs)) : TyOf K H (.ref a) (.type "dict")
  | ins {a C dx : Addr} {fs : List (Str × V)} (e : H a = some (.ins C dx fs)) (cl : Cls K C) (ha : PySem.W.findIn K (.ref C) "__class__" = some (some (.builtin "object.__class__")))
      (hn : PySem.W.specialIn K (.builtin "object.__class__") "__get__" = some (some (.builtin "getset_descriptor.__get__"))) (htk : PySem.W.takesIn K (.builtin "object.__class__") = some true)
      (hm : PySem.W.mroIn K C (.type "object") = some true) : TyOf K H (.ref a) (.ref C)
end
end L2

namespace L2
open PySem PySem.Spec PyProof.Rows

/-! ### room -/
structure Room (k : Nat) (A : Around) : Prop where
  hd : A.handled = none
  dp : A.depth + 3 * k + 5 < recursionLimit
  un : A.units + 16 * k + 200 < cLine
theorem Room.mono {j k : Nat} {A : Around} (r : Room k A) (h : j ≤ k) : Room j A := ⟨r.hd, by have := r.dp; omega, by have := r.un; omega⟩
theorem Room.deeper {k : Nat} {A : Around} (r : Room (k + 1) A) (env : Env) : Room k (A.deeper env) :=
  ⟨r.hd, by have := r.dp; show A.depth + 1 + 3 * k + 5 < _; omega, by have := r.un; show A.units + 3 + 16 * k + 200 < _; omega⟩
theorem Room.in1 {k : Nat} {A : Around} (r : Room (k + 1) A) : Room k A.in1 :=
  ⟨r.hd, by have := r.dp; show A.depth + 3 * k + 5 < _; omega, by have := r.un; show A.units + 1 + 16 * k + 200 < _; omega⟩
theorem make_depth {A : Around} {C : Addr} {us : List Value} {kw : List (Str × Value)} : (A.under (.builtin "type.__call__" ⟨.ref C :: us, kw⟩)).depth = A.depth + 1 := by
  first | rfl | simp [Around.under, Code.weight, Code.isCreation, Code.isGuard, Code.isCaller, Code.frames, Code.isFrame, guardIds]
theorem make_units {A : Around} {C : Addr} {us : List Value} {kw : List (Str × Value)} : (A.under (.builtin "type.__call__" ⟨.ref C :: us, kw⟩)).units = A.units + 1 := by
  first | rfl | simp [Around.under, Code.cUnits, Code.frames, Code.isFrame]
theorem Room.make {k : Nat} {A : Around} (r : Room (k + 1) A) (C : Addr) (us : List Value) (kw : List (Str × Value)) : Room k (A.under (.builtin "type.__call__" ⟨.ref C :: us, kw⟩)) :=
  ⟨r.hd, by have := r.dp; rw [make_depth]; omega, by have := r.un; rw [make_units]; omega⟩
theorem Room.depth {k : Nat} {A : Around} (r : Room k A) : A.depth < recursionLimit := by have := r.dp; omega
theorem Room.units {k : Nat} {A : Around} (r : Room k A) : A.units + 64 < cLine := by have := r.un; omega
/-! ### argument lists and displays -/
def tNil : TA := fun _ H Q => Q [] H
def tCons (ta : TE) (tr : TA) : TA := fun σ H Q => ta σ H fun x H1 => tr σ H1 fun xs H2 => Q (x :: xs) H2
section
variable {X : Cx} {e : Expr} {es : List Expr} {te : TE} {t : TA} {pos : Pos}
theorem pa_nil : PA X [] tNil := fun _ _ _ _ H Q I h => Calls.spliced_nil ⟨[], H, I, .nil, h⟩
theorem pa_cons (ha : PE X e te) (hr : PA X es t) (hs : starEach (e :: es) X.env = (false, eval e X.env) :: starEach es X.env := by rfl) : PA X (e :: es) (tCons te t) := by
  intro pos pins s σ H Q I h
  rw [hs]
  show wpAny _ _ (spliced ((false, eval e X.env) :: backTo pos (starEach es X.env))) _ _ s
  refine Calls.spliced_cons (thn (ha pins s σ H _ I h) fun u s1 ⟨x, H1, I1, r1, q1⟩ => ?_)
  exact thn (hr pos pins s1 σ H1 _ I1 q1) fun us s2 ⟨xs, H2, I2, r2, q2⟩ => ⟨x :: xs, H2, I2, .cons r1 r2, q2⟩

def tTup (t : TA) : TE := fun σ H Q => t σ H fun xs H1 => xs.length ≤ sizeLine ∧ ∀ p, H1 p = none → Q (.ref p) (upd H1 p (.tup xs))
def tLst (t : TA) : TE := fun σ H Q => t σ H fun xs H1 => xs.length ≤ sizeLine ∧ ∀ p, H1 p = none → Q (.ref p) (upd H1 p (.lst xs))
theorem pe_tup {x1} (h : PA X es t) : PE X (.Tuple es x1 pos) (tTup t) := by
  intro pins s σ H Q I hq
  refine wpAny_Tuple_spliced (thn (h pos pins s σ H _ I hq) fun us s1 ⟨xs, H1, I1, r, z, q⟩ => ⟨by rw [← r.length]; exact z, ?_⟩)
  have hf : H1 s1.heap.objs.size = none := I1.hok.fresh (Nat.le_refl _)
  refine ⟨.ref s1.heap.objs.size, upd H1 s1.heap.objs.size (.tup xs), I1.laid (t' := s1.toks) (fun b u e => Heap.get?_push_of_some _ e) (Nat.le_refl _) ?_, rfl, q _ hf⟩
  exact ⟨z, us, r, ⟨_, Heap.get?_push_size _ rfl, rfl, _, rfl⟩⟩
theorem pe_lst (h : PA X es t) : PE X (.List es pos) (tLst t) := by
  intro pins s σ H Q I hq
  refine wpAny_List_spliced (thn (h pos pins s σ H _ I hq) fun us s1 ⟨xs, H1, I1, r, z, q⟩ => ⟨by rw [← r.length]; exact z, ?_⟩)
  have hf : H1 s1.heap.objs.size = none := I1.hok.fresh (Nat.le_refl _)
  refine ⟨.ref s1.heap.objs.size, upd H1 s1.heap.objs.size (.lst xs), I1.laid (t' := s1.toks) (fun b u e => Heap.get?_push_of_some _ e) (Nat.le_refl _) ?_, rfl, q _ hf⟩
  exact ⟨z, us, 0, r, Heap.get?_push_size _ rfl⟩
end

/-! ### what a def promises -/
abbrev Sp := List V → Hp → VK → XK → Prop
abbrev CXT := List Env → Hp → Shared → XK → Value → Shared → Prop

structure Env0 (P : Program) (w : World) (K : PySem.W.Frag) (mg : Str → Option Value) (base : Heap) (A : Around) (outer : List Env) (s : Shared) (H : Hp) : Prop where
  frames : A.frames = some outer
  mod : Mod K mg base
  bs : ∀ b o, base.get? b = some o → s.heap.get? b = some o ∧ H b = none
  bsz : base.objs.size ≤ s.heap.objs.size
  funs : s.heap.FunFrames base outer
  frf : ∀ b ∈ frs outer, H b = none
  hok : HOk P w H s.heap
  bare : AllBare s.gens
def CE (outer : List Env) (P : Program) (w : World) (H : Hp) (s : Shared) (Q : VK) (u : Value) (s' : Shared) : Prop :=
  ∃ v H', s'.os = s.os ∧ AllBare s'.gens ∧ Un (frs outer) [] H H' s.heap s'.heap ∧ HOk P w H' s'.heap ∧ RelV v u ∧ Q v H'
def CR (CX : CXT) (outer : List Env) (P : Program) (w : World) (H : Hp) (s : Shared) (Q : VK) (E : XK) (r : Result) (s' : Shared) : Prop :=
  match r with
  | .ok (.ret u) => CE outer P w H s Q u s'
  | .ok _ => False
  | .error e => CX outer H s E e s'
structure FnOk (P : Program) (w : World) (K : PySem.W.Frag) (mg : Str → Option Value) (base : Heap) (CX : CXT) (k : Nat) (f : Addr) (fd : FuncData) (ps : List Str) (sp : Sp) : Prop where
  len : ∀ vs H Q E, sp vs H Q E → vs.length = ps.length
  run : ∀ (A : Around) (outer : List Env) (s : Shared) (H : Hp) (args : Args) (us : List Value) (vs : List V) (Q : VK) (E : XK), Room k A → Env0 P w K mg base A outer s H → BindsTo s fd args (ps.zip us) → Vals vs us → sp vs H Q E →
    codeAny (model P w) A (.call (.ref f) args) (CR CX outer P w H s Q E) s
theorem FnOk.mono {P : Program} {w : World} {K : PySem.W.Frag} {mg : Str → Option Value} {base : Heap} {CX : CXT} {j k : Nat} {f : Addr} {fd : FuncData} {ps : List Str} {sp : Sp} (F : FnOk P w K mg base CX j f fd ps sp) (h : j ≤ k) :
    FnOk P w K mg base CX k f fd ps sp := ⟨F.len, fun A outer s H args us vs Q E hr => F.run A outer s H args us vs Q E (hr.mono h)⟩
theorem FnOk.imp {P : Program} {w : World} {K : PySem.W.Frag} {mg : Str → Option Value} {base : Heap} {CX : CXT} {k : Nat} {f : Addr} {fd : FuncData} {ps : List Str} {sp sp' : Sp} (F : FnOk P w K mg base CX k f fd ps sp)
    (h : ∀ vs H Q E, sp' vs H Q E → sp vs H Q E) : FnOk P w K mg base CX k f fd ps sp' :=
  ⟨fun vs H Q E q => F.len vs H Q E (h _ _ _ _ q), fun A outer s H args us vs Q E hr he hb hv hs => F.run A outer s H args us vs Q E hr he hb hv (h _ _ _ _ hs)⟩

theorem Env0.make {P : Program} {w : World} {K : PySem.W.Frag} {mg : Str → Option Value} {base : Heap} {A : Around} {outer : List Env} {s : Shared} {H : Hp} (e : Env0 P w K mg base A outer s H) (C : Addr) (us : List Value) (kw : List (Str × Value)) :
    Env0 P w K mg base (A.under (.builtin "type.__call__" ⟨.ref C :: us, kw⟩)) outer s H := ⟨by first | exact e.frames | (simpa [Around.under, Code.envs, Code.isFrame, pushEnvs] using e.frames), e.mod, e.bs, e.bsz, e.funs, e.frf, e.hok, e.bare⟩
theorem Env0.in1 {P : Program} {w : World} {K : PySem.W.Frag} {mg : Str → Option Value} {base : Heap} {A : Around} {outer : List Env} {s : Shared} {H : Hp} (e : Env0 P w K mg base A outer s H) :
    Env0 P w K mg base A.in1 outer s H := ⟨e.frames, e.mod, e.bs, e.bsz, e.funs, e.frf, e.hok, e.bare⟩

section
variable {X : Cx} {pins : List (Addr × Obj)} {σ : St} {H : Hp} {s s' : Shared}
theorem Inv.env0 (I : Inv X pins σ H s) : Env0 X.prog X.w X.K X.mg X.base X.A X.stack s H :=
  ⟨I.ok.frames, I.ok.mod, I.bs, Nat.le_trans I.ok.bsz I.sz, I.stack, I.stkFree, I.hok, I.bare⟩
theorem Inv.after {Q : VK} {u : Value} (I : Inv X pins σ H s) (h : CE X.stack X.prog X.w H s Q u s') : EP X pins σ Q u s' := by
  obtain ⟨v, H', os, bare, un, hok, r, q⟩ := h
  obtain ⟨hh, g, d, t, os'⟩ := s'
  obtain rfl : os' = s.os := os
  exact ⟨v, H', I.call (h' := hh) (g' := g) (d' := d) (t' := t) (ch := []) un hok bare (fun b z => absurd z (by simp)), r, q⟩
end

/-! ### calls -/
def tCall (sp : Sp) (dvs : List V) (E : XK) (t : TA) : TE := fun σ H Q => t σ H fun vs H1 => sp (vs ++ dvs) H1 Q E
def Binds (K : PySem.W.Frag) (fd : FuncData) (ps : List Str) (ds : List Value) : Prop :=
  ∀ (s : Shared) (us : List Value), K.In s.heap → (us ++ ds).length = ps.length → BindsTo s fd ⟨us, []⟩ (ps.zip (us ++ ds))
theorem Binds.all {K : PySem.W.Frag} {fd : FuncData} {ps : List Str} (h : ∀ us : List Value, us.length = ps.length → bindArgs fd ⟨us, []⟩ = pure (ps.zip us)) : Binds K fd ps [] := fun s us _ hl => by
  rw [List.append_nil] at hl ⊢
  exact .of_eq (h us hl)

def Passes (CX : CXT) (X : Cx) (E : XK) : Prop := ∀ (pins : List (Addr × Obj)) (σ : St) (H : Hp) (s : Shared) (e : Value) (s' : Shared), Inv X pins σ H s → CX X.stack H s E e s' → X.xe e s'

section
variable {X : Cx} {CX : CXT} {k : Nat} {f C : Addr} {fd : FuncData} {ps : List Str} {sp : Sp} {dvs : List V} {ds : List Value} {E : XK} {x m : Str} {p pos apos : Pos} {e o : Expr} {es : List Expr} {ta : TE} {t : TA}

theorem run_fn {pins : List (Addr × Obj)} {σ : St} {H : Hp} {s : Shared} {Q : VK} {us : List Value} {vs : List V} (F : FnOk X.prog X.w X.K X.mg X.base CX k f fd ps sp) (hr : Room k X.A) (hb : Binds X.K fd ps ds) (hd : Vals dvs ds) (hx : Passes CX X E)
    (I : Inv X pins σ H s) (r : Vals vs us) (h : sp (vs ++ dvs) H Q E) : wpAny (model X.prog X.w) X.A (call (.ref f) us) (EP X pins σ Q) X.xe s := by
  have r2 : Vals (vs ++ dvs) (us ++ ds) := r.append hd
  have hl : (us ++ ds).length = ps.length := by rw [← r2.length]; exact F.len _ _ _ _ h
  refine wpAny_call (codeAny_mono (F.run X.A X.stack s H ⟨us, []⟩ (us ++ ds) (vs ++ dvs) Q E hr I.env0 (hb s us I.kIn hl) r2 h) fun r s' hq => ?_)
  cases r with
  | error e => exact hx pins σ H s e s' I hq
  | ok fl =>
    cases fl with
    | ret u => exact I.after hq
    | next => exact False.elim hq
    | brk => exact False.elim hq
    | cont => exact False.elim hq

theorem pe_call (F : FnOk X.prog X.w X.K X.mg X.base CX k f fd ps sp) (hr : Room k X.A) (hg : Gl X x) (hm : X.mg x = some (.ref f)) (hk : PySem.W.keepIn X.K (.ref f) = true) (hb : Binds X.K fd ps ds) (hd : Vals dvs ds) (hx : Passes CX X E)
    (ha : PA X (e :: es) t) (hdb : (x == ("__debug__" : Str)) = false := by decide) (he : starEach (e :: es) X.env = (false, eval e X.env) :: starEach es X.env := by rfl) (hpl : (backTo pos (starEach es X.env)).any (·.1) = false := by rfl) :
    PE X (.Call (.Name x p) (e :: es) [] pos) (tCall sp dvs E t) := by
  intro pins s σ H Q I h
  refine wpAny_Call_Name_kw (ld_glob I hg hm ?_ hdb)
  refine PySem.W.callWith_K (h₀ := X.base) I.ok.mod.kin hk (thn (ha pos pins s σ H _ I h) fun us s1 ⟨vs, H1, I1, r, q⟩ => ⟨I1.kIn, ?_⟩) he hpl
  exact run_fn F hr hb hd hx I1 r q
structure Mk (K : PySem.W.Frag) (C f : Addr) : Prop where
  makes : PySem.W.makesIn K C = true
  init : PySem.W.findIn K (.ref C) "__init__" = some (some (.ref f))
  fn : PySem.W.isFn K (.ref f) = true
  kp : PySem.W.keepIn K (.ref C) = true

theorem run_make {pins : List (Addr × Obj)} {σ : St} {H : Hp} {s : Shared} {Q : VK} {us : List Value} {vs : List V} (M : Mk X.K C f) (F : FnOk X.prog X.w X.K X.mg X.base CX k f fd ps sp) (hr : Room (k + 1) X.A) (hb : Binds X.K fd ps ds) (hd : Vals dvs ds)
    (hx : Passes CX X E) (I : Inv X pins σ H s) (r : Vals vs us)
    (h : ∀ x dx, H x = none → H dx = none → dx ≠ x → sp (.ref x :: (vs ++ dvs)) (upd (upd H dx (.own x)) x (.ins C dx [])) (fun v H2 => v = .non ∧ Q (.ref x) H2) E) :
    wpAny (model X.prog X.w) X.A (call (.ref C) us) (EP X pins σ Q) X.xe s := by
  have hq := h (s.heap.objs.size + 1) s.heap.objs.size (I.hok.fresh (Nat.le_succ _)) (I.hok.fresh (Nat.le_refl _)) (Nat.ne_of_lt (Nat.lt_succ_self _))
  have I2 := Inv.made (C := C) I
  have r2 : Vals (V.ref (s.heap.objs.size + 1) :: (vs ++ dvs)) (Value.ref (s.heap.objs.size + 1) :: (us ++ ds)) := .cons rfl (r.append hd)
  have hl : (Value.ref (s.heap.objs.size + 1) :: us ++ ds).length = ps.length := by
    have e := r2.length
    rw [F.len _ _ _ _ hq] at e
    exact e.symm
  refine wpAny_call (make_map (f := f) I.kIn M.makes M.init (beq_iff_eq.mp M.fn) (codeAny_mono (F.run _ X.stack _ _ ⟨Value.ref (s.heap.objs.size + 1) :: us, []⟩ (Value.ref (s.heap.objs.size + 1) :: (us ++ ds)) _ _ E (hr.make C us [])
    (I2.env0.make C us []) (hb _ (Value.ref (s.heap.objs.size + 1) :: us) I2.kIn hl) r2 hq) fun r s' hq' => ?_))
  cases r with
  | error e => exact hx pins σ _ _ e s' I2 hq'
  | ok fl =>
    cases fl with
    | ret u =>
      obtain ⟨v, H', I3, rv, ev, q3⟩ := I2.after hq'
      subst ev
      exact ⟨rv, ⟨V.ref (s.heap.objs.size + 1), H', I3, rfl, q3⟩⟩
    | next => exact False.elim hq'
    | brk => exact False.elim hq'
    | cont => exact False.elim hq'
end

/-! ### keywords -/
section
variable {X : Cx} {CX : CXT} {k : Nat} {f C : Addr} {fd : FuncData} {ps ks : List Str} {sp : Sp} {E : XK} {x m : Str} {p pos apos kpos : Pos} {e o : Expr} {es : List Expr} {kws : List Keyword} {te ta : TE} {t tk : TA} {nm : Option Str}
structure KBinds (K : PySem.W.Frag) (fd : FuncData) (ps ks : List Str) (g : List Value → List Value → List Value) (gV : List V → List V → List V) : Prop where
  to : ∀ (s : Shared) (us ws : List Value), K.In s.heap → (g us ws).length = ps.length → BindsTo s fd ⟨us, ks.zip ws⟩ (ps.zip (g us ws))
  rel : ∀ {vs : List V} {us : List Value} {zs : List V} {ws : List Value}, Vals vs us → Vals zs ws → Vals (gV vs zs) (g us ws)
variable {g : List Value → List Value → List Value} {gV : List V → List V → List V}
end

/-! ### a def's body keeps its promise -/
structure FnScope (N P : List Str) (sc : Scope) : Prop where
  kind : sc.kind = .function
  co : sc.isCoroutine = false
  gen : sc.isGenerator = false
  nd : N.Nodup
  pre : N.take P.length = P
  par : ∀ x ∈ P, sc.names.lookup x = some .local ∨ sc.names.lookup x = some .cell
  nofree : ∀ y ∈ sc.names, y.2 ≠ .free

theorem bindL_out {kindOf : Str → Option NameKind} {x : Str} : ∀ {binds : List (Str × Value)} {m : Str → Option Value}, (∀ v, (x, v) ∉ binds) → bindL kindOf binds m x = m x
  | [], _, _ => rfl
  | (n, v) :: r, m, h => by
    unfold bindL
    rw [bindL_out fun w hw => h w (List.mem_cons_of_mem _ hw)]
    split
    · have : x ≠ n := by rintro rfl; exact h v List.mem_cons_self
      simp [this]
    · rfl
theorem bindC_out {kindOf : Str → Option NameKind} {x : Str} : ∀ {binds : List (Str × Value)} {m : Str → Option Value}, (∀ v, (x, v) ∉ binds) → bindC kindOf binds m x = m x
  | [], _, _ => rfl
  | (n, v) :: r, m, h => by
    unfold bindC
    rw [bindC_out fun w hw => h w (List.mem_cons_of_mem _ hw)]
    split
    · rfl
    · have : x ≠ n := by rintro rfl; exact h v List.mem_cons_self
      simp [this]
theorem bindL_get {kindOf : Str → Option NameKind} {x : Str} {v : Value} : ∀ {P : List Str} {vs : List Value} {i : Nat} {m : Str → Option Value}, P.Nodup → P[i]? = some x → vs[i]? = some v → kindOf x = some .local →
    bindL kindOf (P.zip vs) m x = some v
  | [], _, _, _, _, h, _, _ => by simp at h
  | _ :: _, [], _, _, _, _, h, _ => by simp at h
  | p :: P, w :: vs, 0, m, nd, h1, h2, hk => by
    simp at h1 h2; subst h1; subst h2
    show bindL kindOf ((p, w) :: P.zip vs) m p = _
    unfold bindL
    rw [bindL_out fun v hv => (List.nodup_cons.mp nd).1 (List.of_mem_zip hv).1, if_pos hk]
    simp
  | p :: P, w :: vs, i + 1, m, nd, h1, h2, hk => by
    show bindL kindOf ((p, w) :: P.zip vs) m x = _
    unfold bindL
    exact bindL_get (i := i) (List.nodup_cons.mp nd).2 (by simpa using h1) (by simpa using h2) hk
theorem bindC_get {kindOf : Str → Option NameKind} {x : Str} {v : Value} : ∀ {P : List Str} {vs : List Value} {i : Nat} {m : Str → Option Value}, P.Nodup → P[i]? = some x → vs[i]? = some v → kindOf x ≠ some .local →
    bindC kindOf (P.zip vs) m x = some v
  | [], _, _, _, _, h, _, _ => by simp at h
  | _ :: _, [], _, _, _, _, h, _ => by simp at h
  | p :: P, w :: vs, 0, m, nd, h1, h2, hk => by
    simp at h1 h2; subst h1; subst h2
    show bindC kindOf ((p, w) :: P.zip vs) m p = _
    unfold bindC
    rw [bindC_out fun v hv => (List.nodup_cons.mp nd).1 (List.of_mem_zip hv).1, if_neg hk]
    simp
  | p :: P, w :: vs, i + 1, m, nd, h1, h2, hk => by
    show bindC kindOf ((p, w) :: P.zip vs) m x = _
    unfold bindC
    exact bindC_get (i := i) (List.nodup_cons.mp nd).2 (by simpa using h1) (by simpa using h2) hk

def start (N : List Str) (vs : List V) : St := vs.map some ++ List.replicate (N.length - vs.length) none

def cxOf (CX : CXT) (P : Program) (w : World) (K : PySem.W.Frag) (mg : Str → Option Value) (base : Heap) (N : List Str) (qual : Str) (scope : Scope) (f : Addr) (cd : Value) (A : Around) (outer : List Env) (s : Shared) (H : Hp) (E : XK) : Cx where
  prog := P
  w := w
  K := K
  mg := mg
  base := base
  A := A.deeper (envOfC qual scope s.heap.objs.size f cd)
  N := N
  s₀ := s
  H₀ := H
  env := envOfC qual scope s.heap.objs.size f cd
  outer := outer
  stack := envOfC qual scope s.heap.objs.size f cd :: outer
  ex := []
  calm := true
  fn := fun _ => true
  pn := []
  xe := fun e s' => wpAny (model P w) (A.deeper (envOfC qual scope s.heap.objs.size f cd)) (leaving (envOfC qual scope s.heap.objs.size f cd) e) (fun _ s'' => CX outer H s E e s'') (fun e' s'' => CX outer H s E e' s'') s'

theorem cell_has {sc : Scope} {n : Nat} {x : Str} (h : sc.names.lookup x = some .cell) : ∃ c, (cellsFrom n sc.names []).lookup x = some c := by
  have q := PySem.W.cellsFrom_some sc.names n [] (.inl h)
  exact Option.isSome_iff_exists.mp q

theorem inv_start {CX : CXT} {P : Program} {w : World} {K : PySem.W.Frag} {mg : Str → Option Value} {base : Heap} {N ps : List Str} {qual : Str} {scope : Scope} {f : Addr} {cd : Value} {A : Around} {outer : List Env} {s s1 : Shared} {H : Hp} {E : XK} {us : List Value} {vs : List V}
    (S : FnScope N ps scope) (hd : A.handled = none) (e0 : Env0 P w K mg base A outer s H) (hl : vs.length = ps.length) (r : Vals vs us)
    (x : InCallC s s.heap.objs.size (bindL (envOfC qual scope s.heap.objs.size f cd).kindOf (ps.zip us) fun _ => none) (cellsFrom (s.heap.objs.size + 1) scope.names []) (bindC (envOfC qual scope s.heap.objs.size f cd).kindOf (ps.zip us) fun _ => none) s1) :
    Inv (cxOf CX P w K mg base N qual scope f cd A outer s H E) [] (start N vs) H s1 := by
  have hpl : ps.length ≤ N.length := by have := congrArg List.length S.pre; rw [List.length_take] at this; omega
  obtain ⟨h1, tk, rfl, hk⟩ := x.done
  have noA : ∀ b : Addr, b ∉ (cxOf CX P w K mg base N qual scope f cd A outer s H E).ex := fun b z => absurd (show b ∈ ([] : List Addr) from z) (by simp)
  refine ⟨⟨e0.mod, S.kind, rfl, rfl, Nat.le_refl _, fun y z c h1 h2 => ?_, fun y hy => ?_, fun y c _ h => ?_, fun _ => hd, Around.frames_deeper e0.frames, .inr ⟨rfl, rfl⟩, fun b z => absurd z (noA b), e0.bs, e0.bsz, fun b _ _ => noA b, fun b z => absurd z (noA b), e0.funs, e0.frf⟩,
    rfl, e0.bare, Un.kept hk, ⟨_, x.toInCall.ns, fun i y v h1 h2 h3 => ?_⟩, fun y c h => ⟨_, x.cell y c h⟩, e0.hok.fresh (Nat.le_refl _), fun y c h => ?_, fun p hp => absurd (show p ∈ ([] : List (Addr × Obj)) from hp) (by simp), e0.hok.kept hk, ?_⟩
  · exact name_of_addr x.apart (PySem.mem_of_lookup h1) (PySem.mem_of_lookup h2)
  · have hy : scope.names.lookup y = some .cell ∨ scope.names.lookup y = some .free := hy
    rcases hy with hy | hy
    · exact cell_has hy
    · exact absurd rfl (S.nofree _ (PySem.mem_of_lookup hy))
  · exact Nat.le_of_lt (x.above y c (PySem.mem_of_lookup h))
  · have hi : i < vs.length := by
      unfold start at h2
      by_cases hi : i < vs.length
      · exact hi
      · rw [List.getElem?_append_right (by simpa using hi)] at h2
        rw [List.getElem?_replicate] at h2
        split at h2 <;> cases h2
    have ha : vs[i]? = some v := by
      unfold start at h2
      rw [List.getElem?_append_left (by simpa using hi), List.getElem?_map] at h2
      cases e : vs[i]? with
      | none => rw [e] at h2; cases h2
      | some a => rw [e] at h2; cases h2; rfl
    obtain ⟨u, hu, rv⟩ := r.get ha
    have hp : ps[i]? = some y := by
      rw [← S.pre, List.getElem?_take_of_lt (by omega)]; exact h1
    have ndP : ps.Nodup := by rw [← S.pre]; exact S.nd.sublist (List.take_sublist _ _)
    refine ⟨u, rv, ?_⟩
    rcases S.par y (List.mem_of_getElem? hp) with k | k
    · exact .inl ⟨k, bindL_get ndP hp hu k⟩
    · obtain ⟨c, e⟩ := cell_has (n := s.heap.objs.size + 1) k
      refine .inr ⟨.inl k, c, e, ?_⟩
      have q := x.cell y c e
      rw [bindC_get ndP hp hu (by show scope.names.lookup y ≠ _; rw [k]; decide)] at q
      exact q
  · exact e0.hok.fresh (Nat.le_of_lt (x.above y c (PySem.mem_of_lookup h)))
  · unfold start
    show _ = N.length
    rw [List.length_append, List.length_map, List.length_replicate]
    omega

theorem fn_of {CX : CXT} {P : Program} {w : World} {K : PySem.W.Frag} {mg : Str → Option Value} {base : Heap} {k : Nat} {f : Addr} {name qual : Str} {params : Arguments} {body : List Stmt} {scope : Scope} {dV kV doc pm cdv ct oc : Value} {an od : Option Addr}
    {osl : Array (Option Value)} {N ps : List Str} {sp : Sp} (lk : K.lookup f = some ⟨oc, od, .func (PySem.W.fnOf name qual params body scope dV kV doc pm an cdv ct), osl⟩) (hcd : PySem.W.codeIn K cdv qual = true) (S : FnScope N ps scope)
    (len : ∀ vs H Q E, sp vs H Q E → vs.length = ps.length)
    (hbody : ∀ (A : Around) (outer : List Env) (s : Shared) (H : Hp) (vs : List V) (Q : VK) (E : XK), Room k (A.deeper (envOfC qual scope s.heap.objs.size f cdv)) → sp vs H Q E →
      ∃ t, PSs (cxOf CX P w K mg base N qual scope f cdv A outer s H E) body t ∧ t { nx := fun _ H' => Q .non H', rt := Q } (start N vs) H) :
    FnOk P w K mg base CX (k + 1) f (PySem.W.fnOf name qual params body scope dV kV doc pm an cdv ct) ps sp := by
  refine ⟨len, fun A outer s H args us vs Q E hr e0 hb r hsp => ?_⟩
  have hl := len _ _ _ _ hsp
  have KX : K.In s.heap := e0.mod.kin.keeps fun b o e => (e0.bs b o e).1
  have lim : s.heap.NoLimit := e0.mod.nolimit.keeps fun b o e => (e0.bs b o e).1
  have hkind : ∀ y ∈ ps.zip us, scope.names.lookup y.1 = some .local ∨ (scope.names.lookup y.1 = some .cell ∧ ((cellsFrom (s.heap.objs.size + 1) scope.names []).lookup y.1).isSome = true) := fun ⟨n, v⟩ hy => by
    rcases S.par n (List.of_mem_zip hy).1 with q | q
    · exact .inl q
    · exact .inr ⟨q, PySem.W.cellsFrom_some _ _ _ (.inl q)⟩
  refine codeAny_call_function hr.depth (KX _ _ lk) rfl S.co S.gen rfl (PySem.W.codeRec_of KX hcd) (hb _ _ _ _ ?_)
  refine wpAny_newFunctionEnv_cells S.kind hkind fun env he s1 x => ?_
  subst he
  refine ⟨lim.keeps x.toInCall.keep, codeAny_func ?_⟩
  obtain ⟨t, ht, hq⟩ := hbody A outer s H vs Q E (hr.deeper _) hsp
  have I : Inv (cxOf CX P w K mg base N qual scope f cdv A outer s H E) [] (start N vs) H s1 := inv_start S hr.hd e0 hl r x
  refine wpAny_mono (ht [] s1 (start N vs) H _ I hq) (fun fl s' hs => ?_) fun e s' hs => hs
  have fin : ∀ {σ' : St} {H' : Hp} {v : V} {u : Value}, Inv (cxOf CX P w K mg base N qual scope f cdv A outer s H E) [] σ' H' s' → RelV v u → Q v H' → CE outer P w H s Q u s' :=
    fun {σ' H' v u} J rv q => ⟨v, H', J.os, J.bare, J.base, J.hok, rv, q⟩
  cases fl with
  | ret u =>
    obtain ⟨v, σ', H', J, rv, q⟩ := hs
    exact fin J rv q
  | next =>
    obtain ⟨σ', H', J, q⟩ := hs
    exact fin (v := V.non) (u := Value.none) J rfl q
  | brk =>
    obtain ⟨_, _, _, q⟩ := hs
    exact False.elim q
  | cont =>
    obtain ⟨_, _, _, q⟩ := hs
    exact False.elim q
end L2

namespace L2
open PySem PySem.Spec PyProof.Rows
section
variable {X : Cx} {x : Str} {p pos : Pos} {e : Expr} {es : List Expr} {t : TA} {id T : String} {r : List V → Hp → VK → Prop}

def tCB (r : List V → Hp → VK → Prop) (t : TA) : TE := fun σ H Q => t σ H fun vs H1 => r vs H1 Q
theorem pe_callB (hc : CallR X (.builtin id) r) (hg : Gl X x) (hm : X.mg x = none) (hv : bootBuiltins x = some (.builtin id)) (ha : PA X (e :: es) t) (hn : x ≠ "__name__" := by decide) (hdb : (x == ("__debug__" : Str)) = false := by decide)
    (he : starEach (e :: es) X.env = (false, eval e X.env) :: starEach es X.env := by rfl) (hpl : (backTo pos (starEach es X.env)).any (·.1) = false := by rfl) : PE X (.Call (.Name x p) (e :: es) [] pos) (tCB r t) := by
  intro pins s σ H Q I h
  refine wpAny_Call_Name_kw (ld_blt I hg hm hv ?_ hn hdb)
  exact PyProof.Rows.callWith_builtin1 (thn (ha pos pins s σ H _ I h) fun us s1 ⟨vs, H1, I1, r1, q1⟩ => hc pins s1 σ H1 vs us Q I1 r1 q1) he hpl
theorem pe_callTy (hc : CallR X (.type T) r) (hg : Gl X x) (hm : X.mg x = none) (hv : bootBuiltins x = some (.type T)) (ha : PA X (e :: es) t) (hn : x ≠ "__name__" := by decide) (hdb : (x == ("__debug__" : Str)) = false := by decide)
    (he : starEach (e :: es) X.env = (false, eval e X.env) :: starEach es X.env := by rfl) (hpl : (backTo pos (starEach es X.env)).any (·.1) = false := by rfl) : PE X (.Call (.Name x p) (e :: es) [] pos) (tCB r t) := by
  intro pins s σ H Q I h
  refine wpAny_Call_Name_kw (ld_blt I hg hm hv ?_ hn hdb)
  exact PyProof.Rows.callWith_type1 (thn (ha pos pins s σ H _ I h) fun us s1 ⟨vs, H1, I1, r1, q1⟩ => hc pins s1 σ H1 vs us Q I1 r1 q1) he hpl
end
end L2

namespace HT
open PySem PyProof.Rows

def lexLt : List Int → List Int → Bool
  | [], [] => false
  | [], _ :: _ => true
  | _ :: _, [] => false
  | x :: xs, y :: ys => if x = y then lexLt xs ys else decide (x < y)
theorem lexLt_cons (x y : Int) (xs ys : List Int) : lexLt (x :: xs) (y :: ys) = if x = y then lexLt xs ys else decide (x < y) := rfl
theorem lexLt_nil_nil : lexLt [] [] = false := rfl
theorem lexLt_nil_cons (y : Int) (ys : List Int) : lexLt [] (y :: ys) = true := rfl
theorem lexLt_cons_nil (x : Int) (xs : List Int) : lexLt (x :: xs) [] = false := rfl

theorem eqAt_int (A : Around) (s : Shared) (a : Int) (t : Tok) (c : Int) (u : Tok) : ∃ e, SeqAt.EqAt A s (.int a t) (.int c u) e ∧ (e = true ↔ a = c) :=
  ⟨(a == c), SeqAt.EqAt.int_int a t c u, by simp⟩
theorem rcLt_int (A : Around) (s : Shared) (a : Int) (t : Tok) (c : Int) (u : Tok) (prog : Program) (w : World) (E : Value → Shared → Prop) (Q : Value → Shared → Prop) (h : Q (.bool (decide (a < c))) s) :
    wpAny (model prog w) A (richCompare .Lt (.int a t) (.int c u)) Q E s :=
  (PyProof.Rows.lt_int h : wpAny (model prog w) A (compareOp .Lt (.int a t) (.int c u)) Q E s)

section
open PySem.SeqAt
open PySem.AutoSeq1 (wpAny_loadPart')
open PySem.MeetsSeq PySem.MeetsSeq2 PySem.MeetsSeq3

theorem tuple_lt_ints (l b : Addr) (items items2 : Array Value) (n n2 : Nat) (dd dd2 : Option Addr) (sl sl2 : Array (Option Value)) (ns ms : List Int) (hi : IntsAre items.toList ns) (hj : IntsAre items2.toList ms) :
    Meets (Builtin.«tuple.__lt__» ⟨[.ref l, .ref b], []⟩)
      (fun _ R s => s.heap.get? l = some { cls := .type "tuple", dict := dd, data := .seq items n, slots := sl } ∧ s.heap.get? b = some { cls := .type "tuple", dict := dd2, data := .seq items2 n2, slots := sl2 } ∧
        R (.ok (.ret (.bool (lexLt ns ms)))) s) :=
  .of_wp fun prog w A R s h => by
    obtain ⟨hp, g, d, tk, os⟩ := s; obtain ⟨hl, hb, h⟩ := h
    have f2 := AutoSeq1.sub_tuple_tuple
    have z1 : items.size = ns.length := by rw [← hi.length]; simp
    have z2 : items2.size = ms.length := by rw [← hj.length]; simp
    wp_walk using wpAny_loadPart' hl, wpAny_loadPart' hb, wpAny_forIn_list _ (fun rest b s' => b.1 = none ∧ s' = ⟨hp, g, d, tk, os⟩ ∧ ∃ (vs ws : List Value) (ns' ms' : List Int), rest = vs.zip ws ∧
      IntsAre vs ns' ∧ IntsAre ws ms' ∧ ns'.length + items2.size = ms'.length + items.size ∧ R (.ok (.ret (.bool (lexLt ns' ms')))) ⟨hp, g, d, tk, os⟩) _
    case turn =>
      rintro ⟨y, x⟩ rest b s' ⟨hb', rfl, vs, ws, ns', ms', hz, hvi, hwi, hlen, hR⟩
      cases hvi with
      | nil => rw [List.zip_nil_left] at hz; cases hz
      | cons a t hvi' =>
        cases hwi with
        | nil => rw [List.zip_nil_right] at hz; cases hz
        | cons c u hwi' =>
          rw [List.zip_cons_cons] at hz
          injection hz with hyx hrest
          injection hyx with hy hx
          subst hy hx
          rw [lexLt_cons] at hR
          simp only [List.length_cons] at hlen
          obtain ⟨e, he, hiff⟩ := eqAt_int A.in1 ⟨hp, g, d, tk, os⟩ a t c u
          refine wpAny_bind (he prog w _ _ ?_)
          cases e with
          | true =>
            rw [if_pos (hiff.mp rfl)] at hR
            wp_walk
            exact ⟨rfl, rfl, _, _, _, _, hrest, hvi', hwi', by omega, hR⟩
          | false =>
            rw [if_neg (fun q => absurd (hiff.mpr q) Bool.false_ne_true)] at hR
            have hri := rcLt_int A.in1 ⟨hp, g, d, tk, os⟩ a t c u prog w
            wp_walk using hri
            exact ⟨_, rfl, by simpa using hR⟩
    case fin =>
      rintro ⟨b1, b2⟩ s' ⟨hb', rfl, vs, ws, ns', ms', hz, hvi, hwi, hlen, hR⟩
      simp only at hb'
      subst hb'
      have hv : lexLt ns' ms' = decide (items.size < items2.size) := by
        cases hvi with
        | nil =>
          cases hwi with
          | nil =>
            simp only [List.length_nil] at hlen
            rw [lexLt_nil_nil]
            exact (decide_eq_false (by omega)).symm
          | cons c u hw =>
            simp only [List.length_nil, List.length_cons] at hlen
            rw [lexLt_nil_cons]
            exact (decide_eq_true (by omega)).symm
        | cons a t hv =>
          cases hwi with
          | nil =>
            simp only [List.length_nil, List.length_cons] at hlen
            rw [lexLt_cons_nil]
            exact (decide_eq_false (by omega)).symm
          | cons c u hw =>
            rw [List.zip_cons_cons] at hz
            cases hz
      rw [hv] at hR
      wp_walk
      exact ⟨_, rfl, by simpa [Builtin.Tuple.tupleCompareSizes] using hR⟩
    case h =>
      exact ⟨rfl, rfl, items.toList, items2.toList, ns, ms, rfl, hi, hj, by omega, h⟩
end

section
variable {prog : Program} {w : World} {A : Around} {E : Value → Shared → Prop} {s : Shared}

theorem lt_tupInts {l b : Addr} {items items2 : Array Value} {ns ms : List Int} {Q : Value → Shared → Prop} (hl : IsTup s.heap l items) (hb : IsTup s.heap b items2) (hi : IntsAre items.toList ns) (hj : IntsAre items2.toList ms)
    (hu : A.units < cLine) (h : Q (.bool (lexLt ns ms)) s) : wpAny (model prog w) A (compareOp .Lt (.ref l) (.ref b)) Q E s := by
  obtain ⟨⟨cls, dd, data, sl⟩, ho, hc, n, hd⟩ := id hl
  obtain ⟨⟨cls2, dd2, data2, sl2⟩, ho2, hc2, n2, hd2⟩ := id hb
  simp only at hc hd hc2 hd2
  subst hc hd hc2 hd2
  exact richCompare_meets_room (op := .Lt) ⟨_, ho, rfl⟩ ⟨_, ho2, rfl⟩ PySem.F.slot_tuple_lt PySem.F.entry_tuple_lt (PySem.F.args_tuple_lt_2 _ _) (tuple_lt_ints l b items items2 n n2 dd dd2 sl sl2 ns ms hi hj)
    ⟨ho, ho2, show Value.bool (lexLt ns ms) ≠ Value.notImplemented ∧ Q (.bool (lexLt ns ms)) s from ⟨(fun x => nomatch x), h⟩⟩ hu

/-! ### t[a:b], not the whole -/
def sIx (n d : Nat) : Option Int → Nat
  | none => d
  | some v => if v < 0 then (v + (n : Int)).toNat else min v.toNat n
theorem sIx_none (n d : Nat) : sIx n d none = d := rfl
theorem sIx_nat (n d k : Nat) : sIx n d (some (k : Int)) = min k n := by
  show (if (k : Int) < 0 then ((k : Int) + (n : Int)).toNat else min (k : Int).toNat n) = min k n
  rw [if_neg (by omega), Int.toNat_natCast]
theorem sIx_le (n d : Nat) (hd : d ≤ n) (o : Option Int) : sIx n d o ≤ n := by
  cases o with
  | none => exact hd
  | some v =>
    show (if v < 0 then (v + (n : Int)).toNat else min v.toNat n) ≤ n
    by_cases hv : v < 0
    · rw [if_pos hv]; omega
    · rw [if_neg hv]; exact Nat.min_le_right _ _
theorem clip_eq (v : Int) (n d : Nat) : (if v < 0 then max (v + (n : Int)) 0 else min v (n : Int)) = ((sIx n d (some v) : Nat) : Int) := by
  show (if v < 0 then max (v + (n : Int)) 0 else min v (n : Int)) = (((if v < 0 then (v + (n : Int)).toNat else min v.toNat n) : Nat) : Int)
  by_cases hv : v < 0
  · simp only [if_pos hv]; omega
  · simp only [if_neg hv]; omega
theorem adjust_gen (lo hi : Option Int) (n : Nat) : Builtin.Slice.sliceAdjust lo hi 1 (n : Int) = (((sIx n 0 lo : Nat) : Int), ((sIx n n hi : Nat) : Int)) := by
  have h1 : ¬ ((1 : Int) < 0) := by omega
  unfold Builtin.Slice.sliceAdjust
  simp only [h1, if_false]
  refine Prod.ext ?_ ?_
  · cases lo with
    | none => rfl
    | some v => exact clip_eq v n 0
  · cases hi with
    | none => rfl
    | some v => exact clip_eq v n n
theorem places_gen (i j : Nat) : Builtin.Slice.slicePlaces (i : Int) (j : Int) 1 = j - i := by
  unfold Builtin.Slice.slicePlaces
  have h1 : (1 : Int) > 0 := by omega
  simp only [h1, if_true, Int.ediv_one]
  split <;> omega
theorem slicePart_ {v : Value} {o : Option Int} {Q : Option Int → Shared → Prop} (p : IsPart v o) (h : Q o s) : wpAny (model prog w) A (Builtin.Slice.slicePartIndex v) Q E s := by
  cases p with
  | none => exact slicePart_none h
  | int i t => exact slicePart_int h
theorem sliceApplied_gen {sl : Addr} {vl vu : Value} {lo hi : Option Int} {n : Nat} {Q : Int × Int × Nat → Shared → Prop} (hs : s.heap.IsSliceOf sl vl vu .none) (pl : IsPart vl lo) (pu : IsPart vu hi)
    (h : Q (((sIx n 0 lo : Nat) : Int), 1, sIx n n hi - sIx n 0 lo) s) : wpAny (model prog w) A (Builtin.Slice.sliceApplied (.ref sl) (pure (n : Int))) Q E s := by
  obtain ⟨os, hos, hcs, hds⟩ := id hs
  unfold Builtin.Slice.sliceApplied Builtin.Slice.sliceFields
  refine wpAny_bind (wpAny_bind (wpAny_field hos hds (x := vl) rfl (wpAny_bind (wpAny_field hos hds (x := vu) rfl (wpAny_bind (wpAny_field hos hds (x := .none) rfl (wpAny_pure ?_)))))))
  refine wpAny_bind (slicePart_none ?_)
  show wpAny _ _ (if ((1 : Int) == 0) = true then _ else _) _ _ s
  rw [if_neg (by decide)]
  refine wpAny_bind (slicePart_ pl (wpAny_bind (slicePart_ pu (wpAny_bind (wpAny_pure ?_)))))
  show wpAny _ _ (match Builtin.Slice.sliceAdjust lo hi 1 (n : Int) with | (lo, hi) => pure (lo, (1 : Int), Builtin.Slice.slicePlaces lo hi 1)) _ _ s
  rw [adjust_gen lo hi n]
  show wpAny _ _ (pure (((sIx n 0 lo : Nat) : Int), (1 : Int), Builtin.Slice.slicePlaces ((sIx n 0 lo : Nat) : Int) ((sIx n n hi : Nat) : Int) 1)) _ _ s
  rw [places_gen]
  exact wpAny_pure h
theorem pick_gen (xs : Array Value) (i k : Nat) : ((List.range k).filterMap fun (m : Nat) => xs[((i : Int) + (m : Int) * 1).toNat]?).toArray = ((xs.toList.drop i).take k).toArray := by
  have e : (fun (m : Nat) => xs[((i : Int) + (m : Int) * 1).toNat]?) = fun m => xs[i + m]? := by
    funext m
    have : ((i : Int) + (m : Int) * 1).toNat = i + m := by omega
    rw [this]
  rw [e]
  have := pick_run xs i k
  rw [List.filterMap_map] at this
  have e2 : ((fun x => xs[x]?) ∘ fun x => i + x) = fun m => xs[i + m]? := rfl
  rw [e2] at this
  rw [this]

theorem getItem_tuple_cut {t sl : Addr} {items : Array Value} {vl vu : Value} {lo hi : Option Int} {Q : Value → Shared → Prop} (ht : IsTup s.heap t items) (hs : s.heap.IsSliceOf sl vl vu .none) (pl : IsPart vl lo) (pu : IsPart vu hi)
    (hw : ¬ (sIx items.size 0 lo = 0 ∧ sIx items.size items.size hi = items.size))
    (h : Q (.ref s.heap.objs.size) { s with heap := s.heap.push { cls := .type "tuple", data := .seq ((items.toList.drop (sIx items.size 0 lo)).take (sIx items.size items.size hi - sIx items.size 0 lo)).toArray } })
    (hsz : items.size ≤ sizeLine) : wpAny (model prog w) A (getItem (.ref t) (.ref sl)) Q E s := by
  have htake : sizeOk (.seq ((items.toList.drop (sIx items.size 0 lo)).take (sIx items.size items.size hi - sIx items.size 0 lo)).toArray) := by
    show ((items.toList.drop (sIx items.size 0 lo)).take (sIx items.size items.size hi - sIx items.size 0 lo)).toArray.size ≤ sizeLine
    rw [List.size_toArray, List.length_take, List.length_drop, Array.length_toList]
    omega
  have hj : sIx items.size items.size hi ≤ items.size := sIx_le _ _ (Nat.le_refl _) hi
  obtain ⟨os, hos, hcs, hds⟩ := id hs
  have hTs : s.TypeIs (.ref sl) "slice" := ⟨os, hos, hcs⟩
  unfold getItem
  try with_reducible refine wpAny_holding ?_
  first | refine wpAny_bind (wpAny_pure ?_) | skip
  refine wpAny_bind (wpAny_sequenceKey ht.typeIs (by decide) ?_)
  refine wpAny_bind (wpAny_callSpecial?_slot (name := Str.ofString "__getitem__") ht.typeIs PyProof.Rows.slot_tuple_getitem
    (wpAny_call_entry PyProof.Rows.slot_tuple_getitem ht.typeIs entry_tuple_getitem ?_ (args_tuple_getitem _ _)))
  show wpAny _ _ (Builtin.Tuple.tupleItemsOf (.ref t) >>= _) _ _ s
  refine wpAny_bind (tupleItemsOf_ ht ?_)
  refine wpAny_bind (wpAny_typeOf hTs ?_)
  rw [if_pos (by decide)]
  refine wpAny_bind (sliceApplied_gen hs pl pu ?_)
  have hno : ¬ ((((sIx items.size 0 lo : Nat) : Int) == 0 && (1 : Int) == 1 && (sIx items.size items.size hi - sIx items.size 0 lo) == items.size) = true) := by
    intro q
    rw [Bool.and_eq_true, Bool.and_eq_true] at q
    have q1 : ((sIx items.size 0 lo : Nat) : Int) = 0 := eq_of_beq q.1.1
    have q2 : sIx items.size items.size hi - sIx items.size 0 lo = items.size := eq_of_beq q.2
    exact hw ⟨by omega, by omega⟩
  show wpAny _ _ (if (((sIx items.size 0 lo : Nat) : Int) == 0 && (1 : Int) == 1 && (sIx items.size items.size hi - sIx items.size 0 lo) == items.size) = true then _ else _) _ _ s
  rw [if_neg hno, pick_gen]
  first
    | exact wpAny_bind (m := Builtin.Tuple.tupleExact _) (wpAny_newObj_type (wpAny_pure ⟨_, rfl, wpAny_pure h⟩) htake)
    | exact wpAny_bind (m := Builtin.Tuple.tupleExact _) (wpAny_newObj_type (wpAny_bind (wpAny_pure (wpAny_pure ⟨_, rfl, wpAny_pure h⟩))) htake)
    | exact wpAny_bind (wpAny_bind (m := Builtin.Tuple.tupleExact _) (wpAny_newObj_type (wpAny_pure (wpAny_pure ⟨_, rfl, wpAny_pure h⟩)) htake))
    | exact wpAny_bind (wpAny_bind (m := Builtin.Tuple.tupleExact _) (wpAny_newObj_type (wpAny_pure ⟨_, rfl, wpAny_pure h⟩) htake))
end
end HT

namespace L2
open PySem PySem.Spec PyProof.Rows

/-! ### the parts of a slice -/
abbrev TO := St → Hp → (Option Int → Hp → Prop) → Prop
def PO (X : Cx) (e : Option Expr) (t : TO) : Prop :=
  ∀ (pins : List (Addr × Obj)) (s : Shared) (σ : St) (H : Hp) (Q : Option Int → Hp → Prop), Inv X pins σ H s → t σ H Q →
    wpAny (model X.prog X.w) X.A (evalPart e X.env) (fun u s' => ∃ o H', Inv X pins σ H' s' ∧ IsPart u o ∧ Q o H') X.xe s
def tNoPart : TO := fun _ H Q => Q none H
def tPart (t : TE) : TO := fun σ H Q => t σ H fun x H1 => ∃ i, x = .int i ∧ Q (some i) H1

theorem intsAre_of {ns : List Int} : ∀ {us : List Value}, Vals (ns.map V.int) us → IntsAre us ns := by
  induction ns with
  | nil => intro us r; rw [List.map_nil] at r; cases r; exact .nil
  | cons n ns ih =>
    intro us r
    rw [List.map_cons] at r
    cases r with
    | cons r1 r2 =>
      obtain ⟨t, e⟩ := r1
      subst e
      exact .cons n t (ih r2)

section
variable {X : Cx} {e : Expr} {te : TE} {lo hi : Option Expr} {tl th : TO} {pos p2 : Pos}

theorem po_none : PO X none tNoPart := by
  intro pins s σ H Q I h
  rw [evalPart_none]
  exact wpAny_pure ⟨none, H, I, .none, h⟩
theorem po_some (h : PE X e te) : PO X (some e) (tPart te) := by
  intro pins s σ H Q I hw
  rw [evalPart_some]
  refine thn (h pins s σ H _ I hw) fun u s1 ⟨x, H1, I1, r1, q1⟩ => ?_
  obtain ⟨i, rfl, q⟩ := q1
  obtain ⟨t, rfl⟩ := r1
  exact ⟨some i, H1, I1, .int i t, q⟩

def SlR (X : Cx) (r : V → Option Int → Option Int → Hp → VK → Prop) : Prop :=
  ∀ (pins : List (Addr × Obj)) (s : Shared) (σ : St) (H : Hp) (x : V) (v vl vu : Value) (lo hi : Option Int) (sl : Addr) (Q : VK), Inv X pins σ H s → RelV x v → s.heap.IsSliceOf sl vl vu .none → IsPart vl lo → IsPart vu hi → r x lo hi H Q →
    ∃ T id, typeLookup (.type T) "__getitem__" = pure (some (.builtin id)) ∧ s.TypeIs v T ∧ wpAny (model X.prog X.w) X.A (getItem v (.ref sl)) (EP X pins σ Q) X.xe s
def tSl (r : V → Option Int → Option Int → Hp → VK → Prop) (te : TE) (tl th : TO) : TE := fun σ H Q => te σ H fun x H1 => tl σ H1 fun l H2 => th σ H2 fun u H3 => r x l u H3 Q
theorem pe_slice {r : V → Option Int → Option Int → Hp → VK → Prop} (hr : SlR X r) (he : PE X e te) (hl : PO X lo tl) (hu : PO X hi th) : PE X (.Subscript e (.Slice lo hi none p2) pos) (tSl r te tl th) := by
  intro pins s σ H Q I h
  refine Subscript_ (thn (he pins s σ H _ I h) fun v s1 ⟨x, H1, I1, r1, q1⟩ => ?_)
  refine wpAny_Slice (thn (hl pins s1 σ H1 _ I1 q1) fun vl s2 ⟨l, H2, I2, pl, q2⟩ => thn (hu pins s2 σ H2 _ I2 q2) fun vu s3 ⟨u, H3, I3, pu, q3⟩ => ?_)
  rw [evalPart_none]
  refine wpAny_pure ?_
  have I4 : Inv X pins σ H3 { s3 with heap := s3.heap.push { cls := .type "slice", data := .fields #[vl, vu, .none] } } := I3.kept (t' := s3.toks) fun b ob q => Heap.get?_push_of_some _ q
  obtain ⟨T, id, hT, ht, hg⟩ := hr pins { s3 with heap := s3.heap.push { cls := .type "slice", data := .fields #[vl, vu, .none] } } σ H3 x v vl vu l u s3.heap.objs.size Q I4 r1 (Heap.IsSliceOf.new ..) pl pu q3
  show wpAny (model X.prog X.w) X.A (subscriptTail e (.Slice lo hi none p2) v (.ref s3.heap.objs.size)) (EP X pins σ Q) X.xe { s3 with heap := s3.heap.push { cls := .type "slice", data := .fields #[vl, vu, .none] } }
  exact tail_any (ops := [.ref s3.heap.objs.size, v]) ht hT hg (by with_unfolding_all rfl)

def cutV (xs : List V) (lo hi : Option Int) : List V := (xs.drop (HT.sIx xs.length 0 lo)).take (HT.sIx xs.length xs.length hi - HT.sIx xs.length 0 lo)
theorem cutV_length (xs : List V) (lo hi : Option Int) : (cutV xs lo hi).length ≤ xs.length := by
  unfold cutV
  rw [List.length_take, List.length_drop]
  omega
def rSlT (K : PySem.W.Frag) : V → Option Int → Option Int → Hp → VK → Prop := fun x lo hi H Q => ∃ a xs, x = .ref a ∧ SqT K H a xs ∧
  ¬ (HT.sIx xs.length 0 lo = 0 ∧ HT.sIx xs.length xs.length hi = xs.length) ∧ ∀ p, H p = none → Q (.ref p) (upd H p (.tup (cutV xs lo hi)))
theorem sl_tup : SlR X (rSlT X.K) := by
  intro pins s σ H x v vl vu lo hi sl Q I rx hs pl pu h
  obtain ⟨a, xs, rfl, hx, hw, q⟩ := h
  cases rx
  obtain ⟨its, r, ht, hz⟩ := I.tuple hx
  have hlen : its.toArray.size = xs.length := by rw [List.size_toArray]; exact r.length.symm
  refine ⟨"tuple", _, PyProof.Rows.slot_tuple_getitem.lookup, ht.typeIs, ?_⟩
  refine HT.getItem_tuple_cut ht hs pl pu (by rw [hlen]; exact hw) ?_ (by rw [hlen]; exact hz)
  rw [hlen]
  refine ⟨.ref s.heap.objs.size, _, I.laid (t' := s.toks) (o := .tup (cutV xs lo hi)) (fun b ob q => Heap.get?_push_of_some _ q) (Nat.le_refl _) ?_, rfl, q _ (I.hok.fresh (Nat.le_refl _))⟩
  exact ⟨Nat.le_trans (cutV_length xs lo hi) hz, _, (r.drop (HT.sIx xs.length 0 lo)).take (HT.sIx xs.length xs.length hi - HT.sIx xs.length 0 lo), IsTup.new _ _⟩

/-! ### t < u, t + u -/
def rLtT (K : PySem.W.Frag) : R2 := fun x y H Q => ∃ a b ns ms, x = .ref a ∧ y = .ref b ∧ SqT K H a (ns.map V.int) ∧ SqT K H b (ms.map V.int) ∧ Q (.bl (HT.lexLt ns ms)) H
theorem op_ltT (hu : X.A.units < cLine) : OpR X (compareOp .Lt) (rLtT X.K) := by
  intro pins s σ H x y v u Q I rx ry h
  obtain ⟨a, b, ns, ms, rfl, rfl, ha, hb, q⟩ := h
  cases rx
  cases ry
  obtain ⟨its, r1, p1, _⟩ := I.tuple ha
  obtain ⟨its2, r2, p2, _⟩ := I.tuple hb
  have i1 : IntsAre its.toArray.toList ns := intsAre_of r1
  have i2 : IntsAre its2.toArray.toList ms := intsAre_of r2
  exact HT.lt_tupInts p1 p2 i1 i2 hu ⟨.bl (HT.lexLt ns ms), H, I, rfl, q⟩
end
end L2

namespace L2
open PySem PySem.Spec PyProof.Rows

/-! ### places -/
def ixN (n : Nat) (i : Int) : Option Nat := if 0 ≤ i then (if i < n then some i.toNat else none) else if -(n : Int) ≤ i then some (i + n).toNat else none
def atI {α : Type} (xs : List α) (i : Int) : Option α := (ixN xs.length i).bind fun j => xs[j]?
theorem ixN_seq {n : Nat} {i : Int} {j : Nat} (h : ixN n i = some j) : seqIndex? i n = some j ∧ j < n ∧ -(n : Int) ≤ i ∧ i < n := by
  unfold ixN at h
  by_cases h0 : 0 ≤ i
  · rw [if_pos h0] at h
    by_cases h1 : i < n
    · rw [if_pos h1] at h
      have e : i.toNat = j := Option.some.inj h
      exact ⟨by rw [seqIndex_of h0 h1, e], by omega, by omega, h1⟩
    · rw [if_neg h1] at h; cases h
  · rw [if_neg h0] at h
    by_cases h1 : -(n : Int) ≤ i
    · rw [if_pos h1] at h
      have e : (i + n).toNat = j := Option.some.inj h
      exact ⟨by rw [seqIndex_neg (by omega) h1, e], by omega, h1, by omega⟩
    · rw [if_neg h1] at h; cases h
theorem atI_get {α : Type} {xs : List α} {i : Int} {v : α} (h : atI xs i = some v) : ∃ j, seqIndex? i xs.length = some j ∧ xs[j]? = some v ∧ j < xs.length ∧ -(xs.length : Int) ≤ i ∧ i < xs.length := by
  unfold atI at h
  cases e : ixN xs.length i with
  | none => rw [e] at h; cases h
  | some j =>
    rw [e] at h
    obtain ⟨h1, h2, h3, h4⟩ := ixN_seq e
    exact ⟨j, h1, h, h2, h3, h4⟩
theorem atI_nat {α : Type} {xs : List α} {j : Nat} {v : α} (h : xs[j]? = some v) : atI xs (j : Int) = some v := by
  have hj : j < xs.length := (List.getElem?_eq_some_iff.mp h).1
  have e : ixN xs.length (j : Int) = some j := by
    unfold ixN
    rw [if_pos (by omega), if_pos (by omega)]; simp
  unfold atI; rw [e]; exact h
theorem atI_last {α : Type} (xs : List α) (v : α) : atI (xs ++ [v]) (-1) = some v := by
  have hl : (xs ++ [v]).length = xs.length + 1 := by simp
  have e : ixN (xs ++ [v]).length (-1) = some xs.length := by
    unfold ixN
    rw [hl, if_neg (by decide), if_pos (by omega)]
    congr 1
    omega
  unfold atI
  rw [e]
  show (xs ++ [v])[xs.length]? = some v
  simp

/-! ### what may be subscripted -/
def PlainIx (b : Expr) : Prop := ∀ o i, subscripted b false o i = operate [o, i] (getItem o i)
def IxR (X : Cx) (r : R2) : Prop :=
  ∀ (value slice : Expr) (pins : List (Addr × Obj)) (s : Shared) (σ : St) (H : Hp) (x y : V) (v u : Value) (Q : VK), Inv X pins σ H s → RelV x v → RelV y u → r x y H Q →
    subscripted slice false v u = operate [v, u] (getItem v u) → wpAny (model X.prog X.w) X.A (subscriptTail value slice v u) (EP X pins σ Q) X.xe s
def MtR (X : Cx) (id : String) (r : V → List V → Hp → VK → Prop) : Prop :=
  ∀ (pins : List (Addr × Obj)) (s : Shared) (σ : St) (H : Hp) (x : V) (xs : List V) (v : Value) (us : List Value) (Q : VK), Inv X pins σ H s → RelV x v → Vals xs us → r x xs H Q →
    wpAny (model X.prog X.w) X.A (call (.builtin id) (v :: us)) (EP X pins σ Q) X.xe s
section
variable {X : Cx} {a b : Expr} {ta tb : TE} {pos : Pos}
theorem pe_ix {r : R2} (hr : IxR X r) (ha : PE X a ta) (hb : PE X b tb) (hs : PlainIx b) : PE X (.Subscript a b pos) (tOp r ta tb) := by
  intro pins s σ H Q I h
  exact Subscript_ (binT ha hb I h fun v u s2 x y H2 I2 rx ry q => hr a b pins s2 σ H2 x y v u Q I2 rx ry q (hs _ _))

def rIxL (K : PySem.W.Frag) : R2 := fun x y H Q => ∃ p xs i v, x = .ref p ∧ y = .int i ∧ SqL K H p xs ∧ atI xs i = some v ∧ Q v H
def rIxT (K : PySem.W.Frag) : R2 := fun x y H Q => ∃ p xs i v, x = .ref p ∧ y = .int i ∧ SqT K H p xs ∧ atI xs i = some v ∧ Q v H
def rIxS : R2 := fun x y H Q => ∃ z i c, x = .str z ∧ y = .int i ∧ z.length ≤ sizeLine ∧ atI z.cps.toList i = some c ∧ Q (.str ⟨#[c]⟩) H
theorem ix_list : IxR X (rIxL X.K) := by
  intro value slice pins s σ H x y v u Q I rx ry h hs
  obtain ⟨p, xs, i, z, rfl, rfl, hq, he, q⟩ := h
  cases rx
  obtain ⟨t, rfl⟩ := ry
  obtain ⟨its, r, pl, hz⟩ := I.list hq
  obtain ⟨j, h1, h2, h3, h4, h5⟩ := atI_get he
  obtain ⟨w, ew, rw'⟩ := r.get h2
  have hl := r.length
  have hn := line63
  have fin : EP X pins σ Q w s := ⟨z, H, I, rw', q⟩
  by_cases h0 : 0 ≤ i
  · have hj : i.toNat = j := by
      rw [seqIndex_of h0 h5] at h1
      exact Option.some.inj h1
    exact item_listR pl.isList h0 (by omega) (by rw [hj]; simpa using ew) fin hs
  · have hj : (i + (its.toArray.size : Int)).toNat = j := by
      rw [seqIndex_neg (by omega) h4] at h1
      rw [List.size_toArray, ← hl]
      exact Option.some.inj h1
    exact subscriptTail_builtinR (x := w) pl.isList.typeIs slot_list_getitem.lookup
      (wpAny_getItem_list_neg (Q := fun r s' => r = w ∧ EP X pins σ Q r s') pl.isList (by omega) (by rw [List.size_toArray] <;> omega) (by omega) (by rw [hj]; simpa using ew) ⟨rfl, fin⟩) hs
theorem ix_tup : IxR X (rIxT X.K) := by
  intro value slice pins s σ H x y v u Q I rx ry h hs
  obtain ⟨p, xs, i, z, rfl, rfl, hq, he, q⟩ := h
  cases rx
  obtain ⟨t, rfl⟩ := ry
  obtain ⟨its, r, pl, hz⟩ := I.tuple hq
  obtain ⟨j, h1, h2, h3, h4, h5⟩ := atI_get he
  obtain ⟨w, ew, rw'⟩ := r.get h2
  have hl := r.length
  have hn := line63
  have fin : EP X pins σ Q w s := ⟨z, H, I, rw', q⟩
  exact subscriptTail_builtinR (x := w) pl.typeIs slot_tuple_getitem.lookup
    (getItem_tuple (j := j) (Q := fun r s' => r = w ∧ EP X pins σ Q r s') pl (by omega) (by omega) (by rw [List.size_toArray, ← hl]; exact h1) (by simpa using ew) ⟨rfl, fin⟩) hs
/-! ### xs[i] = v, any sign -/
theorem mapSeq_set (its : List Value) (n j : Nat) (u : Value) : Obj.mapSeq (·.setIfInBounds j u) { cls := .type "list", data := .seq its.toArray n } = { cls := .type "list", data := .seq (its.set j u).toArray n } := by
  simp [Obj.mapSeq]
theorem Inv.lst {pins : List (Addr × Obj)} {σ : St} {H : Hp} {s : Shared} {p : Addr} {xs : List V} (I : Inv X pins σ H s) (h : H p = some (.lst xs)) :
    ∃ (its : List Value) (n : Nat), Vals xs its ∧ s.heap.get? p = some { cls := .type "list", data := .seq its.toArray n } ∧ xs.length ≤ sizeLine := by
  obtain ⟨z, its, n, r, e⟩ := I.hok p _ h
  exact ⟨its, n, r, e, z⟩
theorem Inv.lstUpd {pins : List (Addr × Obj)} {σ : St} {H : Hp} {s : Shared} {p : Addr} {xs ys : List V} {its its' : List Value} {n n' : Nat} {f : Obj → Obj} (I : Inv X pins σ H s) (h : H p = some (.lst xs))
    (ho : s.heap.get? p = some { cls := .type "list", data := .seq its.toArray n }) (hf : f { cls := .type "list", data := .seq its.toArray n } = { cls := .type "list", data := .seq its'.toArray n' }) (r : Vals ys its') (hz : ys.length ≤ sizeLine) (t : Nat) :
    Inv X pins σ (upd H p (.lst ys)) { s with heap := s.heap.update p f, toks := t } := by
  have e : (s.heap.update p f).get? p = some { cls := .type "list", data := .seq its'.toArray n' } := by
    rw [Heap.get?_update_self f ho (by rw [hf] <;> rfl), hf]
  refine I.write (x := p) (e := p) (by rw [h]; trivial) (.inl rfl) (fun b u hb q => (Heap.get?_update_other _ _ (Ne.symm hb)).trans q) ⟨_, e⟩ ?_
  exact ⟨hz, its', n', r, e⟩
def rSetL : V → V → V → Hp → (Hp → Prop) → Prop := fun o i v H Q => ∃ p xs k j, o = .ref p ∧ i = .int k ∧ H p = some (.lst xs) ∧ ixN xs.length k = some j ∧ Q (upd H p (.lst (xs.set j v)))
theorem set_list : PSet X rSetL := by
  intro pins s σ H o i v ov iv u Q I ro ri rv h
  obtain ⟨p, xs, k, j, rfl, rfl, hp, hj, q⟩ := h
  cases ro
  obtain ⟨t, rfl⟩ := ri
  obtain ⟨its, n, r, ho, hz⟩ := I.lst hp
  obtain ⟨h1, h2, h3, h4⟩ := ixN_seq hj
  have hl := r.length
  have hn := line63
  have I' : Inv X pins σ (upd H p (.lst (xs.set j v))) { s with heap := s.heap.update p (Obj.mapSeq (·.setIfInBounds j u)) } :=
    I.lstUpd hp ho (mapSeq_set its n j u) (r.set rv j) (by rw [List.length_set]; exact hz) s.toks
  by_cases h0 : 0 ≤ k
  · have hk : k.toNat = j := by
      rw [seqIndex_of h0 h4] at h1
      exact Option.some.inj h1
    exact PySem.W.ki_setAt ho h0 (by omega) (by rw [List.size_toArray, ← hl]; exact h4) (by rw [hk]; exact ⟨_, I', q⟩)
  · have hk : (k + (its.toArray.size : Int)).toNat = j := by
      rw [seqIndex_neg (by omega) h3] at h1
      rw [List.size_toArray, ← hl]
      exact Option.some.inj h1
    exact PySem.W.ki_setBack ho (by omega) (by rw [List.size_toArray, ← hl]; exact h3) (by omega) (by rw [hk]; exact ⟨_, I', q⟩)

/-! ### slices -/
theorem slice_bounds (lo hi : Option Int) (n : Nat) : (sliceBounds lo hi none n).1 = ((HT.sIx n 0 lo : Nat) : Int) ∧ (sliceBounds lo hi none n).2.1 = ((HT.sIx n n hi : Nat) : Int) ∧ (sliceBounds lo hi none n).2.2 = 1 := by
  refine ⟨?_, ?_, rfl⟩
  · cases lo with
    | none => simp [sliceBounds, HT.sIx]
    | some i =>
      simp only [sliceBounds, HT.sIx, Option.getD_none, show (1 : Int) > 0 by decide, if_true]
      by_cases h : i < 0
      · simp only [h, if_true] <;> omega
      · simp only [h, if_false] <;> omega
  · cases hi with
    | none => simp [sliceBounds, HT.sIx]
    | some i =>
      simp only [sliceBounds, HT.sIx, Option.getD_none, show (1 : Int) > 0 by decide, if_true]
      by_cases h : i < 0
      · simp only [h, if_true] <;> omega
      · simp only [h, if_false] <;> omega
theorem slicePick_cut (its : List Value) (lo hi : Option Int) : slicePick its.toArray lo hi none = ((its.drop (HT.sIx its.length 0 lo)).take (HT.sIx its.length its.length hi - HT.sIx its.length 0 lo)).toArray := by
  obtain ⟨h1, h2, h3⟩ := slice_bounds lo hi its.toArray.size
  unfold slicePick
  rw [h1, h2, h3]
  simp only [sliceRange_one, pick_run, List.size_toArray] <;> rfl
def rSlL (K : PySem.W.Frag) : V → Option Int → Option Int → Hp → VK → Prop := fun x lo hi H Q => ∃ a xs, x = .ref a ∧ SqL K H a xs ∧ ∀ p, H p = none → Q (.ref p) (upd H p (.lst (cutV xs lo hi)))
theorem sl_list : SlR X (rSlL X.K) := by
  intro pins s σ H x v vl vu lo hi sl Q I rx hs pl pu h
  obtain ⟨a, xs, rfl, hx, q⟩ := h
  cases rx
  obtain ⟨its, r, ht, hz⟩ := I.list hx
  have hlen := r.length
  refine ⟨"list", _, slot_list_getitem.lookup, ht.isList.typeIs, ?_⟩
  refine wpAny_getItem_list_slice ht.isList hs pl pu .none (by simp) ?_ (by rw [List.size_toArray] <;> omega)
  rw [slicePick_cut, ← hlen]
  refine ⟨.ref s.heap.objs.size, _, I.laid (t' := s.toks) (o := .lst (cutV xs lo hi)) (fun b ob q => Heap.get?_push_of_some _ q) (Nat.le_refl _) ?_, rfl, q _ (I.hok.fresh (Nat.le_refl _))⟩
  exact ⟨Nat.le_trans (cutV_length xs lo hi) hz, _, 0, (r.drop (HT.sIx xs.length 0 lo)).take (HT.sIx xs.length xs.length hi - HT.sIx xs.length 0 lo), Heap.get?_push_size _ rfl⟩

/-! ### in, not in: flat items -/
def flatV : V → Bool
  | .non => true
  | .bl _ => true
  | .int _ => true
  | .str _ => true
  | _ => false
def eqV : V → V → Bool
  | .non, .non => true
  | .bl a, .bl b => a == b
  | .bl a, .int b => (if a then 1 else 0) == b
  | .int a, .bl b => a == (if b then 1 else 0)
  | .int a, .int b => a == b
  | .str a, .str b => a == b
  | _, _ => false
def inV (x : V) (xs : List V) : Bool := xs.any fun y => eqV y x
/-! ### len, list(x), tuple(x) of any list or tuple that is read -/
theorem call_len_seq : CallR X (.builtin "len") (fun xs H Q => ∃ p ys, xs = [.ref p] ∧ (SqL X.K H p ys ∨ SqT X.K H p ys) ∧ Q (.int ys.length) H) := by
  intro pins s σ H xs us Q I r h
  obtain ⟨p, ys, rfl, hq, q⟩ := h
  obtain ⟨u, rfl, rx⟩ := vals1 r
  cases rx
  have hn := line63
  rcases hq with hq | hq
  · obtain ⟨its, r', pl, hz⟩ := I.list hq
    have hlen := r'.length
    exact Calls.call_len_list pl.isList (by simp only [List.size_toArray] <;> omega) ⟨.int ys.length, H, I.tok _, ⟨s.toks + 1, by rw [List.size_toArray, hlen]⟩, q⟩
  · obtain ⟨its, r', pl, hz⟩ := I.tuple hq
    have hlen := r'.length
    exact len_tuple pl (by simp only [List.size_toArray] <;> omega) ⟨.int ys.length, H, I.tok _, ⟨s.toks + 1, by rw [List.size_toArray, hlen]⟩, q⟩
theorem call_list_of : CallR X (.type "list") (fun xs H Q => ∃ p ys, xs = [.ref p] ∧ (SqL X.K H p ys ∨ SqT X.K H p ys) ∧ ∀ l, H l = none → Q (.ref l) (upd H l (.lst ys))) := by
  intro pins s σ H xs us Q I r h
  obtain ⟨p, ys, rfl, hq, q⟩ := h
  obtain ⟨u, rfl, rx⟩ := vals1 r
  cases rx
  have fin : ∀ (its : List Value), Vals ys its → ys.length ≤ sizeLine → ∀ (h' : Heap) (c' : Nat), (∀ b o', s.heap.get? b = some o' → h'.get? b = some o') →
      h'.get? s.heap.objs.size = some { cls := .type "list", dict := none, data := .seq its.toArray c', slots := #[] } → EP X pins σ Q (.ref s.heap.objs.size) { s with heap := h' } := fun its r' hz h' c' kp e =>
    ⟨.ref s.heap.objs.size, _, I.laid (t' := s.toks) kp (Nat.le_refl _) (show ObjOk X.prog X.w _ h' _ (.lst ys) from ⟨hz, its, c', r', e⟩), rfl, q _ (I.hok.fresh (Nat.le_refl _))⟩
  rcases hq with hq | hq
  · obtain ⟨its, r', pl, hz⟩ := I.list hq
    have hlen := r'.length
    obtain ⟨o, ho, hc, n, hd⟩ := pl.isList
    exact call_list_seq p (.inl rfl) ho hc hd (fun h' c' kp e => fin its r' hz h' c' kp e) (by simp only [List.size_toArray] <;> omega)
  · obtain ⟨its, r', pl, hz⟩ := I.tuple hq
    have hlen := r'.length
    obtain ⟨o, ho, hc, n, hd⟩ := pl
    exact call_list_seq p (.inr rfl) ho hc hd (fun h' c' kp e => fin its r' hz h' c' kp e) (by simp only [List.size_toArray] <;> omega)
/-! ### the call of a builtin's method: o.m(..) -/
def tyV (K : PySem.W.Frag) (T : String) (x : V) (H : Hp) : Prop := match x with
  | .str _ => T = "str"
  | .int _ => T = "int"
  | .ref p => (T = "list" ∧ ∃ xs, SqL K H p xs) ∨ (T = "tuple" ∧ ∃ o, K.lookup p = some o ∧ o.cls = .type "tuple" ∧ o.dict = none) ∨
      (T = "dict" ∧ ((∃ kvs, H p = some (.dK kvs)) ∨ ∃ kvs, H p = some (.dT kvs))) ∨ (T = "set" ∧ ∃ S n, H p = some (.set S n))
  | _ => False
theorem tyV_is {pins : List (Addr × Obj)} {σ : St} {H : Hp} {s : Shared} {T : String} {x : V} {v : Value} (I : Inv X pins σ H s) (r : RelV x v) (ty : tyV X.K T x H) :
    s.TypeIs v T ∧ ∀ a, v = .ref a → ∃ ob, s.heap.get? a = some ob ∧ ob.dict = none := by
  cases x with
  | str z =>
    obtain ⟨t, rfl⟩ := r
    cases (show T = "str" from ty)
    exact ⟨typeIs_str s z t, fun _ e => nomatch e⟩
  | int i =>
    obtain ⟨t, rfl⟩ := r
    cases (show T = "int" from ty)
    exact ⟨typeIs_int s i t, fun _ e => nomatch e⟩
  | ref p =>
    cases r
    rcases ty with ⟨rfl, xs, hq⟩ | ⟨rfl, o, hk, hc, hd⟩ | ⟨rfl, hk⟩ | ⟨rfl, S, n, hk⟩
    · obtain ⟨its, _, pl, _⟩ := I.list hq
      refine ⟨pl.isList.typeIs, fun a e => ?_⟩
      cases e
      obtain ⟨o, n, e, c, hd, _⟩ := pl
      exact ⟨o, e, hd⟩
    · refine ⟨⟨o, I.kIn p o hk, hc⟩, fun a e => ?_⟩
      cases e
      exact ⟨o, I.kIn _ o hk, hd⟩
    · have z : ∃ o, s.heap.get? p = some o ∧ o.ExactDict := by
        rcases hk with ⟨kvs, hk⟩ | ⟨kvs, hk⟩
        · obtain ⟨_, _, _, _, o, _, _, e, ex, _⟩ := I.hok p _ hk
          exact ⟨o, e, ex⟩
        · obtain ⟨_, _, _, _, o, _, _, e, ex, _⟩ := I.hok p _ hk
          exact ⟨o, e, ex⟩
      obtain ⟨o, e, ex⟩ := z
      refine ⟨⟨o, e, ex.1⟩, fun a e2 => ?_⟩
      cases e2
      exact ⟨o, e, ex.2.1⟩
    · obtain ⟨o, _, _, _, e, ex, _⟩ := I.hok p _ hk
      refine ⟨⟨o, e, ex.1⟩, fun a e2 => ?_⟩
      cases e2
      exact ⟨o, e, ex.2.1⟩
  | _ => exact False.elim ty
def tBM0 (K : PySem.W.Frag) (T : String) (r : V → List V → Hp → VK → Prop) (to : TE) : TE := fun σ H Q => to σ H fun x H1 => tyV K T x H1 ∧ r x [] H1 Q
def tBM (K : PySem.W.Frag) (T : String) (r : V → List V → Hp → VK → Prop) (to : TE) (t : TA) : TE := fun σ H Q => to σ H fun x H1 => tyV K T x H1 ∧ t σ H1 fun xs H2 => r x xs H2 Q
variable {o e : Expr} {es : List Expr} {to : TE} {t : TA} {name : Str} {apos cpos : Pos} {T id : String} {r : V → List V → Hp → VK → Prop}
theorem pe_bm0 (pa : PlainAttrs T) (slot : Slot T name id) (hty : typeOf (.builtin id) = pure (.type "method_descriptor")) (hm : MtR X id r) (ho : PE X o to)
    (hbase : attributeBase o name X.env (eval o X.env) = eval o X.env := by rfl) (hline : (apos.endLine == cpos.line) = true := by rfl) : PE X (.Call (.Attribute o name apos) [] [] cpos) (tBM0 X.K T r to) := by
  intro pins s σ H Q I h
  refine wpAny_Call_method0_late hbase hline (thn (ho pins s σ H _ I h) fun v s1 ⟨x, H1, I1, r1, ty, q1⟩ => ?_)
  obtain ⟨h1, h2⟩ := tyV_is I1 r1 ty
  exact ⟨T, id, pa, slot, hty, h1, h2, Calls.callWith_builtin rfl (PySem.evalArgs_none (hm pins s1 σ H1 x [] v [] Q I1 r1 .nil q1))⟩
theorem pe_bm (pa : PlainAttrs T) (slot : Slot T name id) (hty : typeOf (.builtin id) = pure (.type "method_descriptor")) (hm : MtR X id r) (ho : PE X o to) (ha : PA X (e :: es) t)
    (hbase : attributeBase o name X.env (eval o X.env) = eval o X.env := by rfl)
    (hfew : ((backTo cpos (starEach (e :: es) X.env)).all (fun x => !x.1) && (backToKw cpos (keywordEach [] X.env)).all (fun x => x.1.isSome)
      && decide ((e :: es).length + ([] : List Keyword).length + (if ([] : List Keyword).isEmpty then 0 else 1) < 30)) = true := by rfl)
    (hline : (apos.endLine == cpos.line) = true := by rfl) (hs : starEach (e :: es) X.env = (false, eval e X.env) :: starEach es X.env := by rfl) (hplain : (backTo cpos (starEach es X.env)).any (·.1) = false := by rfl) :
    PE X (.Call (.Attribute o name apos) (e :: es) [] cpos) (tBM X.K T r to t) := by
  intro pins s σ H Q I h
  refine wpAny_Call_method_late hbase hfew hline rfl (thn (ho pins s σ H _ I h) fun v s1 ⟨x, H1, I1, r1, ty, q1⟩ => ?_)
  obtain ⟨h1, h2⟩ := tyV_is I1 r1 ty
  refine ⟨T, id, pa, slot, hty, h1, h2, ?_⟩
  have hA := ha cpos pins s1 σ H1 _ I1 q1
  rw [hs] at hA ⊢
  refine Calls.callWith_builtin (by show (false || (backTo cpos (starEach es X.env)).any (·.1)) = false; rw [hplain] <;> rfl) (Calls.evalArgs_plain ?_)
  exact thn hA fun us s2 ⟨vs, H2, I2, r2, q2⟩ => hm pins s2 σ H2 x vs v us Q I2 r1 r2 q2
/- xs.append(e), list.index on a module's tuple .. are MtR facts of 06m -/
end
end L2

namespace L2
open PySem PySem.Spec PyProof.Rows

def MtM (X : Cx) (id : String) (r : V → List V → Hp → VK → Prop) : Prop :=
  ∀ (pins : List (Addr × Obj)) (s : Shared) (σ : St) (H : Hp) (x : V) (xs : List V) (v : Value) (us : List Value) (Q : VK), Inv X pins σ H s → RelV x v → Vals xs us → r x xs H Q →
    wpAny (model X.prog X.w) X.A (call (.builtin id) (v :: us)) (EP X pins σ Q) X.xe s

/-! ### lists of values -/
theorem Vals.one : ∀ {x : V} {us : List Value}, Vals [x] us → ∃ u, us = [u] ∧ RelV x u
  | _, _, .cons r .nil => ⟨_, rfl, r⟩
theorem Vals.zero : ∀ {us : List Value}, Vals [] us → us = []
  | _, .nil => rfl
theorem Vals.dropLast {xs : List V} {us : List Value} (h : Vals xs us) : Vals xs.dropLast us.dropLast := by
  induction h with
  | nil => exact .nil
  | cons r t ih =>
    cases t with
    | nil => exact .nil
    | cons q t' => exact .cons r ih
theorem Vals.eraseIdx : ∀ {xs : List V} {us : List Value} (i : Nat), Vals xs us → Vals (xs.eraseIdx i) (us.eraseIdx i)
  | _, _, _, .nil => .nil
  | _, _, 0, .cons _ t => t
  | _, _, i + 1, .cons r t => .cons r (Vals.eraseIdx i t)
theorem Vals.reverse {xs : List V} {us : List Value} (h : Vals xs us) : Vals xs.reverse us.reverse := by
  induction h with
  | nil => exact .nil
  | cons r t ih => rw [List.reverse_cons, List.reverse_cons]; exact Vals.append ih (.cons r .nil)
theorem erase_last {α : Type} (l : List α) : l.eraseIdx (l.length - 1) = l.dropLast := by
  induction l with
  | nil => rfl
  | cons a r ih =>
    cases r with
    | nil => rfl
    | cons b r =>
      have e : (a :: b :: r).length - 1 = ((b :: r).length - 1) + 1 := by
        have h1 : (a :: b :: r).length = r.length + 2 := rfl
        have h2 : (b :: r).length = r.length + 1 := rfl
        omega
      rw [e, List.eraseIdx_cons_succ, ih]
      all_goals rfl
theorem len_erase {α : Type} : ∀ (l : List α) (i : Nat), (l.eraseIdx i).length ≤ l.length
  | [], _ => Nat.le_refl _
  | _ :: _, 0 => Nat.le_succ _
  | _ :: r, i + 1 => Nat.succ_le_succ (len_erase r i)
section
variable {X : Cx} {pins : List (Addr × Obj)} {σ : St} {H : Hp} {s : Shared} {l b : Addr} {xs ys zs : List V}

/-! ### the two steps: a tracked list is rewritten, a new list is laid -/
theorem Inv.lset {its its' : List Value} {n : Nat} {f : Array Value → Array Value} {t' : Nat} (I : Inv X pins σ H s) (hH : H l = some (.lst xs))
    (e : s.heap.get? l = some { cls := .type "list", data := .seq its.toArray n }) (hf : f its.toArray = its'.toArray) (hv : Vals ys its') (hz : ys.length ≤ sizeLine) :
    Inv X pins σ (upd H l (.lst ys)) { s with heap := s.heap.update l (Obj.mapSeq f), toks := t' } := by
  have q := PySem.IsL.update e f
  rw [hf] at q
  refine I.write (x := l) (e := l) (by rw [hH]; exact trivial) (.inl rfl) (fun b' u hb hu => (Heap.get?_update_other s.heap (Obj.mapSeq f) (Ne.symm hb)).trans hu) ⟨_, q⟩ ?_
  exact ⟨hz, its', _, hv, q⟩
theorem Inv.lnew {its : List Value} {t' : Nat} (I : Inv X pins σ H s) (hv : Vals ys its) (hz : ys.length ≤ sizeLine) :
    Inv X pins σ (upd H s.heap.objs.size (.lst ys)) { s with heap := s.heap.push { cls := .type "list", data := .seq its.toArray }, toks := t' } :=
  I.laid (fun _ _ q => Heap.get?_push_of_some _ q) (Nat.le_refl _) ⟨hz, its, 0, hv, Heap.get?_push_size _ rfl⟩
theorem Inv.fresh (I : Inv X pins σ H s) : H s.heap.objs.size = none := I.hok.fresh (Nat.le_refl _)
theorem Inv.lstM (I : Inv X pins σ H s) (hH : H l = some (.lst xs)) : xs.length ≤ sizeLine ∧ ∃ (its : List Value) (n : Nat), Vals xs its ∧ xs.length = its.length ∧ s.heap.get? l = some { cls := .type "list", data := .seq its.toArray n } := by
  obtain ⟨z, its, n, r, e⟩ := I.hok l _ hH
  exact ⟨z, its, n, r, r.length, e⟩

end

section
variable {X : Cx}

/-! ### methods -/
def rAppend : V → List V → Hp → VK → Prop := fun x vs H Q => ∃ l xs y, x = .ref l ∧ vs = [y] ∧ H l = some (.lst xs) ∧ xs.length < sizeLine ∧ Q .non (upd H l (.lst (xs ++ [y])))
theorem mt_append : MtM X "list.append" rAppend := by
  intro pins s σ H x vs v us Q I rx rv h
  obtain ⟨l, xs, y, rfl, rfl, hH, hz, q⟩ := h
  cases rx
  obtain ⟨u, rfl, ru⟩ := rv.one
  obtain ⟨z, its, n, r, hl, e⟩ := I.lstM hH
  refine call_meets F.slot_list_append ⟨_, e, rfl⟩ F.entry_list_append (F.args_list_append_2 _ _) (PySem.list_append l its.toArray n u (by rw [List.size_toArray]; omega)) ⟨e, ?_⟩
  refine ⟨.non, _, I.lset (its' := its ++ [u]) hH e (by simp) (r.append (.cons ru .nil)) ?_, rfl, q⟩
  rw [List.length_append, List.length_singleton]
  omega

def rPop : V → List V → Hp → VK → Prop := fun x vs H Q => ∃ l xs y, x = .ref l ∧ vs = [] ∧ H l = some (.lst xs) ∧ xs[xs.length - 1]? = some y ∧ Q y (upd H l (.lst xs.dropLast))
theorem mt_pop : MtM X "list.pop" rPop := by
  intro pins s σ H x vs v us Q I rx rv h
  obtain ⟨l, xs, y, rfl, rfl, hH, hy, q⟩ := h
  cases rx
  have hus := rv.zero
  subst hus
  obtain ⟨z, its, n, r, hl, e⟩ := I.lstM hH
  obtain ⟨u, hu, ru⟩ := r.get hy
  have hy' : its.toArray[its.toArray.size - 1]? = some u := by
    show its.toArray[its.length - 1]? = some u
    rw [← Array.getElem?_toList, ← hl]
    exact hu
  refine call_meets F.slot_list_pop ⟨_, e, rfl⟩ F.entry_list_pop (F.args_list_pop_1 _) (MeetsSeq.list_pop_last l its.toArray n u hy' (by rw [List.size_toArray]; omega)) ⟨e, ?_⟩
  refine ⟨y, _, I.lset (its' := its.dropLast) hH e ?_ r.dropLast ?_, ru, q⟩
  · show its.toArray.eraseIdxIfInBounds (its.toArray.size - 1) = its.dropLast.toArray
    rw [List.size_toArray, List.eraseIdxIfInBounds_toArray, erase_last]
  · rw [List.length_dropLast]
    omega

def rPopAt : V → List V → Hp → VK → Prop := fun x vs H Q => ∃ l xs i k y, x = .ref l ∧ vs = [.int i] ∧ H l = some (.lst xs) ∧ -(2 ^ 63) ≤ i ∧ i < 2 ^ 63 ∧ seqIndex? i xs.length = some k ∧ xs[k]? = some y ∧ Q y (upd H l (.lst (xs.eraseIdx k)))
theorem mt_popAt : MtM X "list.pop" rPopAt := by
  intro pins s σ H x vs v us Q I rx rv h
  obtain ⟨l, xs, i, k, y, rfl, rfl, hH, h1, h2, hk, hy, q⟩ := h
  cases rx
  obtain ⟨u, rfl, ru⟩ := rv.one
  obtain ⟨t, rfl⟩ := ru
  obtain ⟨z, its, n, r, hl, e⟩ := I.lstM hH
  obtain ⟨w, hw, rw'⟩ := r.get hy
  refine call_meets F.slot_list_pop ⟨_, e, rfl⟩ F.entry_list_pop (F.args_list_pop_2 _ _)
    (MeetsSeq.list_pop_at l its.toArray n i t k w (fitsIndex_both h1 h2) (by rw [List.size_toArray, ← hl]; exact hk) (by rw [← Array.getElem?_toList]; exact hw) (by rw [List.size_toArray]; omega)) ⟨e, ?_⟩
  refine ⟨y, _, I.lset (its' := its.eraseIdx k) hH e ?_ (r.eraseIdx k) ?_, rw', q⟩
  · show its.toArray.eraseIdxIfInBounds k = (its.eraseIdx k).toArray
    rw [List.eraseIdxIfInBounds_toArray]
  · have := len_erase xs k
    omega

/-! ### list + list, list += list, list * int -/
def rCat : R2 := fun x y H Q => ∃ l b xs zs, x = .ref l ∧ y = .ref b ∧ H l = some (.lst xs) ∧ H b = some (.lst zs) ∧ xs.length + zs.length ≤ sizeLine ∧ ∀ p, H p = none → Q (.ref p) (upd H p (.lst (xs ++ zs)))
theorem op_cat : OpR X (binaryOp .Add) rCat := by
  intro pins s σ H x y v u Q I rx ry h
  obtain ⟨l, b, xs, zs, rfl, rfl, hH, hB, hz, q⟩ := h
  cases rx
  cases ry
  obtain ⟨z, its, n, r, hl, e⟩ := I.lstM hH
  obtain ⟨z2, its2, n2, r2, hl2, e2⟩ := I.lstM hB
  refine PySem.P.add_list e e2 ?_ (by rw [List.size_toArray, List.size_toArray]; omega)
  have ea : its.toArray ++ its2.toArray = (its ++ its2).toArray := by simp
  rw [ea]
  exact ⟨.ref _, _, I.lnew (t' := s.toks) (r.append r2) (by rw [List.length_append]; omega), rfl, q _ I.fresh⟩
/-! ### del xs[i] -/
end

/-! ### xs[a:b] = ys -/
section
variable {prog : Program} {w : World} {A : Around} {E : Value → Shared → Prop} {s : Shared}
end

section
variable {X : Cx}
end
end L2

namespace L2
open PySem PySem.Spec PyProof.Rows

/-! ### lists of pairs as tables -/
section
variable {κ : Type} [DecidableEq κ]
def valV (kvs : List (κ × V)) (k : κ) : Option V := (kvs.find? fun kv => decide (kv.1 = k)).map (·.2)
def putK (kvs : List (κ × V)) (k : κ) (v : V) : List (κ × V) :=
  if (kvs.any fun kv => decide (kv.1 = k)) = true then kvs.map (fun kv => if kv.1 = k then (kv.1, v) else kv) else kvs ++ [(k, v)]
def dropK (kvs : List (κ × V)) (k : κ) : List (κ × V) := kvs.filter fun kv => decide (kv.1 ≠ k)

theorem valV_pos {p : κ × V} {r : List (κ × V)} {k : κ} (e : p.1 = k) : valV (p :: r) k = some p.2 := by simp [valV, List.find?_cons, e]
theorem valV_neg {p : κ × V} {r : List (κ × V)} {k : κ} (e : ¬ p.1 = k) : valV (p :: r) k = valV r k := by simp [valV, List.find?_cons, e]
theorem valV_any (k : κ) : ∀ kvs : List (κ × V), (kvs.any fun kv => decide (kv.1 = k)) = (valV kvs k).isSome
  | [] => rfl
  | p :: r => by
    rw [List.any_cons]
    by_cases e : p.1 = k
    · simp only [valV_pos e, decide_eq_true e, Bool.true_or, Option.isSome_some]
    · rw [valV_neg e, decide_eq_false e, Bool.false_or]; exact valV_any k r
theorem RelO.isSome_eq {o : Option V} {u : Option Value} (r : RelO o u) : o.isSome = u.isSome := by
  cases o with
  | none => cases u with
    | none => rfl
    | some _ => exact (show False from r).elim
  | some _ => cases u with
    | none => exact (show False from r).elim
    | some _ => rfl
theorem RelO.getD {o : Option V} {u : Option Value} {d : V} {d' : Value} (r : RelO o u) (rd : RelV d d') : RelV (o.getD d) (u.getD d') := by
  cases o with
  | none => cases u with
    | none => exact rd
    | some _ => exact (show False from r).elim
  | some _ => cases u with
    | none => exact (show False from r).elim
    | some _ => exact r

theorem KV.val {kvs : List (κ × V)} {vs : List (κ × Value)} (r : KV kvs vs) (k : κ) : RelO (valV kvs k) (valueAt vs k) := by
  unfold KV at r
  induction r with
  | nil => exact True.intro
  | @cons p q ps qs h t ih =>
    obtain ⟨h1, h2⟩ := h
    by_cases e : p.1 = k
    · have e' : q.1 = k := h1.symm.trans e
      have b : valueAt (q :: qs) k = some q.2 := by simp [valueAt, List.find?_cons, e']
      rw [valV_pos e, b]; exact h2
    · have e' : ¬ q.1 = k := fun z => e (h1.trans z)
      have b : valueAt (q :: qs) k = valueAt qs k := by simp [valueAt, List.find?_cons, e']
      rw [valV_neg e, b]; exact ih
theorem KV.any {kvs : List (κ × V)} {vs : List (κ × Value)} (r : KV kvs vs) (k : κ) : (kvs.any fun kv => decide (kv.1 = k)) = vs.any fun kv => decide (kv.1 = k) := by
  unfold KV at r
  induction r with
  | nil => rfl
  | cons h t ih => rw [List.any_cons, List.any_cons, ih, h.1]
theorem KV.repl {kvs : List (κ × V)} {vs : List (κ × Value)} (r : KV kvs vs) (k : κ) {y : V} {u : Value} (ry : RelV y u) :
    KV (kvs.map fun kv => if kv.1 = k then (kv.1, y) else kv) (vs.map fun kv => if kv.1 = k then (kv.1, u) else kv) := by
  unfold KV at r ⊢
  induction r with
  | nil => exact .nil
  | @cons p q ps qs h t ih =>
    rw [List.map_cons, List.map_cons]
    refine .cons ?_ ih
    obtain ⟨h1, h2⟩ := h
    by_cases e : p.1 = k
    · rw [if_pos e, if_pos (h1.symm.trans e)]; exact ⟨h1, ry⟩
    · rw [if_neg e, if_neg (fun z => e (h1.trans z))]; exact ⟨h1, h2⟩
theorem KV.put {kvs : List (κ × V)} {vs : List (κ × Value)} (r : KV kvs vs) (k : κ) {y : V} {u : Value} (ry : RelV y u) : KV (putK kvs k y) (stored vs k u) := by
  unfold putK stored
  rw [r.any k]
  by_cases e : (vs.any fun kv => decide (kv.1 = k)) = true
  · rw [if_pos e, if_pos e]; exact r.repl k ry
  · rw [if_neg e, if_neg e]; exact Paired.snoc r ⟨rfl, ry⟩
theorem KV.drop {kvs : List (κ × V)} {vs : List (κ × Value)} (r : KV kvs vs) (k : κ) : KV (dropK kvs k) (without vs k) := by
  unfold KV at r ⊢
  unfold dropK without
  induction r with
  | nil => exact .nil
  | @cons p q ps qs h t ih =>
    obtain ⟨h1, h2⟩ := h
    rw [List.filter_cons, List.filter_cons]
    by_cases e : p.1 = k
    · have a : ¬ decide (p.1 ≠ k) = true := by simp [e]
      have b : ¬ decide (q.1 ≠ k) = true := by simp [h1.symm.trans e]
      rw [if_neg a, if_neg b]; exact ih
    · have e' : ¬ q.1 = k := fun z => e (h1.trans z)
      have a : decide (p.1 ≠ k) = true := by simp [e]
      have b : decide (q.1 ≠ k) = true := by simp [e']
      rw [if_pos a, if_pos b]; exact .cons ⟨h1, h2⟩ ih
theorem KV.keys {kvs : List (κ × V)} {vs : List (κ × Value)} (r : KV kvs vs) : kvs.map (·.1) = vs.map (·.1) := by
  unfold KV at r
  induction r with
  | nil => rfl
  | cons h t ih => rw [List.map_cons, List.map_cons, ih, h.1]
theorem KV.length {kvs : List (κ × V)} {vs : List (κ × Value)} (r : KV kvs vs) : kvs.length = vs.length := Paired.length r
end

/-! ### a tracked dict, its keys ints and texts or tuples of these -/
abbrev KT (H : Hp) : List (List Key × V) → List (List Key × Addr × Value) → Prop := Paired fun p q => p.1 = q.1 ∧ H q.2.1 = some (.tup (p.1.map kV)) ∧ RelV p.2 q.2.2
theorem KT.val {H : Hp} {kvs : List (List Key × V)} {xs : List (List Key × Addr × Value)} (r : KT H kvs xs) (k : List Key) : RelO (valV kvs k) ((atKey xs k).map (·.2)) := by
  induction r with
  | nil => exact True.intro
  | @cons p q ps qs h t ih =>
    obtain ⟨h1, _, h2⟩ := h
    by_cases e : p.1 = k
    · have e' : q.1 = k := h1.symm.trans e
      have b : atKey (q :: qs) k = some q.2 := by simp [atKey, List.find?_cons, e']
      rw [valV_pos e, b]; exact h2
    · have e' : ¬ q.1 = k := fun z => e (h1.trans z)
      have b : atKey (q :: qs) k = atKey qs k := by simp [atKey, List.find?_cons, e']
      rw [valV_neg e, b]; exact ih
theorem KT.repl {H : Hp} {kvs : List (List Key × V)} {xs : List (List Key × Addr × Value)} (r : KT H kvs xs) (k : List Key) {y : V} {u : Value} (ry : RelV y u) :
    KT H (kvs.map fun kv => if kv.1 = k then (kv.1, y) else kv) (xs.map (putAt k u)) := by
  induction r with
  | nil => exact .nil
  | @cons p q ps qs h t ih =>
    rw [List.map_cons, List.map_cons]
    refine .cons ?_ ih
    obtain ⟨h1, h2, h3⟩ := h
    unfold putAt
    by_cases e : p.1 = k
    · rw [if_pos e, if_pos (h1.symm.trans e)]; exact ⟨h1, h2, ry⟩
    · rw [if_neg e, if_neg (fun z => e (h1.trans z))]; exact ⟨h1, h2, h3⟩
theorem KT.put {H : Hp} {kvs : List (List Key × V)} {xs : List (List Key × Addr × Value)} (r : KT H kvs xs) (k : List Key) {b : Addr} {y : V} {u : Value} (hb : H b = some (.tup (k.map kV))) (ry : RelV y u) :
    KT H (putK kvs k y) (storedH xs k b u) := by
  have e : (kvs.any fun kv => decide (kv.1 = k)) = (atKey xs k).isSome := by
    rw [valV_any, (r.val k).isSome_eq, Option.isSome_map]
  unfold putK storedH
  rw [e]
  by_cases q : (atKey xs k).isSome = true
  · rw [if_pos q, if_pos q]; exact r.repl k ry
  · rw [if_neg q, if_neg q]; exact Paired.snoc r ⟨rfl, hb, ry⟩
theorem KT.keeps {H H' : Hp} {kvs : List (List Key × V)} {xs : List (List Key × Addr × Value)} (r : KT H kvs xs) (ht : ∀ b ys, H b = some (.tup ys) → H' b = some (.tup ys)) : KT H' kvs xs :=
  Paired.mapP r fun _ _ z => ⟨z.1, ht _ _ z.2.1, z.2.2⟩

section
variable {P : Program} {w : World} {H : Hp} {h : Heap} {a : Addr}
end

def DGet (H : Hp) (a : Addr) (y : V) (r : Option V) : Prop :=
  (∃ kvs k, Rd H a (.dK kvs) ∧ y = kV k ∧ r = valV kvs k) ∨ ∃ kvs k b, Rd H a (.dT kvs) ∧ y = .ref b ∧ H b = some (.tup (k.map kV)) ∧ r = valV kvs k
def DPut (H : Hp) (a : Addr) (y v : V) (H' : Hp) : Prop :=
  (∃ kvs k, H a = some (.dK kvs) ∧ y = kV k ∧ kvs.length < sizeLine ∧ H' = upd H a (.dK (putK kvs k v))) ∨
  ∃ kvs k b, H a = some (.dT kvs) ∧ y = .ref b ∧ H b = some (.tup (k.map kV)) ∧ kvs.length < sizeLine ∧ H' = upd H a (.dT (putK kvs k v))
theorem DGet.k {H : Hp} {a : Addr} {kvs : List (Key × V)} {k : Key} (e : H a = some (.dK kvs)) : DGet H a (kV k) (valV kvs k) := .inl ⟨kvs, k, .inl e, rfl, rfl⟩
theorem DGet.t {H : Hp} {a b : Addr} {kvs : List (List Key × V)} {k : List Key} (e : H a = some (.dT kvs)) (eb : H b = some (.tup (k.map kV))) : DGet H a (.ref b) (valV kvs k) := .inr ⟨kvs, k, b, .inl e, rfl, eb, rfl⟩
theorem DPut.k {H : Hp} {a : Addr} {kvs : List (Key × V)} {k : Key} {v : V} (e : H a = some (.dK kvs)) (hl : kvs.length < sizeLine) : DPut H a (kV k) v (upd H a (.dK (putK kvs k v))) := .inl ⟨kvs, k, e, rfl, hl, rfl⟩
theorem DPut.t {H : Hp} {a b : Addr} {kvs : List (List Key × V)} {k : List Key} {v : V} (e : H a = some (.dT kvs)) (eb : H b = some (.tup (k.map kV))) (hl : kvs.length < sizeLine) :
    DPut H a (.ref b) v (upd H a (.dT (putK kvs k v))) := .inr ⟨kvs, k, b, e, rfl, eb, hl, rfl⟩

section
variable {X : Cx} {pins : List (Addr × Obj)} {σ : St} {H : Hp} {s : Shared} {a : Addr} {y v : V} {u r : Value} {o : Option V} {A : Around} {E : Value → Shared → Prop}

theorem Inv.big (I : Inv X pins σ H s) : sysModules < s.heap.objs.size := by
  have h : mainGlobals < s.heap.objs.size := (I.mod.glob.keeps I.bk).lt
  exact Nat.lt_trans (by decide) h

end

section
variable {X : Cx} {pins : List (Addr × Obj)} {σ : St} {H : Hp} {s : Shared} {a : Addr} {kvs : List (Key × V)} {k : Key} {u : Value} {A : Around} {E : Value → Shared → Prop}
end

/-! ### readings and rules -/
section
variable {X : Cx} {o i e value : Expr} {pos pos' tpos : Pos} {td ty tv : TE}
end

/-! ### displays -/
def tDNewK : TE := fun _ H Q => ∀ p, H p = none → Q (.ref p) (upd H p (.dK []))
section
variable {X : Cx} {pos : Pos}
end

def tPairs : List (TE × TE) → St → Hp → (List (V × V) → Hp → Prop) → Prop
  | [], _, H, Q => Q [] H
  | (tk, tv) :: r, σ, H, Q => tk σ H fun x H1 => tv σ H1 fun y H2 => tPairs r σ H2 fun ps H3 => Q ((x, y) :: ps) H3
abbrev VV : List (V × V) → List (Value × Value) → Prop := Paired fun p q => RelV p.1 q.1 ∧ RelV p.2 q.2
def PPs (X : Cx) (pos : Pos) (keys : List (Option Expr)) (values : List Expr) (trs : List (TE × TE)) : Prop :=
  ∀ (pins : List (Addr × Obj)) (s : Shared) (σ : St) (H : Hp) (Q : List (V × V) → Hp → Prop), Inv X pins σ H s → tPairs trs σ H Q →
    wpAny (model X.prog X.w) X.A (evalPairs (pairTrees keys values X.env pos)) (fun vs s' => ∃ ps H', Inv X pins σ H' s' ∧ VV ps vs ∧ Q ps H') X.xe s
def mergeK (kvs more : List (Key × V)) : List (Key × V) := more.foldl (fun acc kv => putK acc kv.1 kv.2) kvs
theorem KV.merge : ∀ {more : List (Key × V)} {rs : List (Key × Value)} {kvs : List (Key × V)} {vs : List (Key × Value)}, KV more rs → KV kvs vs → KV (mergeK kvs more) (merged vs rs) := by
  intro more rs kvs vs r
  unfold KV at r
  induction r generalizing kvs vs with
  | nil => intro q; exact q
  | @cons p q ps qs h t ih =>
    intro r0
    have e : KV (putK kvs p.1 p.2) (stored vs q.1 q.2) := by
      have := r0.put p.1 h.2
      rw [← h.1]; exact this
    exact ih e
/-! ### methods -/
structure M1 (X : Cx) (o : Expr) (m : Str) (apos : Pos) (e : Expr) (cpos : Pos) : Prop where
  base : attributeBase o m X.env (eval o X.env) = eval o X.env
  few : ((backTo cpos (starEach [e] X.env)).all (fun x => !x.1) && (backToKw cpos (keywordEach [] X.env)).all (fun x => x.1.isSome)
    && decide (([e] : List Expr).length + ([] : List Keyword).length + (if ([] : List Keyword).isEmpty then 0 else 1) < 30)) = true
  line : (apos.endLine == cpos.line) = true
  trees : backTo cpos (starEach [e] X.env) = [(false, eval e X.env)]
structure M2 (X : Cx) (o : Expr) (m : Str) (apos : Pos) (e f : Expr) (cpos : Pos) : Prop where
  base : attributeBase o m X.env (eval o X.env) = eval o X.env
  few : ((backTo cpos (starEach [e, f] X.env)).all (fun x => !x.1) && (backToKw cpos (keywordEach [] X.env)).all (fun x => x.1.isSome)
    && decide (([e, f] : List Expr).length + ([] : List Keyword).length + (if ([] : List Keyword).isEmpty then 0 else 1) < 30)) = true
  line : (apos.endLine == cpos.line) = true
  trees : backTo cpos (starEach [e, f] X.env) = [(false, eval e X.env), (false, eval f X.env)]

section
variable {X : Cx} {pins : List (Addr × Obj)} {σ : St} {H : Hp} {s : Shared} {a : Addr} {y d : V} {u r : Value} {o : Option V} {A : Around} {E : Value → Shared → Prop}
end

section
variable {X : Cx} {o e f : Expr} {apos cpos : Pos} {td ty tx : TE}
end

/-! ### dict(d): a copy -/
section
variable {X : Cx} {pins : List (Addr × Obj)} {σ : St} {H : Hp} {s : Shared} {a : Addr} {kvs : List (Key × V)} {A : Around} {E : Value → Shared → Prop}
end

section
variable {X : Cx} {pins : List (Addr × Obj)} {σ : St} {H : Hp} {s : Shared} {a : Addr} {y : V} {u : Value} {A : Around} {E : Value → Shared → Prop}
end
end L2

namespace Att
open PySem PySem.W PySem.Calls PyProof.Rows

/-! ### the script -/
theorem ints_of_wellAll {P : Params} {h : Heap} : ∀ (ns : List Int) (vs : List Value), WellAll P h vs (ns.map WData.int) → IntsAre vs ns := by
  intro ns
  induction ns with
  | nil =>
    intro vs w
    rw [List.map_nil] at w
    cases w
    exact .nil
  | cons n ns ih =>
    intro vs w
    rw [List.map_cons] at w
    cases w with
    | cons a b =>
      cases a
      exact .cons _ _ (ih _ b)

theorem script_of {l : OpenLaw} {n : Nat} (hn : l.most = some n) {P : Params} {h : Heap} {args : List WData} {vals : List Value}
    (hpre : l.row.toRowW.claim.pre args = true) (hwl : WellAll P h vals args) :
    ∃ a vs ns, vals = [Value.ref a] ∧ args = [WData.list (ns.map WData.int)] ∧ h.get? a = some { cls := .type "list", data := .seq vs.toArray } ∧ IntsAre vs ns ∧ ns.length ≤ n := by
  have hsh : WShape.hasAll [] args [.list .int] = true := (pre_splitW hpre).1
  have hc : l.pre.holds [] { args := args } = true := (pre_splitW hpre).2
  obtain ⟨d, r, rfl, h1, h2⟩ := hasAllW_cons hsh
  obtain rfl := hasAllW_nil h2
  obtain ⟨xs, rfl, h3⟩ := hasW_list h1
  obtain ⟨ns, rfl⟩ := items_int h3
  have hlen : ns.length ≤ n := by
    unfold OpenLaw.pre at hc
    have h4 : (WTm.not (.lt (.lit (.int (n : Int))) (.len (.arg 0)))).holds [] { args := [.list (ns.map .int)] } = true := by
      have h4 := (holds_andW hc).1
      rw [hn] at h4
      exact h4
    have h5 := condW_of h4 (w_not (w_lt w_lit (w_len_list (w_arg rfl))))
    rw [List.length_map] at h5
    refine Nat.le_of_not_lt fun q => ?_
    have q' : (n : Int) < ((ns.length : Nat) : Int) := by omega
    first
      | (rw [decide_eq_true q'] at h5; exact absurd h5 (by decide))
      | (simp at h5; omega)
  cases hwl with
  | cons w1 w2 =>
    cases w2
    cases w1 with
    | list ho hall => exact ⟨_, _, ns, rfl, rfl, ho, ints_of_wellAll ns _ hall, hlen⟩

theorem post_true (l : OpenLaw) (args : List WData) : l.row.toRowW.claim.post args (.bool true) args = true :=
  postW_of (r := l.row.toRowW) (X := (true == true))
    (show WShape.has [] (.bool true) .bool = true by first | rfl | decide | simp [WShape.has, WShape.arms, WShape.armsAll])
    (show (WTm.eq .res (.lit (.bool true))).value [] { args := args, res := some (.bool true), after := args } = some (.bool (true == true)) from w_eq_bool (w_res rfl) w_lit) rfl

/-! ### the attachment: holds_open's last premise (the goal 'hc' behind k_head) from a wpAny of the law's body -/
theorem attach_call {l : OpenLaw} {n : Nat} {q : Program} {loose : List Str} {XP : (Str → Option Value) → Heap → Prop} {YP : World → Heap → Prop} {d : DefRec}
    (hn : l.most = some n) (hdf : d.params.defaults = [])
    (call : ∀ (w : World) (s₀ s₁ : Shared) (mg mb : Str → Option Value) (fa : Addr) (o : Obj) (pm cd doc : Value) (a : Addr) (vs : List Value) (ns : List Int),
      Ground q loose [] XP w s₀ mg mb s₁.heap → YP w s₁.heap →
      s₁.heap.get? fa = some o → o.data = .func (docDef d.name d.params d.body d.scope pm cd doc) → s₁.heap.CodeRec cd d.name → mg d.name = some (.ref fa) →
      s₁.heap.get? a = some { cls := .type "list", data := .seq vs.toArray } → IntsAre vs ns → ns.length ≤ n → s₁.gens = #[] →
      codeAny (model l.prog w) callerA (.call (.ref fa) ⟨[.ref a], []⟩) (fun r s' => r = .ok (.ret (.bool true)) ∧ OldK s₁.heap s'.heap ∧ s'.os = s₁.os ∧ AllBare s'.gens) s₁) :
    WalkO q loose XP YP l.row.toRowW d [] (fun f vs => PySem.call f vs) := by
  intro w s₀ s₁ mg mb G Y fa o pm cd doc dV kV ho hd hcd hD hmg hg args vals as hpre hlay hrd hwl hlo
  obtain rfl : dV = .none := Dflts.none hD hdf
  obtain rfl : kV = .none := Dflts.noKw hD
  obtain ⟨a, vs, ns, rfl, rfl, hobj, hints, hlen⟩ := script_of hn hpre hwl
  refine enter_call (codeAny_mono (call w s₀ s₁ mg mb fa o pm cd doc a vs ns G Y ho (fd_plain hd) hcd hmg hobj hints hlen hg) fun r s' hq => ?_)
  obtain ⟨rfl, h2, h3, h4⟩ := hq
  exact ⟨.inl ⟨.bool true, .bool true, [], rfl, fun _ => rfl, .bool true, post_true l _, fun _ => ⟨List.Pairwise.nil, fun _ hm => (nomatch hm)⟩⟩, h2, h3, h4⟩

/-! ### rules over ANY heap (no ledger) from facts about the written part K: the library's own take a ledger (News) for what they write -/
section
variable {prog : Program} {w : World} {A : Around} {E : Value → Shared → Prop} {s : Shared} {K : Frag}

/-! the whole heap as the ledger: makes every rule that writes through a ledger a rule over any heap -/
end
end Att

namespace L2
open PySem PySem.Spec PyProof.Rows

theorem vals_ints : ∀ {vs : List Value} {ns : List Int}, IntsAre vs ns → Vals (ns.map V.int) vs
  | _, _, .nil => .nil
  | _, _, .cons n t h => .cons ⟨t, rfl⟩ (vals_ints h)

def Only (H : Hp) : Prop := ∀ b, H b = none ∨ ∃ o xs, H b = some (.frz o (.lst xs))

theorem law_call {P : Program} {w : World} {K : PySem.W.Frag} {mg mb : Str → Option Value} {CX : CXT} {k : Nat} {fa a : Addr} {fd : FuncData} {x : Str} {sp : Sp} {s₁ : Shared} {vs : List Value} {ns : List Int}
    (KX : K.In s₁.heap) (hns : s₁.heap.Ns mainGlobals mg) (hb : s₁.heap.Ns builtinsNs mb) (hbb : ∀ x : Str, x ≠ "__name__" → mb x = bootBuiltins x) (hlim : s₁.heap.NoLimit) (hg : s₁.gens = #[])
    (ha : s₁.heap.get? a = some { cls := .type "list", data := .seq vs.toArray }) (hi : IntsAre vs ns) (hl : ns.length ≤ sizeLine) (hr : Room k callerA)
    (F : ∀ base : Heap, K.In base → base.Ns mainGlobals mg → FnOk P w K mg base CX k fa fd [x] sp) (hbind : ∀ (s : Shared) (u : Value), BindsTo s fd ⟨[u], []⟩ [(x, u)])
    (hsp : ∀ H : Hp, Only H → SqL K H a (ns.map V.int) → sp [.ref a] H (fun v _ => v = .bl true) fun _ _ _ => False)
    (hCX : ∀ H e s', CX [] H s₁ (fun _ _ _ => False) e s' → False) :
    codeAny (model P w) callerA (.call (.ref fa) ⟨[.ref a], []⟩) (fun r s' => r = .ok (.ret (.bool true)) ∧ OldK s₁.heap s'.heap ∧ s'.os = s₁.os ∧ AllBare s'.gens) s₁ := by
  have rv := vals_ints hi
  have lenV := hi.length
  -- from an abstract heap in which nothing but the script may be tracked
  have core : ∀ H : Hp, Only H → SqL K H a (ns.map V.int) → HOk P w H s₁.heap → (∀ b, H b ≠ none → b = a) → (H a ≠ none → K.lookup a = none) →
      codeAny (model P w) callerA (.call (.ref fa) ⟨[.ref a], []⟩) (fun r s' => r = .ok (.ret (.bool true)) ∧ OldK s₁.heap s'.heap ∧ s'.os = s₁.os ∧ AllBare s'.gens) s₁ := by
    intro H hO hS hok hA hK
    have base_of : ∀ {b : Addr} {o : Obj}, s₁.heap.get? b = some o → H b = none → (hidT s₁.heap H).get? b = some o := fun e n => hidT_get e n
    have noA : ∀ {b : Addr} {o : Obj} {es : Array DictEntry} {ep : Nat}, s₁.heap.get? b = some o → o.data = .dict es ep → H b = none := fun {b o es ep} e d => by
      cases q : H b with
      | none => rfl
      | some u =>
        have e' : b = a := hA b (by rw [q]; simp)
        subst e'
        rw [ha] at e; cases e
        have d' : Data.seq vs.toArray _ = Data.dict es ep := d
        cases d'
    have nsK : ∀ {b : Addr} {m : Str → Option Value}, s₁.heap.Ns b m → (hidT s₁.heap H).Ns b m := fun {b m} ⟨o, es, ep, e, d, r⟩ => ⟨o, es, ep, base_of e (noA e d), d, r⟩
    have hKb : K.In (hidT s₁.heap H) := fun b o e => base_of (KX b o e) (by
      cases q : H b with
      | none => rfl
      | some u =>
        have e' : b = a := hA b (by rw [q]; simp)
        subst e'
        rw [hK (by rw [q]; simp)] at e; cases e)
    have hM : Mod K mg (hidT s₁.heap H) := ⟨hKb, nsK hns, ⟨mb, nsK hb, hbb⟩, let ⟨mc, h1, h2⟩ := hlim; ⟨mc, nsK h1, h2⟩⟩
    have e0 : Env0 P w K mg (hidT s₁.heap H) callerA [] s₁ H := ⟨rfl, hM, fun b o e => of_hidT e, Nat.le_of_eq (hidT_size _ _), trivial, fun b hb => absurd (show b ∈ ([] : List Addr) from hb) (by simp), hok, .of_eq hg⟩
    refine codeAny_mono ((F _ hKb (nsK hns)).run callerA [] s₁ H ⟨[.ref a], []⟩ [.ref a] [.ref a] _ _ hr e0 (hbind s₁ (.ref a)) (.cons rfl .nil) (hsp H hO hS)) fun r s' h => ?_
    cases r with
    | error e => exact (hCX H e s' h).elim
    | ok fl =>
      cases fl with
      | next => exact False.elim h
      | brk => exact False.elim h
      | cont => exact False.elim h
      | ret u =>
        obtain ⟨v, H', os, bare, un, hok', r', q⟩ := h
        have q' : v = .bl true := q
        subst q'
        obtain rfl : u = Value.bool true := r'
        refine ⟨rfl, OldK.of_keep fun b o e => ?_, os, bare⟩
        cases q : H b with
        | none => exact un.keep b o e q (by intro z; exact absurd (show b ∈ ([] : List Addr) from z) (by simp)) (by simp)
        | some u =>
          rcases hO b with z | ⟨ob, xs, z⟩
          · rw [q] at z; cases z
          · have z2 := un.frzs b ob _ z
            obtain ⟨e1, _⟩ := hok b _ z
            obtain ⟨e2, _⟩ := hok' b _ z2
            rw [e] at e1; cases e1
            exact e2
  cases hk : K.lookup a with
  | some o =>
    -- the script is one of the module's own objects
    have e := KX a o hk
    rw [ha] at e
    cases e
    refine core (fun _ => none) (fun _ => .inl rfl) (.inr ⟨_, vs.toArray, _, hk, rfl, rfl, rfl, by rw [List.size_toArray, lenV]; exact hl, by simpa using rv⟩) (fun b u z => by have z' : (none : Option HO) = some u := z; cases z') (fun b z => absurd rfl z) fun z => absurd rfl z
  | none =>
    refine core (fun b => if b = a then some (.frz { cls := .type "list", data := .seq vs.toArray } (.lst (ns.map V.int))) else none) (fun b => ?_) (.inl (.inr ⟨{ cls := .type "list", data := .seq vs.toArray }, if_pos rfl⟩)) (fun b u z => ?_) (fun b z => ?_) fun _ => hk
    · by_cases hb : b = a
      · exact .inr ⟨_, _, if_pos hb⟩
      · exact .inl (if_neg hb)
    · by_cases hb : b = a
      · have z' := (if_pos hb).symm.trans z
        cases z'
        subst hb
        exact ⟨ha, by rw [List.length_map]; exact hl, vs, _, rv, ha⟩
      · have z' := (if_neg hb).symm.trans z
        cases z'
    · by_cases hb : b = a
      · exact hb
      · exact absurd (if_neg hb) z
end L2

namespace L2
open PySem PySem.Spec PyProof.Rows

theorem walk_of {l : PySem.W.OpenLaw} {n k : Nat} {q : Program} {loose : List Str} {XP : (Str → Option Value) → Heap → Prop} {YP : World → Heap → Prop} {d : DefRec} {K : Params → PySem.W.Frag} {CX : World → CXT} {sp : World → Sp} {x : Str}
    (hn : l.most = some n) (hn2 : n ≤ sizeLine) (hdf : d.params.defaults = []) (hr : Room k callerA)
    (hY : ∀ (w : World) (h : Heap), YP w h → (K w.params).In h)
    (F : ∀ (w : World) (mg : Str → Option Value) (fa : Addr) (h : Heap), (K w.params).In h → h.Ns mainGlobals mg → mg d.name = some (.ref fa) →
      ∃ fd : FuncData, (∀ (s : Shared) (u : Value), BindsTo s fd ⟨[u], []⟩ [(x, u)]) ∧
        ∀ base : Heap, (K w.params).In base → base.Ns mainGlobals mg → FnOk l.prog w (K w.params) mg base (CX w) k fa fd [x] (sp w))
    (hsp : ∀ (w : World) (H : Hp) (a : Addr) (ns : List Int), ns.length ≤ n → Only H → SqL (K w.params) H a (ns.map V.int) → sp w [.ref a] H (fun v _ => v = .bl true) fun _ _ _ => False)
    (hCX : ∀ (w : World) (H : Hp) (s : Shared) (e : Value) (s' : Shared), CX w [] H s (fun _ _ _ => False) e s' → False) :
    PySem.W.WalkO q loose XP YP l.row.toRowW d [] (fun f vs => PySem.call f vs) := by
  refine Att.attach_call hn hdf fun w s₀ s₁ mg mb fa o pm cd doc a vs ns G Y ho hd hcd hmg hobj hints hlen hg => ?_
  have KX := hY w _ Y
  obtain ⟨fd, hb, hF⟩ := F w mg fa _ KX G.T.g hmg
  exact law_call KX G.T.g G.T.b G.T.builtins G.T.nolimit hg hobj hints (Nat.le_trans hlen hn2) hr hF hb (fun H hO hS => hsp w H a ns hlen hO hS) fun H e s' => hCX w H s₁ e s'
end L2

/- THE LAST THEOREM (shape; LID, My.* are yours):
   My.Adr: a structure of the addresses that your layer names (classes, functions); My.Txt K t: a structure (Prop) of the equations over K;
   My.txt_mk : {K} {implicit addresses ..} (e1 : nsIn K mainGlobals "law" = some (some (.ref f))) (e2 : K.lookup f = some ⟨oc, od, .func (fnOf "law" "law" params body scope dV kV doc pm an cdv ct), sl⟩) (e3 : codeIn K cdv "law" = true) .. : ∃ t, My.Txt K t

set_option maxRecDepth 100000 in
set_option maxHeartbeats 0 in
theorem PySem.Challenge.cw_LID_holds : PySem.Challenge.rw_LID.Holds := by
  w_on; o_law; k_head; (case hw => w_witness2)
  k_fill
  refine L2.walk_of (l := PySem.Challenge.rw_LID) (n := 63) (k := 40) (x := "script") (CX := fun w => ..) (sp := fun _ => My.sp_law) rfl (by decide) rfl ⟨rfl, by decide, by decide⟩ (fun w h Y => PySem.W.kIn_of Y) ?F ?S ?C
  case F =>
    intro w mg fa h KX G hmg
    have T : ∃ t, My.Txt (L2.KOf KX) t := by
      dsimp only [L2.KOf]                          -- K must stand as «<heap const> w.params» for k_is
      refine' My.txt_mk ?e1 ?e2 ?e3 ..
      (case e1 => PySem.W.k_is)                    -- in the order: a name -> its address -> its object -> its parts
      (case e2 => PySem.W.k_is)
      ..
    obtain ⟨t, T⟩ := T
    have e0 := hmg.symm.trans (PySem.W.mg_of KX G T.law)
    cases e0                                       -- fa is the law's own address
    exact ⟨_, fun s u => .of_eq rfl, fun base kb nb => My.law_fn T kb nb⟩     -- if «.of_eq rfl» comes too early: refine' ⟨_, ?b, fun base kb nb => My.law_fn T kb nb⟩; exact fun s u => .of_eq rfl
  case S => exact fun w H a ns hl hO hS => ..
  case C => exact ..
(the tactic k_is has no namespace: write k_is) -/

/-! SHORT WORDS over the layer: a def of the text, its body, what a loop and a test want. -/
namespace L2
open PySem PySem.Spec PyProof.Rows

/-! ### the text by places -/
def inClass (s : Stmt) (j : Nat) : Stmt := match s with
  | .ClassDef _ _ _ body _ _ _ _ _ _ _ => body.getD j (.Pass ⟨0, 0, 0, 0⟩)
  | _ => .Pass ⟨0, 0, 0, 0⟩
def defArgs (s : Stmt) : Arguments := match s with
  | .FunctionDef _ a _ _ _ _ _ _ _ _ => a
  | _ => { posonlyargs := [], args := [], vararg := none, kwonlyargs := [], kw_defaults := [], kwarg := none, defaults := [] }
def defBody (s : Stmt) : List Stmt := match s with
  | .FunctionDef _ _ b _ _ _ _ _ _ _ => b
  | _ => []
def defScope (s : Stmt) : Scope := match s with
  | .FunctionDef _ _ _ _ _ _ sc _ _ _ => sc
  | _ => { kind := .function, names := [], isGenerator := false, isCoroutine := false }

/-! ### no exception leaves a def -/
abbrev CX0 : CXT := fun _ _ _ _ _ _ => False
abbrev E0 : XK := fun _ _ _ => False
theorem pass0 {X : Cx} : Passes CX0 X E0 := fun _ _ _ _ _ _ _ h => h.elim

/-! ### a def (or method) of the text as it stands behind the top -/
structure Fun (K : PySem.W.Frag) (x qual : Str) (st : Stmt) (f : Addr) (fd : FuncData) : Prop where
  ex : ∃ (oc : Value) (od : Option Addr) (kV doc pm : Value) (an : Option Addr) (cdv ct : Value) (osl : Array (Option Value)),
    fd = PySem.W.fnOf x qual (defArgs st) (defBody st) (defScope st) .none kV doc pm an cdv ct ∧ K.lookup f = some ⟨oc, od, .func fd, osl⟩ ∧ PySem.W.codeIn K cdv qual = true
  kp : PySem.W.keepIn K (.ref f) = true
section
variable {P : Program} {w : World} {K : PySem.W.Frag} {mg : Str → Option Value} {base : Heap}
theorem Fun.ok {x qual : Str} {st : Stmt} {f : Addr} {fd : FuncData} {N ps : List Str} {k : Nat} {sp : Sp} (F : Fun K x qual st f fd) (S : FnScope N ps (defScope st)) (len : ∀ vs H Q E, sp vs H Q E → vs.length = ps.length)
    (hbody : ∀ (cdv : Value) (A : Around) (outer : List Env) (s : Shared) (H : Hp) (vs : List V) (Q : VK) (E : XK), Room k (A.deeper (envOfC qual (defScope st) s.heap.objs.size f cdv)) → sp vs H Q E →
      ∃ t, PSs (cxOf CX0 P w K mg base N qual (defScope st) f cdv A outer s H E).nox (defBody st) t ∧ t { nx := fun _ H' => Q .non H', rt := Q } (start N vs) H) : FnOk P w K mg base CX0 (k + 1) f fd ps sp := by
  obtain ⟨oc, od, kV, doc, pm, an, cdv, ct, osl, rfl, lk, hcd⟩ := F.ex
  refine fn_of lk hcd S len fun A outer s H vs Q E hr hsp => ?_
  obtain ⟨t, h, q⟩ := hbody cdv A outer s H vs Q E hr hsp
  exact ⟨t, h.nox, q⟩
theorem Fun.binds {x qual : Str} {st : Stmt} {f : Addr} {fd : FuncData} {ps : List Str} (F : Fun K x qual st f fd)
    (h : ∀ (kV doc pm : Value) (an : Option Addr) (cdv ct : Value) (us : List Value), us.length = ps.length → bindArgs (PySem.W.fnOf x qual (defArgs st) (defBody st) (defScope st) .none kV doc pm an cdv ct) ⟨us, []⟩ = pure (ps.zip us)) : Binds K fd ps [] := by
  obtain ⟨oc, od, kV, doc, pm, an, cdv, ct, osl, rfl, lk, hcd⟩ := F.ex
  exact .all (h kV doc pm an cdv ct)
theorem fun_mk {x qual : Str} {st : Stmt} {f : Addr} {oc : Value} {od an : Option Addr} {osl : Array (Option Value)} {kV doc pm cdv ct : Value} (l : K.lookup f = some ⟨oc, od, .func (PySem.W.fnOf x qual (defArgs st) (defBody st) (defScope st) .none kV doc pm an cdv ct), osl⟩)
    (c : PySem.W.codeIn K cdv qual = true) (k : PySem.W.keepIn K (.ref f) = true) : Fun K x qual st f (PySem.W.fnOf x qual (defArgs st) (defBody st) (defScope st) .none kV doc pm an cdv ct) := ⟨⟨oc, od, kV, doc, pm, an, cdv, ct, osl, rfl, l, c⟩, k⟩
end
theorem hu_of {A : Around} {k : Nat} (hr : Room k A) : A.units + 1 < cLine := Nat.lt_of_le_of_lt (Nat.add_le_add_left (by decide : 1 ≤ 64) _) hr.units
theorem small1000 {n : Nat} (h : n ≤ 1000) : n < sizeLine := Nat.lt_of_le_of_lt h (by decide)

/-! ### expressions in short: the name that stands in the i-th slot -/
section
variable {X : Cx}
theorem pv (i : Nat) {x : Str} {pos : Pos} (hN : X.N[i]? = some x := by rfl) (hv : Vis X.env.scope x := by first | exact Or.inl rfl | exact Or.inr (Or.inl rfl) | exact Or.inr (Or.inr rfl)) (hd : (x == ("__debug__" : Str)) = false := by decide)
    (hcd : (x == ("__classdict__" : Str)) = false := by decide) : PE X (.Name x pos) (tVar i) := pe_var hN hv hd hcd
end

/-! ### tests -/
theorem ite2 {c A B : Prop} [Decidable c] (h1 : c → A) (h2 : ¬ c → B) : if c then A else B := by
  by_cases h : c
  · rw [if_pos h]
    exact h1 h
  · rw [if_neg h]
    exact h2 h
/-! ### heaps -/
def Same (H H' : Hp) : Prop := ∀ b o, H b = some o → H' b = some o
theorem Same.refl (H : Hp) : Same H H := fun _ _ h => h
theorem Same.trans {H H1 H2 : Hp} (a : Same H H1) (b : Same H1 H2) : Same H H2 := fun c o h => b c o (a c o h)
theorem Same.free {H H' : Hp} (e : Same H H') {l : Addr} (h : H' l = Option.none) : H l = Option.none := by
  cases q : H l with
  | none => rfl
  | some o =>
    rw [e l o q] at h
    cases h
theorem Same.seq {K : PySem.W.Frag} {H H' : Hp} {a : Addr} {xs : List V} (e : Same H H') (h : SqL K H a xs) : SqL K H' a xs := by
  rcases h with (h | ⟨o, h⟩) | h
  · exact .inl (.inl (e _ _ h))
  · exact .inl (.inr ⟨o, e _ _ h⟩)
  · exact .inr h

section
variable {X : Cx}
end
/-! ### a dict's pairs: keys that differ -/
section
variable {κ : Type} [DecidableEq κ]
end
end L2

set_option Elab.async false
set_option linter.all false
set_option maxRecDepth 100000
set_option maxHeartbeats 4000000
/-! our own rules over the hand layer -/
namespace L2
open PySem PySem.Spec PyProof.Rows

/-! ### values as data, over the abstract heap -/
mutual
inductive Rp (K : PySem.W.Frag) (H : Hp) : V → PyData → Prop
  | non : Rp K H .non .none
  | bl (b : Bool) : Rp K H (.bl b) (.bool b)
  | int (i : Int) : Rp K H (.int i) (.int i)
  | str (x : Str) : Rp K H (.str x) (.str x)
  | lst {a : Addr} {xs : List V} {ds : List PyData} : H a = some (.lst xs) → RpL K H xs ds → Rp K H (.ref a) (.list ds)
  | tup {a : Addr} {xs : List V} {ds : List PyData} : H a = some (.tup xs) → RpL K H xs ds → Rp K H (.ref a) (.tuple ds)
inductive RpL (K : PySem.W.Frag) (H : Hp) : List V → List PyData → Prop
  | nil : RpL K H [] []
  | cons {x : V} {d : PyData} {xs : List V} {ds : List PyData} : Rp K H x d → RpL K H xs ds → RpL K H (x :: xs) (d :: ds)
end
mutual
theorem Rp.mono {K : PySem.W.Frag} {H H' : Hp} (g : Same H H') : ∀ {v : V} {d : PyData}, Rp K H v d → Rp K H' v d
  | _, _, .non => .non
  | _, _, .bl b => .bl b
  | _, _, .int i => .int i
  | _, _, .str x => .str x
  | _, _, .lst h r => .lst (g _ _ h) (RpL.mono g r)
  | _, _, .tup h r => .tup (g _ _ h) (RpL.mono g r)
theorem RpL.mono {K : PySem.W.Frag} {H H' : Hp} (g : Same H H') : ∀ {vs : List V} {ds : List PyData}, RpL K H vs ds → RpL K H' vs ds
  | _, _, .nil => .nil
  | _, _, .cons h r => .cons (Rp.mono g h) (RpL.mono g r)
end
mutual
theorem Rp.reads {X : Cx} {pins : List (Addr × Obj)} {σ : St} {H : Hp} {s : Shared} (I : Inv X pins σ H s) : ∀ {v : V} {d : PyData} {u : Value}, Rp X.K H v d → RelV v u → ∃ as, Reads s.heap u d as
  | _, _, _, .non, r => by cases r; exact ⟨_, .none⟩
  | _, _, _, .bl b, r => by cases r; exact ⟨_, .bool b⟩
  | _, _, _, .int i, r => by obtain ⟨t, rfl⟩ := r; exact ⟨_, .int i t⟩
  | _, _, _, .str x, r => by obtain ⟨t, rfl⟩ := r; exact ⟨_, .str x t⟩
  | _, _, _, .lst h q, r => by
    cases r
    obtain ⟨its, rv, ⟨o, n, e, hc, hd, hs⟩, _⟩ := I.list (SqL.of h)
    obtain ⟨as, ra⟩ := RpL.reads I q rv
    exact ⟨_, .list e hc hs (by simpa using ra)⟩
  | _, _, _, .tup h q, r => by
    cases r
    obtain ⟨its, rv, ⟨o, e, hc, n, hs⟩, _⟩ := I.tuple (SqT.of h)
    obtain ⟨as, ra⟩ := RpL.reads I q rv
    exact ⟨_, .tuple e hc hs (by simpa using ra)⟩
theorem RpL.reads {X : Cx} {pins : List (Addr × Obj)} {σ : St} {H : Hp} {s : Shared} (I : Inv X pins σ H s) : ∀ {vs : List V} {ds : List PyData} {us : List Value}, RpL X.K H vs ds → Vals vs us → ∃ as, ReadsAll s.heap us ds as
  | _, _, _, .nil, .nil => ⟨_, .nil⟩
  | _, _, _, .cons h q, .cons r t => by
    obtain ⟨as, ra⟩ := Rp.reads I h r
    obtain ⟨bs, rb⟩ := RpL.reads I q t
    exact ⟨_, .cons ra rb⟩
end
theorem same_new {H : Hp} {p : Addr} (h : H p = none) (o : HO) : Same H (upd H p o) := fun b u q => by rw [upd_ne (ne_of_none q h)]; exact q

section
variable {X : Cx}
/-! ### == and != of data (lists, tuples, flat values, at any depth) -/
def rNeD (K : PySem.W.Frag) : R2 := fun x y H Q => ∃ d e, Rp K H x d ∧ Rp K H y e ∧ SeqAt.shaped d = true ∧ SeqAt.shaped e = true ∧ Q (.bl (!PyData.eqv d e)) H
theorem op_neD (hu : X.A.units + 64 < cLine) : OpR X (compareOp .NotEq) (rNeD X.K) := by
  intro pins s σ H x y v u Q I rx ry h
  obtain ⟨d, e, hx, hy, sd, se, q⟩ := h
  obtain ⟨as, ra⟩ := hx.reads I rx
  obtain ⟨bs, rb⟩ := hy.reads I ry
  exact ne_dataH ra rb sd se hu ⟨.bl _, H, I, rfl, q⟩
/-! ### != of two dicts that hold the same flat pairs -/
/-! ### dict(d) -/
/-! ### isinstance(x, T), T a built-in type -/
end

/-! ### items of tracked lists and tuples -/
def rIxG : R2 := fun x y H Q => ∃ p i xs v, x = .ref p ∧ y = .int i ∧ (H p = some (.tup xs) ∨ H p = some (.lst xs)) ∧ atI xs i = some v ∧ Q v H
theorem ix_g {X : Cx} : IxR X rIxG := by
  intro value slice pins s σ H x y v u Q I rx ry h hs
  obtain ⟨p, i, xs, z, rfl, rfl, hq, he, q⟩ := h
  rcases hq with hq | hq
  · exact ix_tup value slice pins s σ H _ _ v u Q I rx ry ⟨p, xs, i, z, rfl, rfl, SqT.of hq, he, q⟩ hs
  · exact ix_list value slice pins s σ H _ _ v u Q I rx ry ⟨p, xs, i, z, rfl, rfl, SqL.of hq, he, q⟩ hs
theorem atI_0 {α : Type} {a : α} {l : List α} : atI (a :: l) 0 = some a := atI_nat (j := 0) rfl
theorem atI_1 {α : Type} {a b : α} {l : List α} : atI (a :: b :: l) 1 = some b := atI_nat (j := 1) rfl
theorem atI_2 {α : Type} {a b c : α} {l : List α} : atI (a :: b :: c :: l) 2 = some c := atI_nat (j := 2) rfl
theorem atI_3 {α : Type} {a b c d : α} {l : List α} : atI (a :: b :: c :: d :: l) 3 = some d := atI_nat (j := 3) rfl
theorem atI_4 {α : Type} {a b c d e : α} {l : List α} : atI (a :: b :: c :: d :: e :: l) 4 = some e := atI_nat (j := 4) rfl
theorem atI_in {α : Type} {xs : List α} {i : Int} (h0 : 0 ≤ i) (h1 : i < xs.length) : ∃ v, atI xs i = some v ∧ v ∈ xs ∧ xs[i.toNat]? = some v := by
  have hk : i.toNat < xs.length := by omega
  have e : ((i.toNat : Nat) : Int) = i := by omega
  refine ⟨xs[i.toNat], ?_, List.getElem_mem hk, List.getElem?_eq_getElem hk⟩
  have := atI_nat (xs := xs) (j := i.toNat) (v := xs[i.toNat]) (List.getElem?_eq_getElem hk)
  rwa [e] at this
theorem fresh_any {H : Hp} {o : HO} {R : Addr → Hp → Prop} (h : ∀ p H', H p = none → Same H H' → H' p = some o → R p H') : ∀ p, H p = none → R p (upd H p o) := fun p hp => h p _ hp (same_new hp o) upd_same
theorem sz {n : Nat} (h : n ≤ 1000) : (n ≤ sizeLine) = True := eq_true (Nat.le_of_lt (small1000 h))
theorem mn1 {n : Nat} : min 1 (n + 1) = 1 := by omega
theorem mn2 {n : Nat} : min 2 (n + 2) = 2 := by omega
theorem na2 : Int.natAbs 2 = 2 := rfl
theorem na10 : Int.natAbs 10 = 10 := rfl
theorem sz0 : (0 ≤ sizeLine) = True := sz (by decide)
theorem sz1 : (1 ≤ sizeLine) = True := sz (by decide)
theorem sz2 : (2 ≤ sizeLine) = True := sz (by decide)
theorem sz3 : (3 ≤ sizeLine) = True := sz (by decide)
theorem sz4 : (4 ≤ sizeLine) = True := sz (by decide)
theorem sz5 : (5 ≤ sizeLine) = True := sz (by decide)
theorem sz6 : (6 ≤ sizeLine) = True := sz (by decide)
theorem ofString_inj {a b : String} : (Str.ofString a = Str.ofString b) = (a = b) := by
  apply propext
  constructor
  · intro h
    rw [Str.ofString_eq_toList, Str.ofString_eq_toList] at h
    injection h with h
    have h2 : a.toList.map Char.toNat = b.toList.map Char.toNat := by simpa using congrArg Array.toList h
    have inj : ∀ c d : Char, c.toNat = d.toNat → c = d := fun c d e => Char.ext (UInt32.toNat_inj.mp e)
    exact String.toList_inj.mp (List.map_inj_right (fun c d e => inj c d e) |>.mp h2)
  · rintro rfl; rfl
theorem RpL.cons_inv {K : PySem.W.Frag} {H : Hp} {vs : List V} {d : PyData} {ds : List PyData} (h : RpL K H vs (d :: ds)) : ∃ x xs, vs = x :: xs ∧ Rp K H x d ∧ RpL K H xs ds := by cases h with | cons a b => exact ⟨_, _, rfl, a, b⟩
/-! ### dicts, by what the key is -/
def keyOf : V → Option Key
  | .int i => some (.inl i)
  | .str x => some (.inr x)
  | _ => none
section
variable {X : Cx} {i o e value : Expr} {ty td te tv : TE} {pos pos' apos cpos : Pos}
def tDInG (ty td : TE) : TE := fun σ H Q => ty σ H fun y H1 => td σ H1 fun x H2 => ∃ a kvs k, x = .ref a ∧ H2 a = some (.dK kvs) ∧ keyOf y = some k ∧ Q (.bl (valV kvs k).isSome) H2
def tDNotInG (ty td : TE) : TE := fun σ H Q => ty σ H fun y H1 => td σ H1 fun x H2 => ∃ a kvs k, x = .ref a ∧ H2 a = some (.dK kvs) ∧ keyOf y = some k ∧ Q (.bl (!(valV kvs k).isSome)) H2
def tDGetG (td ty : TE) : TE := fun σ H Q => td σ H fun x H1 => ty σ H1 fun y H2 => ∃ a kvs k v, x = .ref a ∧ H2 a = some (.dK kvs) ∧ keyOf y = some k ∧ valV kvs k = some v ∧ Q v H2
def tApp (to te : TE) : TE := fun σ H Q => to σ H fun x H1 => ∃ l xs, x = .ref l ∧ H1 l = some (.lst xs) ∧ te σ H1 fun y H2 => rAppend (.ref l) [y] H2 Q
theorem pe_app (ho : PE X o td) (he : PE X e te)
    (hbase : attributeBase o "append" X.env (eval o X.env) = eval o X.env := by rfl)
    (hfew : ((backTo cpos (starEach [e] X.env)).all (fun x => !x.1) && (backToKw cpos (keywordEach [] X.env)).all (fun x => x.1.isSome)
      && decide ([e].length + ([] : List Keyword).length + (if ([] : List Keyword).isEmpty then 0 else 1) < 30)) = true := by rfl)
    (hline : (apos.endLine == cpos.line) = true := by rfl) (hs : starEach [e] X.env = [(false, eval e X.env)] := by rfl) :
    PE X (.Call (.Attribute o "append" apos) [e] [] cpos) (tApp td te) := by
  intro pins s σ H Q I h
  refine wpAny_Call_method_late hbase hfew hline rfl (thn (ho pins s σ H _ I h) fun v s1 ⟨x, H1, I1, r1, l, xs, ex, hl, q1⟩ => ?_)
  subst ex
  obtain ⟨h1, h2⟩ := tyV_is (T := "list") I1 r1 (Or.inl ⟨rfl, xs, SqL.of hl⟩)
  refine ⟨"list", _, PySem.F.plainAttrs_list, PySem.F.slot_list_append, PySem.F.type_list_append, h1, h2, ?_⟩
  have hA := (pa_cons he pa_nil (hs := by rw [hs]; rfl)) cpos pins s1 σ H1 (fun vs H2 => rAppend (.ref l) vs H2 Q) I1 q1
  rw [hs] at hA ⊢
  refine Calls.callWith_builtin (by rfl) (Calls.evalArgs_plain ?_)
  exact thn hA fun us s2 ⟨vs, H2, I2, r2, q2⟩ => mt_append pins s2 σ H2 _ vs v us Q I2 r1 r2 q2
end

/-! ### facts that simp uses -/
theorem scal_ss {a b : Str} : scal (.str a) (.str b) = true := rfl
theorem scal_ii {a b : Int} : scal (.int a) (.int b) = true := rfl
theorem scal_bb {a b : Bool} : scal (.bl a) (.bl b) = true := rfl
theorem scal_nn : scal .non .non = true := rfl
theorem scal_ns {b : Str} : scal .non (.str b) = true := rfl
theorem scal_sn {b : Str} : scal (.str b) .non = true := rfl
theorem scal_ni {b : Int} : scal .non (.int b) = true := rfl
theorem scal_in {b : Int} : scal (.int b) .non = true := rfl
theorem keyOf_s {a : Str} : keyOf (.str a) = some (.inr a) := rfl
theorem keyOf_i {a : Int} : keyOf (.int a) = some (.inl a) := rfl
theorem flat_s {a : Str} : flatV (.str a) = true := rfl
theorem flat_i {a : Int} : flatV (.int a) = true := rfl
theorem flat_n : flatV .non = true := rfl
theorem flat_b {a : Bool} : flatV (.bl a) = true := rfl
theorem inV_nil {x : V} : inV x [] = false := rfl
theorem inV_cons {x y : V} {l : List V} : inV x (y :: l) = (eqV y x || inV x l) := rfl
theorem eqV_ss {a b : Str} : eqV (.str a) (.str b) = decide (a = b) := by
  show (a == b) = _
  rw [Bool.eq_iff_iff]; simp
theorem eqV_ii {a b : Int} : eqV (.int a) (.int b) = decide (a = b) := by
  show (a == b) = _
  rw [Bool.eq_iff_iff]; simp
theorem cx_K {CX : CXT} {P : Program} {w : World} {K : PySem.W.Frag} {mg : Str → Option Value} {base : Heap} {N : List Str} {qual : Str} {scope : Scope} {f : Addr} {cd : Value} {A : Around} {outer : List Env} {s : Shared} {H : Hp} {E : XK} : (cxOf CX P w K mg base N qual scope f cd A outer s H E).K = K := rfl
section
variable {X : Cx}
def rInG (neg : Bool) : R2 := fun x y H Q => ∃ p xs, y = .ref p ∧ (H p = some (.tup xs) ∨ H p = some (.lst xs)) ∧ flatV x = true ∧ xs.all flatV = true ∧ Q (.bl (if neg then !inV x xs else inV x xs)) H
def gTupG (n : Nat) (t : TGs) : TG := fun v σ H Q => ∃ a xs, v = .ref a ∧ H a = some (.tup xs) ∧ xs.length = n ∧ t xs σ H Q
theorem pg_tupG {es : List Expr} {k : Nat} {t : TGs} {pos : Pos} (n : Nat) (hc : X.calm = true) (h : PGs X es t)
    (hn : (assignEach es X.env).length = n := by rfl) (hst : (assignEach es X.env).findIdx? (·.1) = none := by rfl) : PG X (.Tuple es k pos) (gTupG n t) := by
  intro pins s σ H v u Q I r hw
  obtain ⟨a, xs, e1, hq, hl, hw⟩ := hw
  exact pg_tup hc h hn hst pins s σ H v u Q I r ⟨a, xs, e1, SqT.of hq, hl, hw⟩
def tM (t : TE) : TE := fun σ H Q => ∃ Q1 : VK, t σ H Q1 ∧ ∀ v H', Q1 v H' → Q v H'
theorem PE.up {e : Expr} {t : TE} (h : PE X e t) : PE X e (tM t) := by
  intro pins s σ H Q I hq
  obtain ⟨Q1, h1, h2⟩ := hq
  exact thn (h pins s σ H Q1 I h1) fun u s' ⟨v, H', I', r, q⟩ => ⟨v, H', I', r, h2 v H' q⟩
def rSlG : V → Option Int → Option Int → Hp → VK → Prop := fun x lo hi H Q => ∃ a xs, x = .ref a ∧
  ((H a = some (.tup xs) ∧ ¬ (HT.sIx xs.length 0 lo = 0 ∧ HT.sIx xs.length xs.length hi = xs.length) ∧ ∀ p H', H p = none → Same H H' → H' p = some (.tup (cutV xs lo hi)) → Q (.ref p) H') ∨
   (H a = some (.lst xs) ∧ ∀ p H', H p = none → Same H H' → H' p = some (.lst (cutV xs lo hi)) → Q (.ref p) H'))
theorem sl_g : SlR X rSlG := by
  intro pins s σ H x v vl vu lo hi sl Q I rx hs pl pu h
  obtain ⟨a, xs, rfl, ⟨ha, hn, q⟩ | ⟨ha, q⟩⟩ := h
  · exact sl_tup pins s σ H _ v vl vu lo hi sl Q I rx hs pl pu ⟨a, xs, rfl, SqT.of ha, hn, fresh_any q⟩
  · exact sl_list pins s σ H _ v vl vu lo hi sl Q I rx hs pl pu ⟨a, xs, rfl, SqL.of ha, fresh_any q⟩
def rSlK (K : PySem.W.Frag) : V → Option Int → Option Int → Hp → VK → Prop := fun x lo hi H Q => ∃ a xs, x = .ref a ∧ SqL K H a xs ∧ ∀ p H', H p = none → Same H H' → H' p = some (.lst (cutV xs lo hi)) → Q (.ref p) H'
theorem sl_k : SlR X (rSlK X.K) := by
  intro pins s σ H x v vl vu lo hi sl Q I rx hs pl pu h
  obtain ⟨a, xs, rfl, ha, q⟩ := h
  exact sl_list pins s σ H _ v vl vu lo hi sl Q I rx hs pl pu ⟨a, xs, rfl, ha, fresh_any q⟩
/-! ### what is made lies in some heap that has all that was there -/
def tMA (t : TA) : TA := fun σ H Q => ∃ Q1 : List V → Hp → Prop, t σ H Q1 ∧ ∀ vs H', Q1 vs H' → Q vs H'
theorem PA.up {es : List Expr} {t : TA} (h : PA X es t) : PA X es (tMA t) := by
  intro pos pins s σ H Q I hq
  obtain ⟨Q1, h1, h2⟩ := hq
  exact thn (h pos pins s σ H Q1 I h1) fun us s' ⟨vs, H', I', r, q⟩ => ⟨vs, H', I', r, h2 vs H' q⟩
def tTupG (t : TA) : TE := fun σ H Q => t σ H fun xs H1 => xs.length ≤ sizeLine ∧ ∀ p H', H1 p = none → Same H1 H' → H' p = some (.tup xs) → Q (.ref p) H'
def tLstG (t : TA) : TE := fun σ H Q => t σ H fun xs H1 => xs.length ≤ sizeLine ∧ ∀ p H', H1 p = none → Same H1 H' → H' p = some (.lst xs) → Q (.ref p) H'
theorem pe_tupG {es : List Expr} {t : TA} {pos : Pos} {x1} (h : PA X es t) : PE X (.Tuple es x1 pos) (tTupG t) := fun pins s σ H Q I hq =>
  pe_tup h.up pins s σ H Q I ⟨_, hq, fun _ _ q => ⟨q.1, fresh_any q.2⟩⟩
theorem pe_lstG {es : List Expr} {t : TA} {pos : Pos} (h : PA X es t) : PE X (.List es pos) (tLstG t) := fun pins s σ H Q I hq =>
  pe_lst h.up pins s σ H Q I ⟨_, hq, fun _ _ q => ⟨q.1, fresh_any q.2⟩⟩
def tDNewG : TE := fun _ H Q => ∀ p H', H p = none → Same H H' → H' p = some (.dK []) → Q (.ref p) H'
def rDictG : List V → Hp → VK → Prop := fun xs H Q => ∃ a kvs, xs = [.ref a] ∧ H a = some (.dK kvs) ∧ ∀ p H', H p = none → Same H H' → H' p = some (.dK kvs) → Q (.ref p) H'
structure Mu (H : Hp) (l : Addr) (o : HO) (H' : Hp) : Prop where
  at_ : H' l = some o
  else_ : ∀ a, a ≠ l → H' a = H a
theorem Mu.mk' {H : Hp} {l : Addr} {o : HO} : Mu H l o (upd H l o) := ⟨upd_same, fun _ h => upd_ne h⟩
theorem Mu.old {H H' : Hp} {l a : Addr} {o u : HO} (m : Mu H l o H') (h : H a = some u) (n : a ≠ l) : H' a = some u := by rw [m.else_ a n]; exact h
theorem Mu.same {H0 H H' : Hp} {l : Addr} {o : HO} (m : Mu H l o H') (g : Same H0 H) (n : H0 l = none) : Same H0 H' := fun a u h => m.old (g a u h) (ne_of_none h n)
def tAppG (to te : TE) : TE := fun σ H Q => to σ H fun x H1 => ∃ l xs, x = .ref l ∧ H1 l = some (.lst xs) ∧ te σ H1 fun y H2 => ∃ ys, H2 l = some (.lst ys) ∧ ys.length < sizeLine ∧ ∀ H3, Mu H2 l (.lst (ys ++ [y])) H3 → Q .non H3
theorem pe_appG {o e : Expr} {td te : TE} {apos cpos : Pos} (ho : PE X o td) (he : PE X e te)
    (hbase : attributeBase o "append" X.env (eval o X.env) = eval o X.env := by rfl)
    (hfew : ((backTo cpos (starEach [e] X.env)).all (fun x => !x.1) && (backToKw cpos (keywordEach [] X.env)).all (fun x => x.1.isSome)
      && decide ([e].length + ([] : List Keyword).length + (if ([] : List Keyword).isEmpty then 0 else 1) < 30)) = true := by rfl)
    (hline : (apos.endLine == cpos.line) = true := by rfl) (hs : starEach [e] X.env = [(false, eval e X.env)] := by rfl) :
    PE X (.Call (.Attribute o "append" apos) [e] [] cpos) (tAppG td te) := fun pins s σ H Q I h =>
  pe_app ho.up he.up hbase hfew hline hs pins s σ H Q I ⟨_, h, fun _ _ ⟨l, xs, e1, h1, q⟩ => ⟨l, xs, e1, h1, _, q, fun y _ ⟨ys, h2, hz, q⟩ => ⟨l, ys, y, rfl, rfl, h2, hz, q _ .mk'⟩⟩⟩
def sDPutG2 (td ty tv : TE) : TS := fun D σ H => tv σ H fun v H1 => td σ H1 fun x H2 => ty σ H2 fun y H3 => ∃ a kvs k, x = .ref a ∧ H3 a = some (.dK kvs) ∧ keyOf y = some k ∧ kvs.length < sizeLine ∧ ∀ H4, Mu H3 a (.dK (putK kvs k v)) H4 → D.nx σ H4
def pairsOf : List (V × V) → Option (List (Key × V))
  | [] => some []
  | (x, y) :: r => (keyOf x).bind fun k => (pairsOf r).bind fun l => some ((k, y) :: l)
theorem PPs.up {pos : Pos} {keys : List (Option Expr)} {values : List Expr} {trs : List (TE × TE)} (h : PPs X pos keys values trs) {pins : List (Addr × Obj)} {s : Shared} {σ : St} {H : Hp} {Q Q1 : List (V × V) → Hp → Prop} (I : Inv X pins σ H s) (h1 : tPairs trs σ H Q1) (h2 : ∀ ps H', Q1 ps H' → Q ps H') :
    wpAny (model X.prog X.w) X.A (evalPairs (pairTrees keys values X.env pos)) (fun vs s' => ∃ ps H', Inv X pins σ H' s' ∧ VV ps vs ∧ Q ps H') X.xe s :=
  thn (h pins s σ H Q1 I h1) fun vs s' ⟨ps, H', I', r, q⟩ => ⟨ps, H', I', r, h2 ps H' q⟩
def tDispG (trs : List (TE × TE)) : TE := fun σ H Q => ∀ p H', H p = none → Same H H' → H' p = some (.dK []) → tPairs trs σ H' fun ps H2 => H2 p = some (.dK []) ∧ ∃ kvs, pairsOf ps = some kvs ∧ kvs.length ≤ 15 ∧ ∀ H3, Mu H2 p (.dK (mergeK [] kvs)) H3 → Q (.ref p) H3
/-! ### a loop over a tracked list or tuple, turn by turn -/
def turns (a : Addr) (o : HO) (g : TG) (tb : TS) (D : Ends) : List V → St → Hp → Prop
  | [], σ, H => H a = some o ∧ D.nx σ H
  | x :: r, σ, H => H a = some o ∧ g x σ H fun σ2 H2 => tb { D with nx := turns a o g tb D r, ct := turns a o g tb D r, bk := D.nx } σ2 H2
def tForT (tl : TE) (g : TG) (tb : TS) : TS := fun D σ H => tl σ H fun x H1 => ∃ a xs, x = .ref a ∧ H1 a = some (.tup xs) ∧ turns a (.tup xs) g tb D xs σ H1
def tForL (tl : TE) (g : TG) (tb : TS) : TS := fun D σ H => tl σ H fun x H1 => ∃ a xs, x = .ref a ∧ H1 a = some (.lst xs) ∧ turns a (.lst xs) g tb D xs σ H1
theorem turns_one {a : Addr} {o : HO} {xs : List V} {g : TG} {tb : TS} {D : Ends} {i : Nat} {σ : St} {H : Hp} (h : turns a o g tb D (xs.drop i) σ H) : H a = some o ∧
    ((xs.length ≤ i ∧ D.nx σ H) ∨ ∃ x, xs[i]? = some x ∧ g x σ H fun σ2 H2 => tb { D with nx := turns a o g tb D (xs.drop (i + 1)), ct := turns a o g tb D (xs.drop (i + 1)), bk := D.nx } σ2 H2) := by
  by_cases hi : i < xs.length
  · rw [List.drop_eq_getElem_cons hi] at h
    exact ⟨h.1, .inr ⟨xs[i], List.getElem?_eq_getElem hi, h.2⟩⟩
  · rw [List.drop_eq_nil_of_le (by omega)] at h
    exact ⟨h.1, .inl ⟨by omega, h.2⟩⟩
theorem ps_forT {tg iter : Expr} {body : List Stmt} {tl : TE} {g : TG} {tb : TS} {pos : Pos} (hp : PassesOwn (model X.prog X.w) X.A X.env X.xe) (hc : X.calm = true) (hi : PE X iter tl) (hg : PG X tg g) (hb : PSs X body tb)
    (hs : ∀ x, foldedSetIterable iter X.env x = pure x := by intro _; rfl) : PS X (.For tg iter body [] pos) (tForT tl g tb) := by
  intro pins s σ H D I h
  refine ps_for hp hc (pi_tup hi.up) hg hb hs pins s σ H D I ⟨_, h, fun x H1 q => ?_⟩
  obtain ⟨a, xs, rfl, ha, q⟩ := q
  refine ⟨a, rfl, ⟨xs, SqT.of ha⟩, fun i m σ H => m = xs.length - i ∧ i ≤ xs.length ∧ turns a (.tup xs) g tb D (xs.drop i) σ H, ⟨_, rfl, Nat.zero_le _, q⟩, ?_⟩
  rintro i m σ H ⟨rfl, hi, q⟩
  obtain ⟨hH, ⟨hl, q⟩ | ⟨x, hx, q⟩⟩ := turns_one q
  · exact .inl ⟨⟨xs, SqT.of hH, hl⟩, q⟩
  · have hlt : i < xs.length := (List.getElem?_eq_some_iff.mp hx).1
    refine .inr ⟨⟨xs, x, SqT.of hH, hx⟩, turns a (.tup xs) g tb D (xs.drop (i + 1)), fun σ' H' q' => ⟨xs.length - (i + 1), by omega, rfl, hlt, q'⟩, fun y H' z => ?_⟩
    obtain ⟨rfl, z⟩ := z
    cases (hx.symm.trans (z xs (SqT.of hH)))
    exact q
end

/-! ### isinstance, by what stands in the heap -/
def hoT : HO → Option String
  | .lst _ => some "list"
  | .tup _ => some "tuple"
  | .dK _ => some "dict"
  | _ => none
def tyG (H : Hp) : V → Option String
  | .non => some "NoneType"
  | .bl _ => some "bool"
  | .int _ => some "int"
  | .str _ => some "str"
  | .ref a => (H a).bind hoT
  | _ => none
theorem tyG_n {H : Hp} : tyG H .non = some "NoneType" := rfl
theorem tyG_b {H : Hp} {x : Bool} : tyG H (.bl x) = some "bool" := rfl
theorem tyG_i {H : Hp} {x : Int} : tyG H (.int x) = some "int" := rfl
theorem tyG_s {H : Hp} {x : Str} : tyG H (.str x) = some "str" := rfl
theorem tyG_r {H : Hp} {a : Addr} : tyG H (.ref a) = (H a).bind hoT := rfl
theorem hoT_l {xs : List V} : hoT (.lst xs) = some "list" := rfl
theorem hoT_t {xs : List V} : hoT (.tup xs) = some "tuple" := rfl
theorem hoT_d {xs : List (Key × V)} : hoT (.dK xs) = some "dict" := rfl
def rIsiG (K : PySem.W.Frag) : List V → Hp → VK → Prop := fun xs H Q => ∃ x T t b, xs = [x, .ty T] ∧ tyG H x = some t ∧ PySem.W.kitOne K (.type t) (.type T) = some b ∧ Q (.bl b) H
theorem kit_ii {K : PySem.W.Frag} : PySem.W.kitOne K (.type "int") (.type "int") = some true := rfl
theorem kit_it {K : PySem.W.Frag} : PySem.W.kitOne K (.type "int") (.type "tuple") = some false := rfl
theorem kit_il {K : PySem.W.Frag} : PySem.W.kitOne K (.type "int") (.type "list") = some false := rfl
theorem kit_is {K : PySem.W.Frag} : PySem.W.kitOne K (.type "int") (.type "str") = some false := rfl
theorem kit_ib {K : PySem.W.Frag} : PySem.W.kitOne K (.type "int") (.type "bool") = some false := rfl
theorem kit_id {K : PySem.W.Frag} : PySem.W.kitOne K (.type "int") (.type "dict") = some false := rfl
theorem kit_ni {K : PySem.W.Frag} : PySem.W.kitOne K (.type "NoneType") (.type "int") = some false := rfl
theorem kit_nt {K : PySem.W.Frag} : PySem.W.kitOne K (.type "NoneType") (.type "tuple") = some false := rfl
theorem kit_nl {K : PySem.W.Frag} : PySem.W.kitOne K (.type "NoneType") (.type "list") = some false := rfl
theorem kit_ns {K : PySem.W.Frag} : PySem.W.kitOne K (.type "NoneType") (.type "str") = some false := rfl
theorem kit_nb {K : PySem.W.Frag} : PySem.W.kitOne K (.type "NoneType") (.type "bool") = some false := rfl
theorem kit_nd {K : PySem.W.Frag} : PySem.W.kitOne K (.type "NoneType") (.type "dict") = some false := rfl
theorem kit_ti {K : PySem.W.Frag} : PySem.W.kitOne K (.type "tuple") (.type "int") = some false := rfl
theorem kit_tt {K : PySem.W.Frag} : PySem.W.kitOne K (.type "tuple") (.type "tuple") = some true := rfl
theorem kit_tl {K : PySem.W.Frag} : PySem.W.kitOne K (.type "tuple") (.type "list") = some false := rfl
theorem kit_ts {K : PySem.W.Frag} : PySem.W.kitOne K (.type "tuple") (.type "str") = some false := rfl
theorem kit_tb {K : PySem.W.Frag} : PySem.W.kitOne K (.type "tuple") (.type "bool") = some false := rfl
theorem kit_td {K : PySem.W.Frag} : PySem.W.kitOne K (.type "tuple") (.type "dict") = some false := rfl
theorem kit_li {K : PySem.W.Frag} : PySem.W.kitOne K (.type "list") (.type "int") = some false := rfl
theorem kit_lt {K : PySem.W.Frag} : PySem.W.kitOne K (.type "list") (.type "tuple") = some false := rfl
theorem kit_ll {K : PySem.W.Frag} : PySem.W.kitOne K (.type "list") (.type "list") = some true := rfl
theorem kit_ls {K : PySem.W.Frag} : PySem.W.kitOne K (.type "list") (.type "str") = some false := rfl
theorem kit_lb {K : PySem.W.Frag} : PySem.W.kitOne K (.type "list") (.type "bool") = some false := rfl
theorem kit_ld {K : PySem.W.Frag} : PySem.W.kitOne K (.type "list") (.type "dict") = some false := rfl
theorem kit_si {K : PySem.W.Frag} : PySem.W.kitOne K (.type "str") (.type "int") = some false := rfl
theorem kit_st {K : PySem.W.Frag} : PySem.W.kitOne K (.type "str") (.type "tuple") = some false := rfl
theorem kit_sl {K : PySem.W.Frag} : PySem.W.kitOne K (.type "str") (.type "list") = some false := rfl
theorem kit_ss {K : PySem.W.Frag} : PySem.W.kitOne K (.type "str") (.type "str") = some true := rfl
theorem kit_sb {K : PySem.W.Frag} : PySem.W.kitOne K (.type "str") (.type "bool") = some false := rfl
theorem kit_sd {K : PySem.W.Frag} : PySem.W.kitOne K (.type "str") (.type "dict") = some false := rfl
theorem kit_bi {K : PySem.W.Frag} : PySem.W.kitOne K (.type "bool") (.type "int") = some true := rfl
theorem kit_bt {K : PySem.W.Frag} : PySem.W.kitOne K (.type "bool") (.type "tuple") = some false := rfl
theorem kit_bl {K : PySem.W.Frag} : PySem.W.kitOne K (.type "bool") (.type "list") = some false := rfl
theorem kit_bs {K : PySem.W.Frag} : PySem.W.kitOne K (.type "bool") (.type "str") = some false := rfl
theorem kit_bb {K : PySem.W.Frag} : PySem.W.kitOne K (.type "bool") (.type "bool") = some true := rfl
theorem kit_bd {K : PySem.W.Frag} : PySem.W.kitOne K (.type "bool") (.type "dict") = some false := rfl
theorem kit_di {K : PySem.W.Frag} : PySem.W.kitOne K (.type "dict") (.type "int") = some false := rfl
theorem kit_dt {K : PySem.W.Frag} : PySem.W.kitOne K (.type "dict") (.type "tuple") = some false := rfl
theorem kit_dl {K : PySem.W.Frag} : PySem.W.kitOne K (.type "dict") (.type "list") = some false := rfl
theorem kit_ds {K : PySem.W.Frag} : PySem.W.kitOne K (.type "dict") (.type "str") = some false := rfl
theorem kit_db {K : PySem.W.Frag} : PySem.W.kitOne K (.type "dict") (.type "bool") = some false := rfl
theorem kit_dd {K : PySem.W.Frag} : PySem.W.kitOne K (.type "dict") (.type "dict") = some true := rfl
/-! ### arguments without a star, for any frame -/
def notStar : Expr → Bool
  | .Starred _ _ => false
  | _ => true
theorem star_of {e : Expr} {es : List Expr} {env : Env} (h : notStar e = true) : starEach (e :: es) env = (false, eval e env) :: starEach es env := by
  cases e with
  | Starred v q => exact absurd (show false = true from h) Bool.false_ne_true
  | _ => rfl
theorem star_all {pos : Pos} {env : Env} : ∀ {es : List Expr}, es.all notStar = true → (backTo pos (starEach es env)).any (·.1) = false
  | [], _ => rfl
  | e :: es, h => by
    rw [List.all_cons, Bool.and_eq_true] at h
    rw [star_of h.1]
    show (false || (backTo pos (starEach es env)).any (·.1)) = false
    rw [star_all h.2]
    rfl
section
variable {X : Cx} {e : Expr} {es : List Expr} {te : TE} {t : TA} {x : Str} {p pos : Pos} {id T : String} {r : List V → Hp → VK → Prop}
theorem pa_c (ha : PE X e te) (hr : PA X es t) (hn : notStar e = true := by rfl) : PA X (e :: es) (tCons te t) := pa_cons ha hr (star_of hn)
theorem pe_cB (hc : CallR X (.builtin id) r) (hg : Gl X x) (hm : X.mg x = none) (hv : bootBuiltins x = some (.builtin id)) (ha : PA X (e :: es) t) (hn : x ≠ "__name__" := by decide) (hdb : (x == ("__debug__" : Str)) = false := by decide)
    (hs : (e :: es).all notStar = true := by rfl) : PE X (.Call (.Name x p) (e :: es) [] pos) (tCB r t) :=
  pe_callB hc hg hm hv ha hn hdb (star_of (Bool.and_eq_true_iff.mp hs).1) (star_all (Bool.and_eq_true_iff.mp hs).2)
theorem pe_cTy (hc : CallR X (.type T) r) (hg : Gl X x) (hm : X.mg x = none) (hv : bootBuiltins x = some (.type T)) (ha : PA X (e :: es) t) (hn : x ≠ "__name__" := by decide) (hdb : (x == ("__debug__" : Str)) = false := by decide)
    (hs : (e :: es).all notStar = true := by rfl) : PE X (.Call (.Name x p) (e :: es) [] pos) (tCB r t) :=
  pe_callTy hc hg hm hv ha hn hdb (star_of (Bool.and_eq_true_iff.mp hs).1) (star_all (Bool.and_eq_true_iff.mp hs).2)
end

/-! ### a def by its name -/
structure DefAt (K : PySem.W.Frag) (mg : Str → Option Value) (x : Str) (st : Stmt) (ps : List Str) : Prop where
  ex : ∃ f fd, mg x = some (.ref f) ∧ Fun K x x st f fd ∧ Binds K fd ps []
structure OkD (P : Program) (w : World) (K : PySem.W.Frag) (mg : Str → Option Value) (base : Heap) (n : Nat) (x : Str) (ps : List Str) (sp : Sp) : Prop where
  ex : ∃ f fd, mg x = some (.ref f) ∧ PySem.W.keepIn K (.ref f) = true ∧ Binds K fd ps [] ∧ FnOk P w K mg base CX0 n f fd ps sp
def tDef (sp : Sp) (t : TA) : TE := fun σ H Q => t σ H fun vs H1 => sp vs H1 Q E0
section
variable {P : Program} {w : World} {K : PySem.W.Frag} {mg : Str → Option Value} {base : Heap} {x : Str} {st : Stmt} {N ps : List Str} {k : Nat} {sp : Sp}
theorem DefAt.ok (D : DefAt K mg x st ps) (S : FnScope N ps (defScope st)) (len : ∀ vs H Q E, sp vs H Q E → vs.length = ps.length)
    (hbody : ∀ (f : Addr) (cdv : Value) (A : Around) (outer : List Env) (s : Shared) (H : Hp) (vs : List V) (Q : VK) (E : XK), Room k (A.deeper (envOfC x (defScope st) s.heap.objs.size f cdv)) → sp vs H Q E →
      ∃ t, PSs (cxOf CX0 P w K mg base N x (defScope st) f cdv A outer s H E).nox (defBody st) t ∧ t { nx := fun _ H' => Q .non H', rt := Q } (start N vs) H) : OkD P w K mg base (k + 1) x ps sp := by
  obtain ⟨f, fd, hm, F, hb⟩ := D.ex
  exact ⟨f, fd, hm, F.kp, hb, F.ok S len (hbody f)⟩
theorem OkD.mono {n m : Nat} (G : OkD P w K mg base n x ps sp) (h : n ≤ m) : OkD P w K mg base m x ps sp := by
  obtain ⟨f, fd, a, b, c, d⟩ := G.ex
  exact ⟨f, fd, a, b, c, d.mono h⟩
theorem DefAt.never (D : DefAt K mg x st ps) (n : Nat) (h : ∀ vs H Q E, ¬ sp vs H Q E) : OkD P w K mg base n x ps sp := by
  obtain ⟨f, fd, hm, F, hb⟩ := D.ex
  exact ⟨f, fd, hm, F.kp, hb, ⟨fun vs H Q E q => absurd q (h vs H Q E), fun A outer s H args us vs Q E _ _ _ _ q => absurd q (h vs H Q E)⟩⟩
theorem DefAt.mk' {h : Heap} {f : Addr} {oc : Value} {od an : Option Addr} {osl : Array (Option Value)} {kV doc pm cdv ct : Value} (X : K.In h) (G : h.Ns mainGlobals mg) (a : PySem.W.nsIn K mainGlobals x = some (some (.ref f)))
    (l : K.lookup f = some ⟨oc, od, .func (PySem.W.fnOf x x (defArgs st) (defBody st) (defScope st) .none kV doc pm an cdv ct), osl⟩) (c : PySem.W.codeIn K cdv x = true) (k : PySem.W.keepIn K (.ref f) = true)
    (b : ∀ (kV doc pm : Value) (an : Option Addr) (cdv ct : Value) (us : List Value), us.length = ps.length → bindArgs (PySem.W.fnOf x x (defArgs st) (defBody st) (defScope st) .none kV doc pm an cdv ct) ⟨us, []⟩ = pure (ps.zip us)) : DefAt K mg x st ps :=
  have F := fun_mk (st := st) l c k
  ⟨f, _, PySem.W.mg_of X G a, F, F.binds b⟩
end
section
variable {X : Cx} {k n : Nat} {ps : List Str} {sp : Sp} {x : Str} {p pos : Pos} {e : Expr} {es : List Expr} {t : TA}
theorem pe_def (G : OkD X.prog X.w X.K X.mg X.base k x ps sp) (hr : Room n X.A) (hg : Gl X x) (ha : PA X (e :: es) t) (hk : k ≤ n := by omega) (hdb : (x == ("__debug__" : Str)) = false := by decide)
    (hs : (e :: es).all notStar = true := by rfl) : PE X (.Call (.Name x p) (e :: es) [] pos) (tDef sp t) := by
  obtain ⟨f, fd, hm, kp, hb, F⟩ := G.ex
  intro pins s σ H Q I h
  refine pe_call F (hr.mono hk) hg hm kp hb .nil pass0 ha hdb (star_of (Bool.and_eq_true_iff.mp hs).1) (star_all (Bool.and_eq_true_iff.mp hs).2) pins s σ H Q I ?_
  have e : (fun vs H1 => sp (vs ++ []) H1 Q E0) = fun vs H1 => sp vs H1 Q E0 := by funext vs H1; rw [List.append_nil]
  show t σ H fun vs H1 => sp (vs ++ []) H1 Q E0
  rw [e]
  exact h
end
def spLaw (K : PySem.W.Frag) : Sp := fun vs H Q _ => ∃ (a : Addr) (ns : List Int), vs = [.ref a] ∧ SqL K H a (ns.map V.int) ∧ ns.length ≤ 63 ∧ ∀ H', Q (.bl true) H'
end L2

set_option Elab.async false
set_option linter.all false
set_option maxRecDepth 100000
set_option maxHeartbeats 4000000
/-! our own rules: exceptions of own classes, raised, passed on, caught -/
namespace L2
open PySem PySem.Spec PyProof.Rows

structure Fly (h : Heap) (x T : Addr) (cls fl : Value) : Prop where
  ex : ∃ oe vs oT ts, h.get? x = some oe ∧ oe.cls = cls ∧ oe.dict = none ∧ oe.data = .fields vs ∧ vs[1]? = some (.ref T) ∧ T ≠ x ∧ h.get? T = some oT ∧ oT.data = .fields ts ∧ ts[3]? = some fl
def CXr (P : Program) (w : World) : CXT := fun outer H s E e s' => ∃ (x T : Addr) (cls : Value) (H' : Hp), e = .ref x ∧ s'.os = s.os ∧ AllBare s'.gens ∧ Un (frs outer) [] H H' s.heap s'.heap ∧ HOk P w H' s'.heap ∧
  Fly s'.heap x T cls .none ∧ s.heap.get? x = none ∧ s.heap.get? T = none ∧ H' x = none ∧ H' T = none ∧ E cls none H'

structure Kept (x : Addr) (ts fr : List Addr) (h h' : Heap) : Prop where
  keep : ∀ b o, h.get? b = some o → b ≠ x → b ∉ ts → b ∉ fr → h'.get? b = some o
  slot : ∀ b o, h.get? b = some o → b ≠ x → b ∉ ts → ∃ sl, h'.get? b = some { o with slots := sl }
section
variable {M : Model} {A : Around} {E : Value → Shared → Prop} {s : Shared} {base : Heap} {env : Env} {outer : List Env} {L x : Addr} {oe : Obj} {vs : Array Value} {Q : Unit → Shared → Prop}
end

section
variable {X : Cx} {pins : List (Addr × Obj)} {σ : St} {H1 : Hp} {s1 : Shared}
theorem Inv.tracked (I : Inv X pins σ H1 s1) {b : Addr} {u : HO} (h : H1 b = some u) : ∃ o, s1.heap.get? b = some o := by
  have hb := I.hok.lt h
  have := I.hok b u h
  cases u with
  | lst xs => obtain ⟨_, _, _, _, e⟩ := this; exact ⟨_, e⟩
  | tup xs => obtain ⟨_, _, _, o, e, _⟩ := this; exact ⟨_, e⟩
  | dK kvs => obtain ⟨_, _, _, _, o, _, _, e, _⟩ := this; exact ⟨_, e⟩
  | dT kvs => obtain ⟨_, _, _, _, o, _, _, e, _⟩ := this; exact ⟨_, e⟩
  | set S n => obtain ⟨o, _, _, _, e, _⟩ := this; exact ⟨_, e⟩
  | ins C dx fs => obtain ⟨_, _, _, e, _⟩ := this; exact ⟨_, e⟩
  | own y => exact this
  | xd fs => obtain ⟨_, ⟨_, _, _, e, _⟩, _⟩ := this; exact ⟨_, e⟩
  | rng lo hi => obtain ⟨_, _, _, e⟩ := this; exact ⟨_, e⟩
  | frz ob u => obtain ⟨e, _⟩ := this; exact ⟨_, e⟩
  | tbl ps => exact ⟨_, this⟩
  | met f y => exact ⟨_, this⟩
  | ext φ => obtain ⟨_, e, _⟩ := this; exact e
end

section
variable {P : Program} {w : World} {K : PySem.W.Frag} {mg : Str → Option Value} {base : Heap} {N : List Str} {qual : Str} {scope : Scope} {f : Addr} {cd : Value} {A : Around} {outer : List Env} {s : Shared} {H : Hp} {E : XK}
end
/-! ### own classes of ValueError's line -/
def veM : List Value := [.type "ValueError", .type "Exception", .type "BaseException", .type "object"]
structure ExcAt (K : PySem.W.Frag) (mg : Str → Option Value) (x : Str) (C : Addr) : Prop where
  gl : mg x = some (.ref C)
  ok : PySem.W.excIn K C veM "ValueError.__new__" = true
def tRaise (C : Addr) (t : TA) (E : XK) : TS := fun _ σ H => t σ H fun vs H1 => vs.length ≤ sizeLine ∧ E (.ref C) none H1
section
variable {X : Cx} {E : XK} {x : Str} {C : Addr} {np cpos pos : Pos} {e : Expr} {es : List Expr} {t : TA}
end
section
variable {P : Program} {w : World} {K : PySem.W.Frag} {mg : Str → Option Value} {base : Heap} {N : List Str} {qual : Str} {scope : Scope} {f : Addr} {cd : Value} {A : Around} {outer : List Env} {s : Shared} {H : Hp} {E : XK}
end

/-! ### a def that may raise, by its name -/
structure OkR (P : Program) (w : World) (K : PySem.W.Frag) (mg : Str → Option Value) (base : Heap) (n : Nat) (x : Str) (ps : List Str) (sp : Sp) : Prop where
  ex : ∃ f fd, mg x = some (.ref f) ∧ PySem.W.keepIn K (.ref f) = true ∧ Binds K fd ps [] ∧ FnOk P w K mg base (CXr P w) n f fd ps sp
def tDefR (sp : Sp) (E : XK) (t : TA) : TE := fun σ H Q => t σ H fun vs H1 => sp vs H1 Q E
section
variable {P : Program} {w : World} {K : PySem.W.Frag} {mg : Str → Option Value} {base : Heap} {x : Str} {st : Stmt} {N ps : List Str} {k : Nat} {sp : Sp}
theorem OkR.mono {n m : Nat} (G : OkR P w K mg base n x ps sp) (h : n ≤ m) : OkR P w K mg base m x ps sp := by
  obtain ⟨f, fd, a, b, c, d⟩ := G.ex
  exact ⟨f, fd, a, b, c, d.mono h⟩
end
section
variable {X : Cx} {E : XK} {k n : Nat} {ps : List Str} {sp : Sp} {x : Str} {p pos : Pos} {e : Expr} {es : List Expr} {t : TA}
end

/-! ### caught -/
section
variable {X : Cx} {pins : List (Addr × Obj)} {σ : St} {H : Hp} {s : Shared}
structure Far (X : Cx) (pins : List (Addr × Obj)) (b : Addr) : Prop where
  old : X.s₀.heap.get? b = none
  loc : b ≠ X.env.locals
  cel : ∀ y c, X.env.cells.lookup y = some c → c ≠ b
  pin : ∀ p ∈ X.pn ++ pins, p.1 ≠ b
end

/-! ### a caught exception as a value -/
def ExcIs (x C : Addr) (h : Heap) : Prop := ∃ ox, PySem.W.InstAt h x ox C none
def excO (x C : Addr) : HO := .ext (ExcIs x C)
section
open PySem.W
end
structure PlainX (K : PySem.W.Frag) (C : Addr) : Prop where
  ga : PySem.W.findIn K (.ref C) "__getattribute__" = some (some (.builtin "BaseException.__getattribute__"))
  gt : PySem.W.findIn K (.ref C) "__getattr__" = some none
  mroB : PySem.W.mroIn K C (.type "BaseException") = some true
  cls : (PySem.W.clsIn K C).isSome = true
  fnd : PySem.W.findIn K (.ref C) "__class__" = some (some (.builtin "object.__class__"))
  spc : PySem.W.specialIn K (.builtin "object.__class__") "__get__" = some (some (.builtin "getset_descriptor.__get__"))
  tak : PySem.W.takesIn K (.builtin "object.__class__") = some true
  mro : PySem.W.mroIn K C (.type "object") = some true
def rIsiX (K : PySem.W.Frag) : List V → Hp → VK → Prop := fun xs H Q => ∃ x C c cv b, xs = [.ref x, c] ∧ H x = some (excO x C) ∧ PlainX K C ∧ (c = .ref cv ∧ PySem.W.kitOne K (.ref C) (.ref cv) = some b ∧ Q (.bl b) H)
def rIsiXT (K : PySem.W.Frag) : List V → Hp → VK → Prop := fun xs H Q => ∃ x C T b, xs = [.ref x, .ty T] ∧ H x = some (excO x C) ∧ PlainX K C ∧ PySem.W.kitOne K (.ref C) (.type T) = some b ∧ Q (.bl b) H
/-! ### try: f(..) -/
abbrev TX := St → Hp → VK → XK → Prop
def tCallX (sp : Sp) (t : TA) : TX := fun σ H Q E => t σ H fun vs H1 => sp vs H1 Q E
section
variable {X : Cx} {k n : Nat} {ps : List Str} {sp : Sp} {x : Str} {p pos : Pos} {e : Expr} {es : List Expr} {t : TA}
end
def tTry1 (K : PySem.W.Frag) (B : Addr) (i : Nat) (t : TX) (th : TS) : TS := fun D σ H => t σ H (fun _ H1 => D.nx σ H1) fun cls _ H1 => ∃ C, cls = .ref C ∧ PySem.W.exmOne K (.ref C) (.ref B) = some true ∧
  ∀ x H2, H1 x = none → Same H1 H2 → H2 x = some (excO x C) → th { nx := fun σ' H' => D.nx (σ'.set i none) H', rt := D.rt, bk := fun σ' H' => D.bk (σ'.set i none) H', ct := fun σ' H' => D.ct (σ'.set i none) H' } (σ.set i (some (.ref x))) H2
section
variable {X : Cx} {B : Addr} {i : Nat} {n cx : Str} {e : Expr} {b0 : Stmt} {suite : List Stmt} {ep np hpos pos : Pos} {t : TX} {th : TS}
end
end L2

set_option Elab.async false
set_option linter.all false
set_option maxRecDepth 100000
set_option maxHeartbeats 4000000
/-! our own rules: [elt for x in iter if c], nothing raised inside -/
namespace L2
open PySem PySem.Spec PyProof.Rows
abbrev Cx.comp (X : Cx) (scope : Scope) (cl : List (Str × Addr)) (N : List Str) (C : Addr) (fp : List Addr) (s₀ : Shared) (H₀ : Hp) : Cx :=
  { X with N := N, s₀ := s₀, H₀ := H₀, env := compEnvC scope cl C X.env, outer := X.stack, ex := fp, fn := fun _ => false, pn := [], xe := fun _ _ => False }
structure CompScope (X : Cx) (scope : Scope) (cl : List (Str × Addr)) (N : List Str) (cap : List Nat) : Prop where
  kind : scope.kind = .function
  clos : X.Ok → closureFor scope X.env = pure cl
  ncell : ∀ y ∈ scope.names, y.2 ≠ .cell
  names : ∀ y ∈ scope.names, y.2 = .local → scope.names.lookup y.1 = some .local
  nd : N.Nodup
  has : ∀ y, ((relabel scope X.env).names.lookup y = some .cell ∨ (relabel scope X.env).names.lookup y = some .free) → ∃ c, cl.lookup y = some c
  sub : X.Ok → ∀ y c, cl.lookup y = some c → X.env.cells.lookup y = some c
  len : N.length = cap.length + 1
  cap : ∀ (j i : Nat) (y : Str), N[j + 1]? = some y → cap[j]? = some i → X.N[i]? = some y ∧ Vis X.env.scope y ∧ X.env.kindOf y ≠ some .local ∧ ((relabel scope X.env).names.lookup y = some .cell ∨ (relabel scope X.env).names.lookup y = some .free)
def capOf (σ : St) (cap : List Nat) : St := cap.map fun i => (σ[i]?).join
section
variable {X : Cx} {pins : List (Addr × Obj)} {σ : St} {H : Hp} {s : Shared} {scope : Scope} {cl : List (Str × Addr)} {N : List Str} {cap : List Nat}
end

def PTs (X : Cx) (ifs : List Expr) (t : TT) : Prop :=
  ∀ (pins : List (Addr × Obj)) (s : Shared) (σ : St) (H : Hp) (Q : Bool → Hp → Prop), Inv X pins σ H s → t σ H Q →
    wpAny (model X.prog X.w) X.A (forIn ifs true fun c r => if r = true then do let ok ← isTrue c X.env (eval c X.env); pure (ForInStep.yield ok) else pure (ForInStep.yield r)) (TP X pins σ Q) X.xe s
def tYes : TT := fun _ H Q => Q true H
theorem pts_nil {X : Cx} : PTs X [] tYes := fun _ _ _ H _ I h => wpAny_tests_nil ⟨H, I, h⟩
section
variable {X : Cx} {scope : Scope} {cl : List (Str × Addr)} {N : List Str} {cap : List Nat} {x : Str} {px pos : Pos} {iter elt : Expr} {ifs : List Expr} {wi : TI} {tc : TT} {te : TE}
end
end L2

set_option Elab.async false
set_option linter.all false
set_option maxRecDepth 100000
set_option maxHeartbeats 4000000
/-! our own rules: texts -/
namespace L2
open PySem PySem.Spec PyProof.Rows
/-! ### all([..]) of bools -/
def rAll : List V → Hp → VK → Prop := fun xs H Q => ∃ (p : Addr) (bs : List Bool), xs = [.ref p] ∧ H p = some (.lst (bs.map V.bl)) ∧ Q (.bl (bs.all id)) H
/-! ### int(text) -/
/-! ### a comprehension that only reads: what it gives -/
structure Over (J : It) (xs : List V) (ok : Hp → Prop) : Prop where
  go : ∀ i H, ok H → i < xs.length → J.go i H
  stop : ∀ i H, ok H → xs.length ≤ i → J.stop i H
  yld : ∀ i H x H', ok H → i < xs.length → J.yld i H x H' → H' = H ∧ xs[i]? = some x
theorem over_list {K : PySem.W.Frag} {a : Addr} {xs : List V} : Over (Itl K a) xs (fun H => H a = some (.lst xs)) where
  go := fun i H e h => ⟨xs, xs[i], SqL.of e, List.getElem?_eq_getElem h⟩
  stop := fun i H e h => ⟨xs, SqL.of e, h⟩
  yld := fun i H v H' e h y => ⟨y.1, y.2 xs (SqL.of e)⟩
theorem over_range (lo : Int) (n : Nat) : Over (Itr lo n) ((List.range n).map fun (k : Nat) => V.int (lo + k)) (fun _ => True) where
  go := fun i H _ h => (show i < n by simpa using h)
  stop := fun i H _ h => (show n ≤ i by simpa using h)
  yld := fun i H v H' _ h y => by
    obtain ⟨e, rfl⟩ := y
    refine ⟨e, ?_⟩
    have h' : i < n := by simpa using h
    rw [List.getElem?_map, List.getElem?_range h']; rfl
/-! ### a comprehension that captures nothing -/
theorem lookup_mem {names : List (Str × NameKind)} {y : Str} {k : NameKind} (h : names.lookup y = some k) : (y, k) ∈ names := PySem.mem_of_lookup h
/-! ### f-strings of texts and ints -/
def tFmt (te : TE) : TE := fun σ H Q => te σ H fun v H1 => (∃ x, v = .str x ∧ x.length ≤ sizeLine ∧ Q (.str x) H1) ∨ ∃ i : Int, v = .int i ∧ i.natAbs.log2 < 1920 ∧ Q (.str (toString i)) H1
abbrev TJ := Str → St → Hp → (Str → Hp → Prop) → Prop
def jNil : TJ := fun out _ H Q => out.length ≤ sizeLine ∧ Q out H
def jCons (te : TE) (t : TJ) : TJ := fun out σ H Q => te σ H fun v H1 => ∃ x, v = .str x ∧ (out ++ x).length ≤ sizeLine ∧ t (out ++ x) σ H1 Q
def tJoin (t : TJ) : TE := fun σ H Q => t Str.empty σ H fun x H1 => Q (.str x) H1
end L2

set_option Elab.async false
set_option linter.all false
set_option maxRecDepth 100000
set_option maxHeartbeats 4000000
/-! our own rules: methods and slices of texts, a module's tuple -/
namespace L2
open PySem PySem.Spec PyProof.Rows
section
variable {X : Cx}
def rStarts : V → List V → Hp → VK → Prop := fun x vs H Q => ∃ a b, x = .str a ∧ vs = [.str b] ∧ Q (.bl (PySem.Txt.startswith a b)) H
def rMulS : R2 := fun x y H Q => ∃ a n, x = .str a ∧ y = .int n ∧ MulOk a n ∧ Q (.str (PySem.Txt.mul a n)) H
def rSlS : V → Option Int → Option Int → Hp → VK → Prop := fun x lo hi H Q => ∃ a, x = .str a ∧ a.length ≤ sizeLine ∧ Q (.str (PySem.Txt.slice a lo hi)) H
def rJoinS : V → List V → Hp → VK → Prop := fun x vs H Q => ∃ a l ys, x = .str a ∧ vs = [.ref l] ∧ H l = some (.lst (ys.map V.str)) ∧ JoinOk a ys = true ∧ Q (.str (PySem.Txt.join a ys)) H
def rInK (K : PySem.W.Frag) (neg : Bool) : R2 := fun x y H Q => ∃ p xs, y = .ref p ∧ (∀ H, SqT K H p xs) ∧ flatV x = true ∧ xs.all flatV = true ∧ Q (.bl (if neg then !inV x xs else inV x xs)) H
end
/-! ### comprehensions that only read, whole -/
/-! ### heap-abstract: + of lists, xs[i] = v -/
def rCatG : R2 := fun x y H Q => ∃ l b xs zs, x = .ref l ∧ y = .ref b ∧ H l = some (.lst xs) ∧ H b = some (.lst zs) ∧ xs.length + zs.length ≤ sizeLine ∧ ∀ p H', H p = none → Same H H' → H' p = some (.lst (xs ++ zs)) → Q (.ref p) H'
theorem op_catG {X : Cx} : OpR X (binaryOp .Add) rCatG := by
  intro pins s σ H x y v u Q I rx ry h
  obtain ⟨l, b, xs, zs, e1, e2, h1, h2, hz, q⟩ := h
  exact op_cat pins s σ H x y v u Q I rx ry ⟨l, b, xs, zs, e1, e2, h1, h2, hz, fresh_any q⟩
def rSetG : V → V → V → Hp → (Hp → Prop) → Prop := fun o i v H Q => ∃ p xs k j, o = .ref p ∧ i = .int k ∧ H p = some (.lst xs) ∧ ixN xs.length k = some j ∧ ∀ H', Mu H p (.lst (xs.set j v)) H' → Q H'
theorem set_listG {X : Cx} : PSet X rSetG := by
  intro pins s σ H o i v ov iv u Q I ro ri rv h
  obtain ⟨p, xs, k, j, e1, e2, h1, h2, q⟩ := h
  exact set_list pins s σ H o i v ov iv u Q I ro ri rv ⟨p, xs, k, j, e1, e2, h1, h2, q _ .mk'⟩
/-! ### a loop over anything whose items are known -/
/-! ### the state behind a statement, named -/
def tMs (t : TS) : TS := fun D σ H => ∃ Z : St → Hp → Prop, t { D with nx := Z } σ H ∧ ∀ σ' H', Z σ' H' → D.nx σ' H'
theorem ps_up {X : Cx} {st : Stmt} {t : TS} (h : PS X st t) : PS X st (tMs t) := by
  intro pins s σ H D I hq
  obtain ⟨Z, h1, h2⟩ := hq
  refine thn (h pins s σ H _ I h1) fun fl s' hs => ?_
  cases fl with
  | next => obtain ⟨σ', H', I', q⟩ := hs; exact ⟨σ', H', I', h2 _ _ q⟩
  | _ => exact hs
end L2

set_option Elab.async false
set_option linter.all false
set_option maxRecDepth 100000
set_option maxHeartbeats 4000000
/-! our own rules: enumerate, comprehensions that capture names -/
namespace L2
open PySem PySem.Spec PyProof.Rows
section
variable {X : Cx} {pins : List (Addr × Obj)} {σ : St} {H : Hp} {s : Shared} {h' : Heap}
end
/-! ### enumerate of a list -/
/-! ### a comprehension's items, by a relation -/
inductive F2 (R : V → V → Prop) : List V → List V → Prop
  | nil : F2 R [] []
  | cons {x v : V} {xs vs : List V} : R x v → F2 R xs vs → F2 R (x :: xs) (v :: vs)
theorem F2.snoc {R : V → V → Prop} {x v : V} : ∀ {xs vs : List V}, F2 R xs vs → R x v → F2 R (xs ++ [x]) (vs ++ [v])
  | _, _, .nil, r => .cons r .nil
  | _, _, .cons a t, r => .cons a (t.snoc r)
theorem F2.length {R : V → V → Prop} : ∀ {xs vs : List V}, F2 R xs vs → vs.length = xs.length
  | _, _, .nil => rfl
  | _, _, .cons _ t => by rw [List.length_cons, List.length_cons, t.length]
theorem F2.all {R : V → V → Prop} {P : V → Prop} (h : ∀ x v, R x v → P v) : ∀ {xs vs : List V}, F2 R xs vs → ∀ v ∈ vs, P v
  | _, _, .nil => fun v hv => absurd hv List.not_mem_nil
  | _, _, .cons a t => fun v hv => (List.mem_cons.mp hv).elim (fun e => e ▸ h _ _ a) (t.all h v)
/-! ### the scope of a comprehension that captures names -/
theorem forIn_yield_fold {α β : Type} {f : α → β → Sem (ForInStep β)} (g : α → β → β) : ∀ (l : List α) (b : β), (∀ x ∈ l, ∀ b, f x b = pure (.yield (g x b))) → forIn l b f = pure (l.foldl (fun b x => g x b) b)
  | [], b, _ => by rw [List.forIn_nil]; rfl
  | x :: l, b, h => by
    rw [List.forIn_cons, h x List.mem_cons_self b, pure_bind]
    exact forIn_yield_fold g l (g x b) fun y hy => h y (List.mem_cons_of_mem _ hy)
def capG (env : Env) (x : Str × NameKind) (r : List (Str × Addr)) : List (Str × Addr) := if x.2 == .free then (x.1, (env.cells.lookup x.1).getD 0) :: r else r
def clOf (env : Env) (scope : Scope) : List (Str × Addr) := scope.names.foldl (fun r x => capG env x r) []
theorem closure_of {scope : Scope} {env : Env} (h : ∀ y ∈ scope.names, y.2 = .free → ∃ c, env.cells.lookup y.1 = some c) : closureFor scope env = pure (clOf env scope) := by
  simp only [closureFor]
  rw [forIn_yield_fold (capG env) scope.names [] (fun x hx b => by
    obtain ⟨n, k⟩ := x
    cases hk : (k == NameKind.free) with
    | false => simp [capG, hk]
    | true =>
      have e : k = .free := by simpa using hk
      obtain ⟨c, hc⟩ := h _ hx e
      have hc' : env.cells.lookup n = some c := hc
      simp [capG, hk, cellOf, hc'])]
  rfl
theorem cl_sub {env : Env} : ∀ (names : List (Str × NameKind)) (acc : List (Str × Addr)), (∀ y ∈ names, y.2 = .free → ∃ c, env.cells.lookup y.1 = some c) → (∀ y c, acc.lookup y = some c → env.cells.lookup y = some c) →
    ∀ y c, (names.foldl (fun r x => capG env x r) acc).lookup y = some c → env.cells.lookup y = some c
  | [], acc, _, ha, y, c, e => ha y c e
  | (n, k) :: names, acc, h, ha, y, c, e => by
    refine cl_sub names (capG env (n, k) acc) (fun z hz => h z (List.mem_cons_of_mem _ hz)) (fun z d ez => ?_) y c e
    unfold capG at ez
    split at ez
    · rename_i hk
      have hk' : k = .free := by simpa using hk
      obtain ⟨c', hc'⟩ := h _ List.mem_cons_self hk'
      have hc' : env.cells.lookup n = some c' := hc'
      rw [List.lookup_cons] at ez
      split at ez
      · rename_i hzn
        have : z = n := by simpa using hzn
        subst this
        rw [hc'] at ez ⊢
        exact ez
      · exact ha z d ez
    · exact ha z d ez
theorem cl_has {env : Env} : ∀ (names : List (Str × NameKind)) (acc : List (Str × Addr)) (y : Str), ((y, NameKind.free) ∈ names ∨ (acc.lookup y).isSome) → ((names.foldl (fun r x => capG env x r) acc).lookup y).isSome
  | [], acc, y, h => h.elim (fun z => absurd z List.not_mem_nil) id
  | (n, k) :: names, acc, y, h => by
    refine cl_has names (capG env (n, k) acc) y ?_
    rcases h with h | h
    · rcases List.mem_cons.mp h with h | h
      · obtain ⟨rfl, rfl⟩ := Prod.mk.inj h
        right
        simp [capG]
      · exact .inl h
    · right
      unfold capG
      split
      · rw [List.lookup_cons]
        split
        · rfl
        · exact h
      · exact h
theorem lookup_relabel_free {env : Env} : ∀ {names : List (Str × NameKind)} {x : Str}, names.lookup x = some .free →
    (names.map fun (n, k) => if (k == NameKind.free && env.scope.kind == .function && env.kindOf n == some .cell) then (n, NameKind.cell) else (n, k)).lookup x = some .cell ∨
    (names.map fun (n, k) => if (k == NameKind.free && env.scope.kind == .function && env.kindOf n == some .cell) then (n, NameKind.cell) else (n, k)).lookup x = some .free
  | [], _, h => by simp at h
  | (n, k) :: r, x, h => by
    have ih := @lookup_relabel_free env r x
    rw [List.lookup_cons] at h
    rw [List.map_cons]
    cases hx : x == n with
    | true =>
      rw [hx] at h
      have hk : k = .free := by simpa using h
      subst hk
      dsimp only
      split
      · left; rw [List.lookup_cons, hx]
      · right; rw [List.lookup_cons, hx]
    | false =>
      rw [hx] at h
      dsimp only
      split
      · rw [List.lookup_cons, hx]; exact ih h
      · rw [List.lookup_cons, hx]; exact ih h
/-! ### str(x) of a text or an int; try .. except C: -/
def tTry0 (K : PySem.W.Frag) (B : Addr) (t : TX) (th : TS) : TS := fun D σ H => t σ H (fun _ H1 => D.nx σ H1) fun cls _ H1 => ∃ C, cls = .ref C ∧ PySem.W.exmOne K (.ref C) (.ref B) = some true ∧ th D σ H1
section
variable {X : Cx} {B : Addr} {cx : Str} {e : Expr} {b0 : Stmt} {suite : List Stmt} {ep np hpos pos : Pos} {t : TX} {th : TS}
end
/-! ### a loop, its iterable read first -/
def ForJ (J : It) (g : TG) (tb : TS) (D : Ends) (σ : St) (H1 : Hp) : Prop := ∃ W : Nat → Nat → St → Hp → Prop, (∃ m, W 0 m σ H1) ∧ ∀ i m σ H, W i m σ H →
  (J.stop i H ∧ D.nx σ H) ∨ (J.go i H ∧ ∃ N : St → Hp → Prop, (∀ σ' H', N σ' H' → ∃ m', m' < m ∧ W (i + 1) m' σ' H') ∧ ∀ x H', J.yld i H x H' → g x σ H' fun σ2 H2 => tb { D with nx := N, ct := N, bk := D.nx } σ2 H2)
theorem tfor_in {wi : TI} {g : TG} {tb : TS} {D : Ends} {σ : St} {H : Hp} (h : wi σ H fun J H1 => ForJ J g tb D σ H1) : tFor wi g tb D σ H := h
end L2

set_option Elab.async false
set_option linter.all false
set_option maxRecDepth 100000
set_option maxHeartbeats 4000000
/-! our own rules: for k in d (d a tracked dict), list.pop, list * int, over the abstract heap -/
namespace L2
open PySem PySem.Spec PyProof.Rows
section
variable {X : Cx} {pins : List (Addr × Obj)} {σ : St} {H : Hp} {s : Shared}
end
/-! ### for k in d -/
def tDGetR (td ty : TE) : TE := fun σ H Q => td σ H fun x H1 => ty σ H1 fun y H2 => ∃ a kvs k v, x = .ref a ∧ Rd H2 a (.dK kvs) ∧ keyOf y = some k ∧ valV kvs k = some v ∧ Q v H2
/-! ### pop, and a list taken n times -/
section
variable {X : Cx}
def rPopG : V → List V → Hp → VK → Prop := fun x vs H Q => ∃ l xs y, x = .ref l ∧ vs = [] ∧ H l = some (.lst (xs ++ [y])) ∧ ∀ H', Mu H l (.lst xs) H' → Q y H'
theorem mt_popG : MtR X "list.pop" rPopG := by
  intro pins s σ H x vs v us Q I rx rv h
  obtain ⟨l, xs, y, e1, e2, hH, q⟩ := h
  refine mt_pop pins s σ H x vs v us Q I rx rv ⟨l, xs ++ [y], y, e1, e2, hH, ?_, ?_⟩
  · rw [List.length_append, List.length_singleton, Nat.add_sub_cancel]
    simp
  · rw [List.dropLast_concat]
    exact q _ .mk'
def rRepG : R2 := fun x y H Q => ∃ l k xs, x = .ref l ∧ y = .int k ∧ H l = some (.lst xs) ∧ -(2 ^ 63) ≤ k ∧ k < 2 ^ 63 ∧ xs.length * k.toNat ≤ sizeLine ∧ ∀ p H', H p = none → Same H H' → H' p = some (.lst (List.replicate k.toNat xs).flatten) → Q (.ref p) H'
end
/-! ### a list unpacked -/
section
variable {prog : Program} {w : World} {A : Around} {E : Value → Shared → Prop} {s : Shared}
end
def gLstG (n : Nat) (t : TGs) : TG := fun v σ H Q => ∃ a xs, v = .ref a ∧ H a = some (.lst xs) ∧ xs.length = n ∧ t xs σ H Q
end L2

set_option Elab.async false
set_option linter.all false
set_option maxRecDepth 100000
set_option maxHeartbeats 4000000
/-! our own rules: sum, sorted, list.insert, dict.pop, list(..), comprehensions with any target, over the abstract heap -/
namespace L2
open PySem PySem.Spec PyProof.Rows
def rSum : List V → Hp → VK → Prop := fun xs H Q => ∃ (p : Addr) (ns : List Int), xs = [.ref p] ∧ H p = some (.lst (ns.map V.int)) ∧ Q (.int ns.sum) H
def rSort : List V → Hp → VK → Prop := fun xs H Q => ∃ (p : Addr) (ns : List Int), xs = [.ref p] ∧ (H p = some (.lst (ns.map V.int)) ∨ ∃ kvs : List (Key × V), H p = some (.dK kvs) ∧ kvs.map (·.1) = ns.map Sum.inl) ∧ ns.length < 64 ∧
  ∀ D H' ms, H D = none → Same H H' → H' D = some (.lst (ms.map V.int)) → List.Perm ms ns → List.Pairwise (fun x y => x ≤ y) ms → Q (.ref D) H'
/-! ### list(..), list.insert, dict.pop -/
def rListG (K : PySem.W.Frag) : List V → Hp → VK → Prop := fun xs H Q => ∃ p ys, xs = [.ref p] ∧ (H p = some (.lst ys) ∨ H p = some (.tup ys)) ∧ ∀ l H', H l = none → Same H H' → H' l = some (.lst ys) → Q (.ref l) H'
theorem call_listG {X : Cx} : CallR X (.type "list") (rListG X.K) := by
  intro pins s σ H xs us Q I r h
  obtain ⟨p, ys, e, hp, q⟩ := h
  exact call_list_of pins s σ H xs us Q I r ⟨p, ys, e, hp.elim (fun h => .inl (SqL.of h)) (fun h => .inr (.inl (.inl h))), fresh_any q⟩
def insL (xs : List V) (k : Nat) (y : V) : List V := xs.take k ++ y :: xs.drop k
def rInsG : V → List V → Hp → VK → Prop := fun x vs H Q => ∃ l xs k y, x = .ref l ∧ vs = [.int k, y] ∧ H l = some (.lst xs) ∧ 0 ≤ k ∧ k ≤ xs.length ∧ xs.length < 1000 ∧ ∀ H', Mu H l (.lst (insL xs k.toNat y)) H' → Q .non H'
theorem mt_insG {X : Cx} : MtR X "list.insert" rInsG := by
  intro pins s σ H x vs v us Q I rx rv h
  obtain ⟨l, xs, k, y, rfl, rfl, hH, h0, h1, hz, q⟩ := h
  cases rx
  cases rv with
  | cons r1 rv =>
  cases rv with
  | cons r2 rv =>
  cases rv
  obtain ⟨t, rfl⟩ := r1
  rename_i u
  obtain ⟨z, its, n, r, hl, e⟩ := I.lstM hH
  have hb : 1000 ≤ sizeLine := by unfold sizeLine; decide
  have hf : ¬ (!Builtin.List.listFitsIndex k) = true := by
    have : Builtin.List.listFitsIndex k = true := fitsIndex_both (by omega) (by omega)
    rw [this]; decide
  refine call_meets F.slot_list_insert ⟨_, e, rfl⟩ F.entry_list_insert (F.args_list_insert_3 _ _ _) (PySem.AutoSeq1.list_insert_list_int_val_1 l its.toArray n k t u hf (by rw [List.size_toArray]; omega)) ⟨e, ?_⟩
  refine ⟨.non, _, I.lset (ys := insL xs k.toNat y) (its' := its.take k.toNat ++ u :: its.drop k.toNat) hH e ?_ ?_ ?_, rfl, q _ .mk'⟩
  · show (its.toArray.extract 0 (if k < 0 then (k + (its.toArray.size : Int)).toNat else min k.toNat its.toArray.size)).push u ++ its.toArray.extract (if k < 0 then (k + (its.toArray.size : Int)).toNat else min k.toNat its.toArray.size) = _
    rw [if_neg (by omega), List.size_toArray, Nat.min_eq_left (by omega)]
    apply Array.toList_inj.mp
    simp
    exact List.take_of_length_le (by rw [List.length_drop]; exact Nat.le_refl _)
  · exact (r.take _).append (.cons r2 (r.drop _))
  · unfold insL
    rw [List.length_append, List.length_take, List.length_cons, List.length_drop]
    omega
def tDPopG (td ty : TE) : TE := fun σ H Q => td σ H fun x H1 => ∃ a, x = .ref a ∧ (∃ kvs, H1 a = some (.dK kvs)) ∧ ty σ H1 fun y H2 => ∃ kvs k v, H2 a = some (.dK kvs) ∧ keyOf y = some k ∧ valV kvs k = some v ∧ ∀ H', Mu H2 a (.dK (dropK kvs k)) H' → Q v H'
/-! ### comprehensions with any target -/
section
variable {prog : Program} {w : World} {A : Around} {s : Shared}
theorem cl_loop {elt target iter : PySem.Expr} {ifs : List PySem.Expr} {scope : Scope} {pos : Pos} {it acc : Value} {env : Env} {R : Result → Shared → Prop} (I : Nat → Shared → Prop)
    (turn : ∀ n s, I n s → wpAny (model prog w) A (pyNext it) (fun r s₁ => match r with
      | none => R (.ok .next) s₁
      | some v => wpAny (model prog w) A (letOwnedTupleGo target it v) (fun _ s₀ => wpAny (model prog w) A (assign target env v) (fun _ s₂ =>
          wpAny (model prog w) A (forIn ifs true fun c r => if r = true then do let ok ← isTrue c env (eval c env); pure (ForInStep.yield ok) else pure (ForInStep.yield r)) (fun ok s₃ => if ok = true then wpAny (model prog w) A (eval elt env) (fun x s₄ =>
            wpAny (model prog w) A (call (.builtin "list.append") [acc, x]) (fun _ s₅ => ∃ m, m < n ∧ I m s₅) (notedBy (model prog w) A env fun e s' => R (.error e) s') s₄) (notedBy (model prog w) A env fun e s' => R (.error e) s') s₃
            else ∃ m, m < n ∧ I m s₃) (notedBy (model prog w) A env fun e s' => R (.error e) s') s₂)
          (notedBy (model prog w) A env fun e s' => R (.error e) s') s₀) (notedBy (model prog w) A env fun e s' => R (.error e) s') s₁) (notedBy (model prog w) A env fun e s' => R (.error e) s') s)
    (n : Nat) (h : I n s) : codeAny (model prog w) A (.compLoop (.ListComp elt [⟨target, iter, ifs, 0⟩] scope pos) 0 it acc env) R s := by
  refine codeAny_loop rfl I (fun n s hI => ?_) n h
  refine (show wpAny _ A ((compTurn (.ListComp elt [⟨target, iter, ifs, 0⟩] scope pos) 0 it acc env).onRaise _) _ _ s from wpAny_noted ?_)
  rw [compTurn_list]
  refine wpAny_bind (wpAny_standAt (wpAny_bind (wpAny_mono (turn n s hI) (fun r s1 q1 => ?_) fun _ _ z => z)))
  cases r with
  | none => exact wpAny_pure q1
  | some v =>
    refine wpAny_bind (wpAny_mono q1 (fun _ s2 q2 => wpAny_bind (wpAny_mono q2 (fun _ s3 q3 => wpAny_bind (wpAny_mono q3 (fun b s4 q4 => ?_) fun _ _ z => z)) fun _ _ z => z)) fun _ _ z => z)
    cases b with
    | false => exact wpAny_pure ⟨rfl, q4⟩
    | true => exact wpAny_bind (wpAny_bind (wpAny_mono q4 (fun x s5 q5 => wpAny_bind (wpAny_mono q5 (fun _ s6 q6 => wpAny_pure (wpAny_pure ⟨rfl, q6⟩)) fun _ _ z => z)) fun _ _ z => z))
end
structure CompScopeN (X : Cx) (scope : Scope) (cl : List (Str × Addr)) (N : List Str) (cap : List Nat) (k : Nat) : Prop where
  kind : scope.kind = .function
  clos : X.Ok → closureFor scope X.env = pure cl
  ncell : ∀ y ∈ scope.names, y.2 ≠ .cell
  names : ∀ y ∈ scope.names, y.2 = .local → scope.names.lookup y.1 = some .local
  nd : N.Nodup
  has : ∀ y, ((relabel scope X.env).names.lookup y = some .cell ∨ (relabel scope X.env).names.lookup y = some .free) → ∃ c, cl.lookup y = some c
  sub : X.Ok → ∀ y c, cl.lookup y = some c → X.env.cells.lookup y = some c
  len : N.length = cap.length + k
  cap : ∀ (j i : Nat) (y : Str), N[j + k]? = some y → cap[j]? = some i → X.N[i]? = some y ∧ Vis X.env.scope y ∧ X.env.kindOf y ≠ some .local ∧ ((relabel scope X.env).names.lookup y = some .cell ∨ (relabel scope X.env).names.lookup y = some .free)
def frameN (k : Nat) (σ : St) (cap : List Nat) : St := List.replicate k none ++ capOf σ cap
def tCompN (k : Nat) (cap : List Nat) (wi : TI) (g : TG) (tc : TT) (te : TE) : TE := fun σ H Q => wi σ H fun J H1 => ∀ D, H1 D = none → ∃ W : Nat → Nat → St → Hp → Prop, (∃ m, W 0 m (frameN k σ cap) (upd H1 D (.lst []))) ∧ ∀ i m σ1 H, W i m σ1 H →
  (J.stop i H ∧ Q (.ref D) H) ∨ (J.go i H ∧ ∀ x H', J.yld i H x H' → g x σ1 H' fun σ2 H1 => tc σ2 H1 fun b H2 => if b = true then te σ2 H2 fun v H3 => ∃ ys, H3 D = some (.lst ys) ∧ ys.length < sizeLine ∧ ∃ m', m' < m ∧ W (i + 1) m' σ2 (upd H3 D (.lst (ys ++ [v])))
    else ∃ m', m' < m ∧ W (i + 1) m' σ2 H2)
section
variable {X : Cx} {pins : List (Addr × Obj)} {σ : St} {H : Hp} {s : Shared} {scope : Scope} {cl : List (Str × Addr)} {N : List Str} {cap : List Nat} {k : Nat}
theorem Inv.enterN {fp : List Addr} {h' : Heap} {tk : Nat} (S : CompScopeN X scope cl N cap k) (I : Inv X pins σ H s) (f : ∀ b ∈ fp, FpOk X pins H b ∧ b < s.heap.objs.size) (hn : h'.Ns s.heap.objs.size fun _ => none)
    (kp : ∀ b o, s.heap.get? b = some o → h'.get? b = some o) : Inv (X.comp scope cl N s.heap.objs.size fp s H) [] (frameN k σ cap) H { s with heap := h', toks := tk } := by
  have nC : ∀ b o, s.heap.get? b = some o → b ≠ s.heap.objs.size := fun b o e => Nat.ne_of_lt (Heap.lt_size e)
  have ok := I.ok
  have cellOut : ∀ y c, cl.lookup y = some c → ∃ v, s.heap.IsCell c v := fun y c e => I.cell y c (S.sub I.ok y c e)
  refine ⟨⟨ok.mod, ?_, ok.glob, ok.blt, Nat.le_refl _, fun x y c a b => ok.inj x y c (S.sub I.ok x c a) (S.sub I.ok y c b), S.has, fun _ _ z => absurd z Bool.false_ne_true, ok.hd, ok.frames, .inl rfl, fun b hb => ⟨Nat.ne_of_lt (f b hb).2, fun y c e => (f b hb).1.2.2.2.2.1 y c (S.sub I.ok y c e)⟩, I.bs, Nat.le_trans ok.bsz I.sz, fun b o e hb => ?_, fun b hb z => ?_, I.stack, I.stkFree⟩,
    rfl, I.bare, Un.kept kp, ⟨_, hn, fun i y v a b c => ?_⟩, fun y c e => ?_, I.hok.fresh (Nat.le_refl _), fun y c e => I.freeC y c (S.sub I.ok y c e), fun p hp => by simp at hp, I.hok.kept kp, ?_⟩
  · exact S.kind
  · have := (f b hb).1.2.2.2.1
    rcases this with z | z
    · exact ok.noex b o e z
    · have l1 := Heap.lt_size e
      exact absurd (Nat.lt_of_lt_of_le l1 (Nat.le_trans ok.bsz z)) (Nat.lt_irrefl _)
  · rcases List.mem_cons.mp (I.stkSub b z) with q | q
    · exact (f b hb).1.2.1 q
    · exact (f b hb).1.2.2.1 q
  · unfold frameN at b
    by_cases hik : i < k
    · rw [List.getElem?_append_left (by rw [List.length_replicate]; exact hik)] at b
      simp [hik] at b
    · obtain ⟨j, rfl⟩ : ∃ j, i = j + k := ⟨i - k, by omega⟩
      rw [List.getElem?_append_right (by rw [List.length_replicate]; omega), List.length_replicate, Nat.add_sub_cancel] at b
      unfold capOf at b
      rw [List.getElem?_map] at b
      cases e : cap[j]? with
      | none => rw [e] at b; cases b
      | some i =>
        rw [e] at b
        have b : (σ[i]?).join = some v := by simpa using b
        obtain ⟨p1, p2, p3, p4⟩ := S.cap j i y a e
        have b' : σ[i]? = some (some v) := by
          cases q : σ[i]? with
          | none => rw [q] at b; cases b
          | some w => rw [q] at b; exact congrArg some b
        obtain ⟨m, hm, hl⟩ := I.loc
        obtain ⟨u, ru, l⟩ := hl i y v p1 b' p2
        refine ⟨u, ru, .inr ⟨p4, ?_⟩⟩
        rcases l with l | ⟨l, c0, e0, o', q', hd'⟩
        · exact absurd l.1 p3
        · obtain ⟨c, ec⟩ := S.has y p4
          have := S.sub I.ok y c ec
          rw [e0] at this
          cases this
          exact ⟨c0, ec, o', kp _ _ q', hd'⟩
  · obtain ⟨v, o, q, hd⟩ := cellOut y c e
    exact ⟨v, o, kp _ _ q, hd⟩
  · show (frameN k σ cap).length = N.length
    unfold frameN capOf
    rw [S.len, List.length_append, List.length_replicate, List.length_map]
    omega
end

section
variable {X : Cx} {scope : Scope} {cl : List (Str × Addr)} {N : List Str} {cap : List Nat} {k : Nat} {tg : Expr} {g : TG} {pos : Pos} {iter elt : Expr} {ifs : List Expr} {wi : TI} {tc : TT} {te : TE}
theorem comp_coreN {use : Option (Value → Sem Unit)} {Qv : Value → Shared → Prop} {pins : List (Addr × Obj)} {s : Shared} {σ : St} {H : Hp} {Q : VK} {pos' : Pos} (S : CompScopeN X scope cl N cap k) (hc : X.calm = true) (hi : PI X tg iter wi) (hg : ∀ C fp s₀ H₀, PG (X.comp scope cl N C fp s₀ H₀) tg g)
    (ht : ∀ C fp s₀ H₀, PTs (X.comp scope cl N C fp s₀ H₀) ifs tc) (he : ∀ C fp s₀ H₀, PE (X.comp scope cl N C fp s₀ H₀) elt te) (hs : ∀ x, foldedSetIterable iter X.env x = pure x)
    (I : Inv X pins σ H s) (h : tCompN k cap wi g tc te σ H Q)
    (fin : ∀ (D C : Addr) (H6 : Hp) (s6 : Shared) (m : Str → Option Value), Inv X pins σ H6 s6 → FpOk X pins H6 C → s6.heap.Ns C m → Q (.ref D) H6 → compPost (model X.prog X.w) X.A X.xe use Qv (.ref D) C (.ok .next) s6) :
    wpAny (model X.prog X.w) X.A (comprehension (.ListComp elt [⟨tg, iter, ifs, 0⟩] scope pos) scope X.env pos' (newList []) false (eval iter X.env) use) Qv X.xe s := by
  refine wpAny_comprehension_free (use := use) rfl hs (S.clos I.ok) S.kind S.names (thn (hi pins s σ H _ I h) fun v s1 h1 => thn h1 fun itv s2 h2 => ?_)
  obtain ⟨it, fp, tn, J, H2, rfl, I2, T, st2, f2, q⟩ := h2
  obtain ⟨W, ⟨m0, w0⟩, turn⟩ := q s2.heap.objs.size (I2.hok.fresh (Nat.le_refl _))
  have I3 : Inv X pins σ (upd H2 s2.heap.objs.size (.lst [])) { s2 with heap := s2.heap.push { cls := .type "list", dict := none, data := .seq ([] : List Value).toArray } } :=
    I2.laid (t' := s2.toks) (fun b u e => Heap.get?_push_of_some _ e) (Nat.le_refl _) ⟨Nat.zero_le _, [], 0, .nil, Heap.get?_push_size _ rfl⟩
  refine wpAny_newObj_type (wpAny_newFunctionEnv S.ncell (by intro y hy; simp at hy) (fun h4 hns hsb => ?_) S.kind)
  generalize hs3 : ({ s2 with heap := s2.heap.push { cls := .type "list", dict := none, data := .seq ([] : List Value).toArray } } : Shared) = s3 at I3 hns hsb ⊢
  have f3 : ∀ b ∈ fp, FpOk X pins (upd H2 s2.heap.objs.size (.lst [])) b ∧ b < s3.heap.objs.size := fun b hb => by
    obtain ⟨o, ho, _⟩ := T.obj _ _ st2 b hb
    have l1 : b < s2.heap.objs.size := Heap.lt_size ho
    refine ⟨⟨?_, (f2 b hb).2⟩, ?_⟩
    · rw [upd_ne (Nat.ne_of_lt l1)]; exact (f2 b hb).1
    · rw [← hs3, Heap.size_push]; exact Nat.lt_succ_of_lt l1
  have nsN : h4.Ns s3.heap.objs.size fun _ => none := by
    have := hns
    simpa using this
  have keep4 : ∀ b o, s3.heap.get? b = some o → h4.get? b = some o := fun b o e => (hsb.2 b (Nat.ne_of_lt (Heap.lt_size e))).trans (Heap.get?_push_of_some _ e)
  have Ic := I3.enterN (tk := s3.toks + ([] : List (Str × Value)).length) S f3 nsN keep4
  have st4 : tn 0 h4 := T.keep _ _ _ st2 fun b hb o e => keep4 b o (by rw [← hs3]; exact Heap.get?_push_of_some _ e)
  have stat : ∀ {H' : Hp}, (∀ b ∈ fp, H' b = none) → ∀ b ∈ fp, FpOk (X.comp scope cl N s3.heap.objs.size fp s3 (upd H2 s2.heap.objs.size (.lst []))) [] H' b := fun hn b hb =>
    ⟨hn b hb, Nat.ne_of_lt (f3 b hb).2, fun z => (List.mem_cons.mp (I3.stkSub b z)).elim (fun q => (f3 b hb).1.2.1 q) fun q => (f3 b hb).1.2.2.1 q, .inl hb, fun y c e => (f3 b hb).1.2.2.2.2.1 y c (S.sub I.ok y c e), fun p hp => by simp at hp⟩
  have out : ∀ {σx : St} {H6 : Hp} {s6 : Shared}, Inv (X.comp scope cl N s3.heap.objs.size fp s3 (upd H2 s2.heap.objs.size (.lst []))) [] σx H6 s6 → Q (.ref s2.heap.objs.size) H6 →
      compPost (model X.prog X.w) X.A X.xe use Qv (Value.ref s2.heap.objs.size) s3.heap.objs.size (.ok .next) s6 := fun {σx H6 s6} I6 q6 => by
    obtain ⟨m, hm, _⟩ := I6.loc
    have Io : Inv X pins σ H6 s6 := I3.call' I6.os I6.base I6.hok I6.bare fun b hb => ⟨(f3 b hb).1.2.2.2.1, (f3 b hb).1.2.1, (f3 b hb).1.2.2.2.2.1, (f3 b hb).1.2.2.2.2.2⟩
    exact fin _ _ _ _ m Io (I3.fpOk (b := s3.heap.objs.size) (H' := H6) (Nat.le_refl _) I6.free) hm q6
  have loop : codeAny (model X.prog X.w) X.A (.compLoop (.ListComp elt [⟨tg, iter, ifs, 0⟩] scope pos) 0 (.ref it) (.ref s2.heap.objs.size) (compEnvC scope cl s3.heap.objs.size X.env))
      (compPost (model X.prog X.w) X.A X.xe use Qv (Value.ref s2.heap.objs.size) s3.heap.objs.size) { s3 with heap := h4, toks := s3.toks + ([] : List (Str × Value)).length } := by
    refine cl_loop (fun n s' => ∃ i σx H', Inv (X.comp scope cl N s3.heap.objs.size fp s3 (upd H2 s2.heap.objs.size (.lst []))) [] σx H' s' ∧ tn i s'.heap ∧ (∀ b ∈ fp, H' b = none) ∧ W i n σx H') ?_ m0 ⟨0, _, _, Ic, st4, fun b hb => (f3 b hb).1.1, w0⟩
    rintro n s5 ⟨i, σx, H5, I5, st5, fr5, w5⟩
    rcases turn i n σx H5 w5 with ⟨stop, qd⟩ | ⟨go, step⟩
    · refine wpAny_mono (T.done (X.comp scope cl N s3.heap.objs.size fp s3 (upd H2 s2.heap.objs.size (.lst []))) rfl rfl rfl hc i [] s5 _ H5 (fun _ _ => False) I5 (stat fr5) st5 stop) (fun r s6 ⟨hr, I6⟩ => ?_) fun _ _ z => z.elim
      subst hr
      exact out I6 qd
    · refine wpAny_mono (T.item (X.comp scope cl N s3.heap.objs.size fp s3 (upd H2 s2.heap.objs.size (.lst []))) rfl rfl rfl hc i [] s5 _ H5 (fun _ _ => False) I5 (stat fr5) st5 go) (fun r s6 ⟨u, hr, h6⟩ => ?_) fun _ _ z => z.elim
      subst hr
      refine wpAny_mono h6 (fun _ s7 ⟨v, H7, I7, r7, y7, st7, fr7⟩ => ?_) fun _ _ z => z.elim
      have I7' := I7.pinned (stat fr7) (T.obj _ _ st7)
      have again : ∀ {σ9 : St} {H9 : Hp} {s9 : Shared}, Inv (X.comp scope cl N s3.heap.objs.size fp s3 (upd H2 s2.heap.objs.size (.lst []))) ([] ++ pinsAt fp s7.heap) σ9 H9 s9 → (∃ m', m' < n ∧ W (i + 1) m' σ9 H9) →
          ∃ m', m' < n ∧ ∃ i σx H', Inv (X.comp scope cl N s3.heap.objs.size fp s3 (upd H2 s2.heap.objs.size (.lst []))) [] σx H' s9 ∧ tn i s9.heap ∧ (∀ b ∈ fp, H' b = none) ∧ W i m' σx H' := fun {σ9 H9 s9} I9 ⟨m', lt, w'⟩ => by
        refine ⟨m', lt, i + 1, σ9, H9, I9.unpinned, T.keep _ _ _ st7 fun b hb o e => (I9.pin (b, o) (List.mem_append_right _ (List.mem_append_right _ (mem_pinsAt hb e)))).1, fun b hb => ?_, w'⟩
        obtain ⟨o, e, d⟩ := T.obj _ _ st7 b hb
        exact (I9.pin (b, o) (List.mem_append_right _ (List.mem_append_right _ (mem_pinsAt hb e)))).2.1
      refine wpAny_mono (hg _ _ _ _ _ s7 σx H7 v u _ I7' r7 (step v H7 y7)) (fun _ s8 ⟨σ8, H8, I8, q8⟩ => ?_) fun _ _ z => z.elim
      refine wpAny_mono (ht _ _ _ _ _ s8 _ H8 _ I8 q8) (fun b s9 ⟨H9, I9, q9⟩ => ?_) fun _ _ z => z.elim
      cases b with
      | false => exact again I9 q9
      | true =>
        refine wpAny_mono (he _ _ _ _ _ s9 _ H9 _ I9 q9) (fun u' s10 ⟨v', H10, I10, r10, ys, hD, hz, q10⟩ => ?_) fun _ _ z => z.elim
        refine wpAny_mono (mt_append (X := X.comp scope cl N s3.heap.objs.size fp s3 (upd H2 s2.heap.objs.size (.lst []))) _ s10 _ H10 (.ref s2.heap.objs.size) [v'] (.ref s2.heap.objs.size) [u'] (fun _ H' => ∃ m', m' < n ∧ W (i + 1) m' σ8 H') I10 rfl (.cons r10 .nil) ⟨_, ys, v', rfl, rfl, hD, hz, q10⟩) (fun _ s11 ⟨_, H11, I11, _, q11⟩ => again I11 q11) fun _ _ z => z.elim
  exact codeAny_compStart_list loop (T.self _ 0 _ _ _ st4 loop)
theorem pe_compN (S : CompScopeN X scope cl N cap k) (hc : X.calm = true) (hi : PI X tg iter wi) (hg : ∀ C fp s₀ H₀, PG (X.comp scope cl N C fp s₀ H₀) tg g)
    (ht : ∀ C fp s₀ H₀, PTs (X.comp scope cl N C fp s₀ H₀) ifs tc) (he : ∀ C fp s₀ H₀, PE (X.comp scope cl N C fp s₀ H₀) elt te) (hs : ∀ x, foldedSetIterable iter X.env x = pure x := by intro _; rfl) :
    PE X (.ListComp elt [⟨tg, iter, ifs, 0⟩] scope pos) (tCompN k cap wi g tc te) := by
  intro pins s σ H Q I h
  rw [eval_ListComp]
  refine comp_coreN S hc hi hg ht he hs I h fun D C H6 s6 m Io Cf hm q6 => ?_
  exact ⟨m, hm, fun h' sb => ⟨.ref D, H6, Io.turned (it := C) (t' := s6.toks) (fun b o n e => (sb.2 b n).trans e) Cf.1 Cf.2.1 Cf.2.2.2.1 Cf.2.2.2.2.1 Cf.2.2.2.2.2, rfl, q6⟩⟩
theorem ps_setCN {i : Nat} {y : Str} {py spos : Pos} (hN : X.N.Nodup) (hiy : X.N[i]? = some y) (hy : Loc X.env.scope y) (S : CompScopeN X scope cl N cap k) (hc : X.calm = true) (hi : PI X tg iter wi) (hg : ∀ C fp s₀ H₀, PG (X.comp scope cl N C fp s₀ H₀) tg g)
    (ht : ∀ C fp s₀ H₀, PTs (X.comp scope cl N C fp s₀ H₀) ifs tc) (he : ∀ C fp s₀ H₀, PE (X.comp scope cl N C fp s₀ H₀) elt te) (hs : ∀ x, foldedSetIterable iter X.env x = pure x := by intro _; rfl)
    (hsw : swapsWith (.ListComp elt [⟨tg, iter, ifs, 0⟩] scope pos) (some (.Name y py)) spos.line X.env = pure true := by rfl)
    (hf : X.fn y = true ∨ X.env.scope.names.lookup y = some .local := by first | exact .inl rfl | exact .inr rfl | assumption) :
    PS X (.Assign [.Name y py] (.ListComp elt [⟨tg, iter, ifs, 0⟩] scope pos) spos) (tAsg (tCompN k cap wi g tc te) (gName i)) := by
  intro pins s σ H D I h
  rw [exec_Assign_Name_used _ _ _ _ hsw]
  refine wpAny_bind (wpAny_standAt (wpAny_bind ?_))
  show wpAny _ X.A (do let _ ← comprehension (.ListComp elt [⟨tg, iter, ifs, 0⟩] scope pos) scope X.env _ (newList []) false (eval iter X.env) (some (assign (.Name y py) X.env))) _ _ s
  refine wpAny_bind (wpAny_mono (comp_coreN (use := some (assign (.Name y py) X.env)) (Qv := fun _ s' => SP X pins D .next s') S hc hi hg ht he hs I h fun D' C H6 s6 m Io Cf hm q6 => ?_) (fun _ s' hq => wpAny_pure (wpAny_pure hq)) fun _ _ e => e)
  show wpAny _ X.A (assign (.Name y py) X.env (.ref D')) _ _ _
  refine wpAny_assign_Name (store_ok2 (v := .ref D') Io hN hiy hy rfl (fun s7 I7 hsb => ?_) hf)
  obtain ⟨a, sb, ha⟩ := hsb
  have hne : C ≠ a := fun e => ha.elim (fun q => Cf.2.1 (e.trans q)) fun q => Cf.2.2.2.2.1 _ _ q e.symm
  refine ⟨m, hm.at' fun o e => (sb.2 C hne).trans e, fun h' sb' => ?_⟩
  exact ⟨_, H6, I7.turned (it := C) (t' := s7.toks) (fun b o n e => (sb'.2 b n).trans e) Cf.1 Cf.2.1 Cf.2.2.2.1 Cf.2.2.2.2.1 Cf.2.2.2.2.2, q6⟩
end
theorem comp_scopeN (k : Nat) {X : Cx} {scope : Scope} {N : List Str} {cap : List Nat} (hk : scope.kind = .function) (h1 : scope.names.all (fun y => y.2 != .cell) = true) (h2 : scope.names.all (fun y => y.2 != .local || scope.names.lookup y.1 == some .local) = true)
    (h3 : scope.names.all (fun y => y.2 != .free || X.env.scope.names.lookup y.1 == some .cell || X.env.scope.names.lookup y.1 == some .free) = true)
    (nd : N.Nodup) (hl : N.length = cap.length + k) (hc : (N.drop k).map some = cap.map (fun i => X.N[i]?)) (hf : (N.drop k).all (fun y => scope.names.lookup y == some .free) = true) : CompScopeN X scope (clOf X.env scope) N cap k := by
  have fr : ∀ y : Str, (y, NameKind.free) ∈ scope.names → X.env.scope.names.lookup y = some .cell ∨ X.env.scope.names.lookup y = some .free := fun y hy => by
    have := List.all_eq_true.mp h3 _ hy
    simpa using this
  have nc : ∀ y ∈ scope.names, y.2 ≠ .cell := fun y hy => by
    have := List.all_eq_true.mp h1 y hy
    simpa using this
  have fr2 : X.Ok → ∀ y ∈ scope.names, y.2 = .free → ∃ c, X.env.cells.lookup y.1 = some c := fun ok y hy e => by
    obtain ⟨n, k⟩ := y
    have e : k = .free := e
    subst e
    exact ok.has n (fr n hy)
  refine ⟨hk, fun ok => closure_of (fr2 ok), nc, fun y hy e => ?_, nd, fun y hy => ?_, fun ok y c e => cl_sub scope.names [] (fr2 ok) (fun _ _ z => by simp at z) y c e, hl, fun j i y a b => ?_⟩
  · have := List.all_eq_true.mp h2 y hy
    simpa [e] using this
  · have hm : (y, NameKind.free) ∈ scope.names := by
      have : ∃ k', (k' = NameKind.cell ∨ k' = NameKind.free) ∧ (y, k') ∈ (relabel scope X.env).names := by
        rcases hy with hy | hy
        · exact ⟨_, .inl rfl, lookup_mem hy⟩
        · exact ⟨_, .inr rfl, lookup_mem hy⟩
      obtain ⟨k', hk', hm⟩ := this
      obtain ⟨⟨n, k⟩, hz, e⟩ := List.mem_map.mp hm
      dsimp only at e
      split at e
      · rename_i hcond
        obtain ⟨rfl, rfl⟩ := Prod.mk.inj e
        simp only [Bool.and_eq_true] at hcond
        have : k = .free := by simpa using hcond.1.1
        subst this
        exact hz
      · obtain ⟨rfl, rfl⟩ := Prod.mk.inj e
        rcases hk' with rfl | rfl
        · exact absurd rfl (nc _ hz)
        · exact hz
    have := cl_has (env := X.env) scope.names [] y (.inl hm)
    exact Option.isSome_iff_exists.mp this
  · have hy : y ∈ N.drop k := by
      refine List.mem_of_getElem? (i := j) ?_
      rw [List.getElem?_drop, Nat.add_comm]
      exact a
    have e1 : X.N[i]? = some y := by
      have := congrArg (fun l => l[j]?) hc
      simp only [List.getElem?_map, List.getElem?_drop, Nat.add_comm k j, a, b, Option.map_some] at this
      exact (Option.some.inj this).symm
    have e2 : scope.names.lookup y = some .free := by
      have := List.all_eq_true.mp hf y hy
      simpa using this
    have e3 := fr y (lookup_mem e2)
    refine ⟨e1, e3.elim (fun z => .inr (.inl z)) fun z => .inr (.inr z), ?_, lookup_relabel_free e2⟩
    intro z
    have z : X.env.scope.names.lookup y = some .local := z
    rcases e3 with e3 | e3 <;> rw [e3] at z <;> cases z
def CompJ (J : It) (g : TG) (tc : TT) (te : TE) (cs : St) (H1 : Hp) (Q : VK) : Prop := ∀ D, H1 D = none → ∃ W : Nat → Nat → St → Hp → Prop, (∃ m, W 0 m cs (upd H1 D (.lst []))) ∧ ∀ i m σ1 H, W i m σ1 H →
  (J.stop i H ∧ Q (.ref D) H) ∨ (J.go i H ∧ ∀ x H', J.yld i H x H' → g x σ1 H' fun σ2 H1 => tc σ2 H1 fun b H2 => if b = true then te σ2 H2 fun v H3 => ∃ ys, H3 D = some (.lst ys) ∧ ys.length < sizeLine ∧ ∃ m', m' < m ∧ W (i + 1) m' σ2 (upd H3 D (.lst (ys ++ [v])))
    else ∃ m', m' < m ∧ W (i + 1) m' σ2 H2)
theorem tcomp_in {k : Nat} {cap : List Nat} {wi : TI} {g : TG} {tc : TT} {te : TE} {σ : St} {H : Hp} {Q : VK} (h : wi σ H fun J H1 => CompJ J g tc te (frameN k σ cap) H1 Q) : tCompN k cap wi g tc te σ H Q := h
def CW (xs : List V) (H1 : Hp) (D : Addr) (Pv : Nat → List V → St → Hp → Prop) (i m : Nat) (σ1 : St) (H : Hp) : Prop := m = xs.length - i ∧ i ≤ xs.length ∧ Same H1 H ∧ ∃ ys, H D = some (.lst ys) ∧ ys.length ≤ i ∧ Pv i ys σ1 H
def Put (xs : List V) (H1 : Hp) (D : Addr) (Pv : Nat → List V → St → Hp → Prop) (i : Nat) (σ2 : St) (v : V) (H3 : Hp) : Prop := ∃ ys, H3 D = some (.lst ys) ∧ ys.length < sizeLine ∧ ∃ m', m' < xs.length - i ∧ CW xs H1 D Pv (i + 1) m' σ2 (upd H3 D (.lst (ys ++ [v])))
def Skip (xs : List V) (H1 : Hp) (D : Addr) (Pv : Nat → List V → St → Hp → Prop) (i : Nat) (σ2 : St) (H2 : Hp) : Prop := ∃ m', m' < xs.length - i ∧ CW xs H1 D Pv (i + 1) m' σ2 H2
structure At (xs : List V) (H1 : Hp) (D : Addr) (i : Nat) (ys : List V) (H : Hp) : Prop where
  new : H1 D = none
  lt : i < xs.length
  sz : xs.length < sizeLine
  same : Same H1 H
  lst : H D = some (.lst ys)
  le : ys.length ≤ i
theorem At.put {xs : List V} {H1 : Hp} {D : Addr} {i : Nat} {ys : List V} {H H4 : Hp} {Pv : Nat → List V → St → Hp → Prop} {σ2 : St} {v : V} (a : At xs H1 D i ys H) (g : Same H H4) (p : ∀ H5, Mu H4 D (.lst (ys ++ [v])) H5 → Pv (i + 1) (ys ++ [v]) σ2 H5) : Put xs H1 D Pv i σ2 v H4 :=
  ⟨ys, g _ _ a.lst, by have := a.le; have := a.lt; have := a.sz; omega, xs.length - (i + 1), by have := a.lt; omega, rfl, a.lt, Mu.mk'.same (a.same.trans g) a.new, _, upd_same, by have := a.le; rw [List.length_append, List.length_singleton]; omega, p _ Mu.mk'⟩
theorem At.skip {xs : List V} {H1 : Hp} {D : Addr} {i : Nat} {ys : List V} {H H4 : Hp} {Pv : Nat → List V → St → Hp → Prop} {σ2 : St} (a : At xs H1 D i ys H) (g : Same H H4) (p : Pv (i + 1) ys σ2 H4) : Skip xs H1 D Pv i σ2 H4 :=
  ⟨xs.length - (i + 1), by have := a.lt; omega, rfl, a.lt, a.same.trans g, ys, g _ _ a.lst, Nat.le_succ_of_le a.le, p⟩
theorem compJ {J : It} {xs : List V} {ok : Hp → Prop} (O : Over J xs ok) {g : TG} {tc : TT} {te : TE} {cs : St} {H1 : Hp} {Q : VK} (hok : ∀ H, Same H1 H → ok H) (sz : xs.length < sizeLine) (Pv : Nat → List V → St → Hp → Prop)
    (h0 : ∀ H', Same H1 H' → Pv 0 [] cs H')
    (hs : ∀ D i x ys σ1 H', xs[i]? = some x → At xs H1 D i ys H' → Pv i ys σ1 H' → g x σ1 H' fun σ2 H2 => tc σ2 H2 fun b H3 => if b = true then te σ2 H3 fun v H4 => Put xs H1 D Pv i σ2 v H4 else Skip xs H1 D Pv i σ2 H3)
    (hd : ∀ D ys σ1 H', H1 D = none → Same H1 H' → H' D = some (.lst ys) → ys.length ≤ xs.length → Pv xs.length ys σ1 H' → Q (.ref D) H') : CompJ J g tc te cs H1 Q := by
  intro D hD
  refine ⟨CW xs H1 D Pv, ⟨_, rfl, Nat.zero_le _, same_new hD _, [], upd_same, Nat.le_refl _, h0 _ (same_new hD _)⟩, ?_⟩
  rintro i m σ1 H ⟨rfl, hi, sm, ys, hy, ly, p⟩
  by_cases hlt : i < xs.length
  · refine .inr ⟨O.go i _ (hok _ sm) hlt, fun x H' y => ?_⟩
    obtain ⟨rfl, hx⟩ := O.yld i _ x H' (hok _ sm) hlt y
    exact hs D i x ys σ1 H' hx ⟨hD, hlt, sz, sm, hy, ly⟩ p
  · have e : i = xs.length := by omega
    subst e
    exact .inl ⟨O.stop _ _ (hok _ sm) (Nat.le_refl _), hd D ys σ1 _ hD sm hy ly p⟩
theorem compJ_list {K : PySem.W.Frag} {a : Addr} {xs : List V} {g : TG} {tc : TT} {te : TE} {cs : St} {H1 : Hp} {Q : VK} (ha : H1 a = some (.lst xs)) (sz : xs.length < sizeLine) (Pv : Nat → List V → St → Hp → Prop)
    (h0 : ∀ H', Same H1 H' → Pv 0 [] cs H')
    (hs : ∀ D i x ys σ1 H', xs[i]? = some x → At xs H1 D i ys H' → Pv i ys σ1 H' → g x σ1 H' fun σ2 H2 => tc σ2 H2 fun b H3 => if b = true then te σ2 H3 fun v H4 => Put xs H1 D Pv i σ2 v H4 else Skip xs H1 D Pv i σ2 H3)
    (hd : ∀ D ys σ1 H', H1 D = none → Same H1 H' → H' D = some (.lst ys) → ys.length ≤ xs.length → Pv xs.length ys σ1 H' → Q (.ref D) H') : CompJ (Itl K a) g tc te cs H1 Q :=
  compJ over_list (fun H g => g _ _ ha) sz Pv h0 hs hd
/-! ### what is new in a heap -/
end L2

set_option Elab.async false
set_option linter.all false
set_option maxRecDepth 100000
set_option maxHeartbeats 4000000
/-! our own rules: comprehensions whose invariant knows the list that grows -/
namespace L2
open PySem PySem.Spec PyProof.Rows
end L2

set_option Elab.async false
set_option linter.all false
set_option maxRecDepth 100000
set_option maxHeartbeats 4000000
/-! our own rules: list.pop(i), range(n) as a value, list(range(n)), xs[::-1], over the abstract heap -/
namespace L2
open PySem PySem.Spec PyProof.Rows
section
variable {X : Cx}
def rPopAtG : V → List V → Hp → VK → Prop := fun x vs H Q => ∃ l xs i y, x = .ref l ∧ vs = [.int i] ∧ H l = some (.lst xs) ∧ 0 ≤ i ∧ i < xs.length ∧ xs.length < 100000 ∧ xs[i.toNat]? = some y ∧ ∀ H', Mu H l (.lst (xs.eraseIdx i.toNat)) H' → Q y H'
theorem mt_popAtG : MtR X "list.pop" rPopAtG := by
  intro pins s σ H x vs v us Q I rx rv h
  obtain ⟨l, xs, i, y, e1, e2, hH, h0, h1, h2, hy, q⟩ := h
  exact mt_popAt pins s σ H x vs v us Q I rx rv ⟨l, xs, i, i.toNat, y, e1, e2, hH, by omega, by omega, PySem.StrLaws.seqIndex_nonneg h0 h1, hy, q _ .mk'⟩
def tRng1 (ta : TA) : TE := fun σ H Q => ta σ H fun vs H1 => ∃ j : Int, vs = [.int j] ∧ ∀ p H', H1 p = none → Same H1 H' → H' p = some (.rng 0 j) → Q (.ref p) H'
def rListRng : List V → Hp → VK → Prop := fun xs H Q => ∃ p, ∃ n : Nat, xs = [.ref p] ∧ H p = some (.rng 0 n) ∧ n < 100000 ∧ ∀ l H', H l = none → Same H H' → H' l = some (.lst (((List.range n).map fun k => ((k : Nat) : Int)).map V.int)) → Q (.ref l) H'
def tRev (te : TE) (ts : TO) : TE := fun σ H Q => te σ H fun x H1 => ts σ H1 fun o H2 => o = some (-1) ∧ ∃ a xs, x = .ref a ∧ H2 a = some (.lst xs) ∧ ∀ p H', H2 p = none → Same H2 H' → H' p = some (.lst xs.reverse) → Q (.ref p) H'
end
end L2

set_option Elab.async false
set_option linter.all false
set_option maxRecDepth 100000
set_option maxHeartbeats 4000000
/-! our own rules: min of a list, list.index, over the abstract heap -/
namespace L2
open PySem PySem.Spec PyProof.Rows
section
variable {X : Cx}
def rMinL : List V → Hp → VK → Prop := fun xs H Q => ∃ (p : Addr) (ns : List Int), xs = [.ref p] ∧ H p = some (.lst (ns.map V.int)) ∧ 0 < ns.length ∧ ∀ M : Int, M ∈ ns → (∀ a ∈ ns, M ≤ a) → Q (.int M) H
def rIdxG : V → List V → Hp → VK → Prop := fun x vs H Q => ∃ (l : Addr) (ns : List Int) (k : Int), x = .ref l ∧ vs = [.int k] ∧ H l = some (.lst (ns.map V.int)) ∧ k ∈ ns ∧ ns.length < 100000 ∧ Q (.int (ns.idxOf k : Nat)) H
end
end L2

set_option Elab.async false
set_option linter.all false
set_option maxRecDepth 100000
set_option maxHeartbeats 4000000
/-! our own rules: instances of own classes over the abstract heap: attributes, methods, making -/
namespace L2
open PySem PySem.Spec PyProof.Rows
theorem lookup_n {f : Str} : List.lookup f ([] : List (Str × V)) = none := rfl
theorem lookup_c {f g : Str} {v : V} {r : List (Str × V)} : List.lookup f ((g, v) :: r) = if f = g then some v else List.lookup f r := by
  by_cases h : f = g
  · have hb : (f == g) = true := beq_iff_eq.mpr h
    simp only [List.lookup, hb, if_pos h]
  · have hb : (f == g) = false := beq_eq_false_iff_ne.mpr h
    simp only [List.lookup, hb, if_neg h]
theorem putF_n {f : Str} {v : V} : putF f v [] = [(f, v)] := rfl
theorem putF_c {f g : Str} {v x : V} {r : List (Str × V)} : putF f v ((g, x) :: r) = if g = f then (g, v) :: r else (g, x) :: putF f v r := rfl
structure MethAt (K : PySem.W.Frag) (C : Addr) (m q : Str) (st : Stmt) (ps : List Str) : Prop where
  ex : ∃ f fd, Meth K C m f ∧ Fun K m q st f fd ∧ Binds K fd ps []
structure OkM (P : Program) (w : World) (K : PySem.W.Frag) (mg : Str → Option Value) (base : Heap) (n : Nat) (C : Addr) (m : Str) (ps : List Str) (sp : Sp) : Prop where
  ex : ∃ f fd, Meth K C m f ∧ Binds K fd ps [] ∧ FnOk P w K mg base CX0 n f fd ps sp
  cl : Cls K C
structure MakeAt (K : PySem.W.Frag) (mg : Str → Option Value) (x : Str) (C : Addr) (q : Str) (st : Stmt) (ps : List Str) : Prop where
  ex : ∃ f fd, mg x = some (.ref C) ∧ Mk K C f ∧ Fun K "__init__" q st f fd ∧ Binds K fd ps []
structure OkC (P : Program) (w : World) (K : PySem.W.Frag) (mg : Str → Option Value) (base : Heap) (n : Nat) (x : Str) (C : Addr) (ps : List Str) (sp : Sp) : Prop where
  ex : ∃ f fd, mg x = some (.ref C) ∧ Mk K C f ∧ Binds K fd ps [] ∧ FnOk P w K mg base CX0 n f fd ps sp
section
variable {P : Program} {w : World} {K : PySem.W.Frag} {mg : Str → Option Value} {base : Heap} {x m q : Str} {st : Stmt} {N ps : List Str} {k : Nat} {sp : Sp} {C : Addr}
theorem MethAt.ok (D : MethAt K C m q st ps) (cl : Cls K C) (S : FnScope N ps (defScope st)) (len : ∀ vs H Q E, sp vs H Q E → vs.length = ps.length)
    (hbody : ∀ (f : Addr) (cdv : Value) (A : Around) (outer : List Env) (s : Shared) (H : Hp) (vs : List V) (Q : VK) (E : XK), Room k (A.deeper (envOfC q (defScope st) s.heap.objs.size f cdv)) → sp vs H Q E →
      ∃ t, PSs (cxOf CX0 P w K mg base N q (defScope st) f cdv A outer s H E).nox (defBody st) t ∧ t { nx := fun _ H' => Q .non H', rt := Q } (start N vs) H) : OkM P w K mg base (k + 1) C m ps sp := by
  obtain ⟨f, fd, hm, F, hb⟩ := D.ex
  exact ⟨⟨f, fd, hm, hb, F.ok S len (hbody f)⟩, cl⟩
theorem MakeAt.ok (D : MakeAt K mg x C q st ps) (S : FnScope N ps (defScope st)) (len : ∀ vs H Q E, sp vs H Q E → vs.length = ps.length)
    (hbody : ∀ (f : Addr) (cdv : Value) (A : Around) (outer : List Env) (s : Shared) (H : Hp) (vs : List V) (Q : VK) (E : XK), Room k (A.deeper (envOfC q (defScope st) s.heap.objs.size f cdv)) → sp vs H Q E →
      ∃ t, PSs (cxOf CX0 P w K mg base N q (defScope st) f cdv A outer s H E).nox (defBody st) t ∧ t { nx := fun _ H' => Q .non H', rt := Q } (start N vs) H) : OkC P w K mg base (k + 1) x C ps sp := by
  obtain ⟨f, fd, hg, hm, F, hb⟩ := D.ex
  exact ⟨f, fd, hg, hm, hb, F.ok S len (hbody f)⟩
theorem MethAt.mk' {f : Addr} {oc : Value} {od an : Option Addr} {osl : Array (Option Value)} {kV doc pm cdv ct : Value} (a : PySem.W.findIn K (.ref C) m = some (some (.ref f))) (i : PySem.W.isFn K (.ref f) = true)
    (l : K.lookup f = some ⟨oc, od, .func (PySem.W.fnOf m q (defArgs st) (defBody st) (defScope st) .none kV doc pm an cdv ct), osl⟩) (c : PySem.W.codeIn K cdv q = true) (k : PySem.W.keepIn K (.ref f) = true)
    (b : ∀ (kV doc pm : Value) (an : Option Addr) (cdv ct : Value) (us : List Value), us.length = ps.length → bindArgs (PySem.W.fnOf m q (defArgs st) (defBody st) (defScope st) .none kV doc pm an cdv ct) ⟨us, []⟩ = pure (ps.zip us)) : MethAt K C m q st ps :=
  have F := fun_mk (st := st) l c k
  ⟨f, _, ⟨a, i, k⟩, F, F.binds b⟩
theorem MakeAt.mk' {h : Heap} {f : Addr} {oc : Value} {od an : Option Addr} {osl : Array (Option Value)} {kV doc pm cdv ct : Value} (X : K.In h) (G : h.Ns mainGlobals mg) (g : PySem.W.nsIn K mainGlobals x = some (some (.ref C)))
    (mk : PySem.W.makesIn K C = true) (kc : PySem.W.keepIn K (.ref C) = true) (a : PySem.W.findIn K (.ref C) "__init__" = some (some (.ref f))) (i : PySem.W.isFn K (.ref f) = true)
    (l : K.lookup f = some ⟨oc, od, .func (PySem.W.fnOf "__init__" q (defArgs st) (defBody st) (defScope st) .none kV doc pm an cdv ct), osl⟩) (c : PySem.W.codeIn K cdv q = true) (k : PySem.W.keepIn K (.ref f) = true)
    (b : ∀ (kV doc pm : Value) (an : Option Addr) (cdv ct : Value) (us : List Value), us.length = ps.length → bindArgs (PySem.W.fnOf "__init__" q (defArgs st) (defBody st) (defScope st) .none kV doc pm an cdv ct) ⟨us, []⟩ = pure (ps.zip us)) : MakeAt K mg x C q st ps :=
  have F := fun_mk (st := st) l c k
  ⟨f, _, PySem.W.mg_of X G g, ⟨mk, a, i, kc⟩, F, F.binds b⟩
end
def tFldG (C : Addr) (f : Str) (ta : TE) : TE := fun σ H Q => ta σ H fun x H1 => ∃ a dx fs v, x = .ref a ∧ H1 a = some (.ins C dx fs) ∧ fs.lookup f = some v ∧ Q v H1
def sFldG (C : Addr) (f : Str) (ta tv : TE) : TS := fun D σ H => tv σ H fun y H1 => ta σ H1 fun x H2 => ∃ a dx fs, x = .ref a ∧ H2 a = some (.ins C dx fs) ∧ fs.length < 1000 ∧ ∀ H', Mu H2 a (.ins C dx (putF f y fs)) H' → D.nx σ H'
def tMethG (C : Addr) (m : Str) (sp : Sp) (ta : TE) (t : TA) : TE := fun σ H Q => ta σ H fun x H1 => ∃ a dx fs, x = .ref a ∧ H1 a = some (.ins C dx fs) ∧ fs.lookup m = none ∧ t σ H1 fun vs H2 => sp (x :: vs) H2 Q E0
def tMakeG (C : Addr) (sp : Sp) (t : TA) : TE := fun σ H Q => t σ H fun vs H1 => ∀ x dx H', H1 x = none → H1 dx = none → Same H1 H' → H' x = some (.ins C dx []) → H' dx = some (.own x) → sp (.ref x :: vs) H' (fun v H2 => v = .non ∧ Q (.ref x) H2) E0
section
variable {X : Cx} {k n : Nat} {ps : List Str} {sp : Sp} {x m f : Str} {p pos pos' apos : Pos} {o e value : Expr} {es : List Expr} {t : TA} {ta tv : TE} {C : Addr}
theorem pe_fldG (c : Cls X.K C) (nn : NoAttr X.K C f) (he : PE X e ta) (hb : attributeBase e f X.env (eval e X.env) = eval e X.env := by rfl) : PE X (.Attribute e f pos) (tFldG C f ta) := by
  intro pins s σ H Q I h
  refine attr_of hb (thn (he pins s σ H _ I h) fun u s1 ⟨x, H1, I1, rx, a, dx, fs, v, ex, ea, l, q⟩ => ?_)
  subst ex
  obtain rfl : u = Value.ref a := rx
  exact getattr_ok I1 ea c nn l fun u' s2 I2 ru => ⟨v, H1, I2, ru, q⟩
theorem ps_fldG (c : Cls X.K C) (nn : NoAttr X.K C f) (ha : PE X o ta) (hv : PE X value tv) (hs : swapsWith value (some (.Attribute o f pos')) pos.line X.env = pure false := by rfl) : PS X (.Assign [.Attribute o f pos'] value pos) (sFldG C f ta tv) := by
  intro pins s σ H D I h
  refine plainObj_wpAny_Assign_Attribute (thn (hv pins s σ H _ I h) fun u s1 ⟨y, H1, I1, ry, q⟩ => thn (ha pins s1 σ H1 _ I1 q) fun ov s2 ⟨x, H2, I2, rx, a, dx, fs, ex, ea, l, q2⟩ => ?_) hs
  subst ex
  obtain rfl : ov = Value.ref a := rx
  exact setattr_ok I2 ea c nn l ry fun s3 I3 => ⟨σ, _, I3, q2 _ .mk'⟩
theorem make_any {H1 : Hp} {Q : VK} {vs : List V} (h : ∀ x dx H', H1 x = none → H1 dx = none → Same H1 H' → H' x = some (.ins C dx []) → H' dx = some (.own x) → sp (.ref x :: vs) H' (fun v H2 => v = .non ∧ Q (.ref x) H2) E0) :
    ∀ x dx, H1 x = none → H1 dx = none → dx ≠ x → sp (.ref x :: (vs ++ [])) (upd (upd H1 dx (.own x)) x (.ins C dx [])) (fun v H2 => v = .non ∧ Q (.ref x) H2) E0 := fun x dx hx hdx ne => by
  rw [List.append_nil]
  exact h x dx _ hx hdx (fun c u hc => by rw [upd_ne (ne_of_none hc hx), upd_ne (ne_of_none hc hdx)]; exact hc) upd_same (by rw [upd_ne ne, upd_same])
theorem pe_make0G (G : OkC X.prog X.w X.K X.mg X.base k x C ps sp) (hr : Room n X.A) (hg : Gl X x) (hk : k + 1 ≤ n := by omega) (hdb : (x == ("__debug__" : Str)) = false := by decide) :
    PE X (.Call (.Name x p) [] [] pos) (tMakeG C sp tNil) := by
  obtain ⟨f, fd, hm, M, hb, F⟩ := G.ex
  intro pins s σ H Q I h
  refine wpAny_Call_Name_kw (ld_glob I hg hm ?_ hdb)
  exact PySem.W.callWith_K0 I.kIn M.kp (run_make (dvs := []) (ds := []) (us := []) M F (hr.mono hk) hb .nil pass0 I .nil (make_any h))
end
end L2

set_option Elab.async false
set_option linter.all false
set_option maxRecDepth 100000
set_option maxHeartbeats 4000000
/-! our own rules: d.values(), d.items() walked, d.get(k, x), over the abstract heap -/
namespace L2
open PySem PySem.Spec PyProof.Rows
def tUnf (nf : Addr → Prop) (t : TE) : TE := fun σ H Q => t σ H fun v H' => ∃ d o kvs, nf d ∧ H' d = some (.frz o (.dK kvs)) ∧ Q v (upd H' d (.dK kvs))
def tDGetDG (td ty tx : TE) : TE := fun σ H Q => td σ H fun x H1 => ∃ a, x = .ref a ∧ (∃ kvs, H1 a = some (.dK kvs)) ∧ ty σ H1 fun y H2 => tx σ H2 fun z H3 => ∃ kvs k, H3 a = some (.dK kvs) ∧ keyOf y = some k ∧ Q ((valV kvs k).getD z) H3
end L2

set_option Elab.async false
set_option linter.all false
set_option maxRecDepth 100000
set_option maxHeartbeats 4000000
/-! our own rules: dict(list of pairs) over the abstract heap -/
namespace L2
open PySem PySem.Spec PyProof.Rows
section
variable {prog : Program} {w : World}
inductive ItP (prog : Program) (w : World) (h : Heap) (d it : Addr) : List Value → List (Key × Value) → Prop
  | nil : ItP prog w h d it [] []
  | cons {a : Addr} {o : Obj} {key v : Value} {k : Key} {n : Nat} {xs : List Value} {ps : List (Key × Value)} : h.get? a = some o → o.cls = .type "tuple" → o.data = .seq #[key, v] n → (mixKind prog w).is k key = true → a ≠ d → a ≠ it → ItP prog w h d it xs ps → ItP prog w h d it (.ref a :: xs) ((k, v) :: ps)
theorem ItP.keep {h h' : Heap} {d it : Addr} (g : ∀ b o, b ≠ d → b ≠ it → h.get? b = some o → h'.get? b = some o) : ∀ {xs : List Value} {ps : List (Key × Value)}, ItP prog w h d it xs ps → ItP prog w h' d it xs ps
  | _, _, .nil => .nil
  | _, _, .cons h1 h2 h3 h4 h5 h6 r => .cons (g _ _ h5 h6 h1) h2 h3 h4 h5 h6 (r.keep g)
end
inductive PrK (H : Hp) : List V → List (Key × V) → Prop
  | nil : PrK H [] []
  | cons {a : Addr} {k : Key} {v : V} {xs : List V} {ps : List (Key × V)} : H a = some (.tup [kV k, v]) → PrK H xs ps → PrK H (.ref a :: xs) ((k, v) :: ps)
def putAll (ps : List (Key × V)) : List (Key × V) := ps.foldl (fun c p => putK c p.1 p.2) []
def rDictP : List V → Hp → VK → Prop := fun xs H Q => ∃ (p : Addr) (ys : List V) (ps : List (Key × V)), xs = [.ref p] ∧ H p = some (.lst ys) ∧ PrK H ys ps ∧ ps.length < 1000 ∧ ∀ l H', H l = none → Same H H' → H' l = some (.dK (putAll ps)) → Q (.ref l) H'
end L2

set_option Elab.async false
set_option linter.all false
set_option maxRecDepth 100000
set_option maxHeartbeats 4000000
/-! our own rules: sorted of pairs of whole numbers: some order of the same -/
namespace L2
open PySem PySem.Spec PyProof.Rows PySem.W
def Gd {α : Type} (N : Nat) (R : α → Prop) : KasT α → Prop
  | .ret a => R a
  | .ask i j k => i < N ∧ j < N ∧ ∀ b, Gd N R (k b)
theorem Gd.bind {α β : Type} {N : Nat} {R : α → Prop} {S : β → Prop} {f : α → KasT β} (hf : ∀ a, R a → Gd N S (f a)) : ∀ {t : KasT α}, Gd N R t → Gd N S (t.bind f)
  | .ret a, h => hf a h
  | .ask i j k, ⟨h1, h2, h3⟩ => ⟨h1, h2, fun b => Gd.bind hf (h3 b)⟩
def Ord (n : Nat) (p : Array Nat) : Prop := p.Perm (List.toArray (List.range n))
theorem Ord.size {n : Nat} {p : Array Nat} (h : Ord n p) : p.size = n := by have := h.size_eq; simpa using this
theorem Ord.get {n : Nat} {p : Array Nat} (h : Ord n p) (hn : 0 < n) (i : Nat) : p.getD i 0 < n := by
  by_cases c : i < p.size
  · have e : p.getD i 0 = p[i] := by simp [Array.getD, c]
    rw [e]
    have hm : p[i] ∈ p.toList := by simp
    have := (Array.perm_iff_toList_perm.mp h).mem_iff.mp hm
    simpa using this
  · have e : p.getD i 0 = 0 := by simp [Array.getD, c]
    rw [e]; exact hn
section
variable {N : Nat} (hN : 0 < N)
include hN
end
section
variable {prog : Program} {w : World} {A : Around} {E : Value → Shared → Prop} {s : Shared}
end
def rSortT : List V → Hp → VK → Prop := fun xs H Q => ∃ (p : Addr) (ys : List V), xs = [.ref p] ∧ H p = some (.lst ys) ∧ (∀ y ∈ ys, ∃ a i j, y = .ref a ∧ H a = some (.tup [.int i, .int j])) ∧ ys.length < 64 ∧
  ∀ D H' zs, H D = none → Same H H' → H' D = some (.lst zs) → zs.Perm ys → Q (.ref D) H'
end L2

set_option Elab.async false
set_option linter.all false
set_option maxRecDepth 100000
set_option maxHeartbeats 4000000
/-! our own rules: is True, comprehensions over a dict's values and items, comprehensions whose items change the heap -/
namespace L2
open PySem PySem.Spec PyProof.Rows
def WM (xs : List V) (D : Addr) (Pv : Nat → List V → St → Hp → Prop) (i m : Nat) (σ : St) (H : Hp) : Prop := m = xs.length - i ∧ i ≤ xs.length ∧ ∃ ys, H D = some (.lst ys) ∧ ys.length ≤ i ∧ Pv i ys σ H
def PutM (xs : List V) (D : Addr) (Pv : Nat → List V → St → Hp → Prop) (i : Nat) (σ2 : St) (v : V) (H3 : Hp) : Prop := ∃ ys, H3 D = some (.lst ys) ∧ ys.length < sizeLine ∧ ∃ m', m' < xs.length - i ∧ WM xs D Pv (i + 1) m' σ2 (upd H3 D (.lst (ys ++ [v])))
def SkipM (xs : List V) (D : Addr) (Pv : Nat → List V → St → Hp → Prop) (i : Nat) (σ2 : St) (H2 : Hp) : Prop := ∃ m', m' < xs.length - i ∧ WM xs D Pv (i + 1) m' σ2 H2
theorem putM {xs : List V} {D : Addr} {Pv : Nat → List V → St → Hp → Prop} {i : Nat} {σ2 : St} {v : V} {H3 : Hp} {ys : List V} (hi : i < xs.length) (sz : xs.length < sizeLine) (hy : H3 D = some (.lst ys)) (ly : ys.length ≤ i) (h : ∀ H5, Mu H3 D (.lst (ys ++ [v])) H5 → Pv (i + 1) (ys ++ [v]) σ2 H5) : PutM xs D Pv i σ2 v H3 :=
  ⟨ys, hy, by omega, xs.length - (i + 1), by omega, rfl, hi, _, upd_same, by rw [List.length_append, List.length_singleton]; omega, h _ .mk'⟩
end L2

set_option Elab.async false
set_option linter.all false
set_option maxRecDepth 100000
set_option maxHeartbeats 4000000
/-! our own rules: list(a dict), a pair of numbers in a list of such pairs, over the abstract heap -/
namespace L2
open PySem PySem.Spec PyProof.Rows
section
variable {X : Cx}
def rListK : List V → Hp → VK → Prop := fun xs H Q => ∃ (d : Addr) (kvs : List (Key × V)), xs = [.ref d] ∧ H d = some (.dK kvs) ∧ kvs.length < 1000 ∧ ∀ l H', H l = none → Same H H' → H' l = some (.lst (kvs.map fun kv => kV kv.1)) → Q (.ref l) H'
end
end L2
namespace L2
open PySem PySem.Spec PyProof.Rows
def pairO (i j : Int) : Option HO → Bool
  | some (.tup [.int a, .int b]) => decide (a = i) && decide (b = j)
  | _ => false
def pairV (H : Hp) (i j : Int) : V → Bool
  | .ref b => pairO i j (H b)
  | _ => false
def rInP : R2 := fun x y H Q => ∃ a p i j xs, x = .ref a ∧ y = .ref p ∧ H a = some (.tup [.int i, .int j]) ∧ H p = some (.lst xs) ∧ (∀ v ∈ xs, ∃ b i' j', v = .ref b ∧ H b = some (.tup [.int i', .int j'])) ∧ Q (.bl (xs.any (pairV H i j))) H
def rIntB : List V → Hp → VK → Prop := fun xs H Q => ∃ k, xs = [.bl k] ∧ Q (.int (if k = true then 1 else 0)) H
end L2

set_option Elab.async false
set_option linter.all false
set_option maxRecDepth 100000
set_option maxHeartbeats 4000000
/-! our own rules: list.sort of any length: runs, gallops, merges -/
namespace L2
namespace Tim
open PySem PySem.Spec PyProof.Rows PySem.W
abbrev Kd : Type := PyProof.Rows.Keyed
def g (xs : Array Kd) (i : Nat) : Kd := xs.getD i (Value.none, Value.none)
theorem g_some {xs : Array Kd} {i : Nat} (h : i < xs.size) : xs[i]? = some (g xs i) := by
  unfold g; simp [Array.getD, h]
theorem g_of {xs ys : Array Kd} {i j : Nat} (h : xs[i]? = ys[j]?) : g xs i = g ys j := by
  unfold g; rw [Array.getD_eq_getD_getElem?, Array.getD_eq_getD_getElem?, h]
theorem g_mem {xs : Array Kd} {i : Nat} (h : i < xs.size) : g xs i ∈ xs.toList := by
  have e : g xs i = xs[i] := by unfold g; simp [Array.getD, h]
  rw [e]; simp
structure Env (M : Model) (A : Around) (s : Shared) (κ : SortKind) (D : Kd → Prop) (L : Kd → Kd → Bool) : Prop where
  ask : ∀ x y, D x → D y → wpAny M A (keyLt' κ x.1 y.1) (fun b s' => s' = s ∧ b = L x y) (fun _ _ => False) s
  asym : ∀ x y, L x y = true → L y x = false
  tr : ∀ x y z, L y x = false → L z y = false → L z x = false
abbrev S (κ : SortKind) (xs : Array Kd) (p : Array (Nat × Nat × Nat)) (m : Nat) : SortSt := SortSt.mk' κ xs p m none
section
variable {M : Model} {A : Around} {E : Value → Shared → Prop} {s : Shared} {κ : SortKind} {D : Kd → Prop} {L : Kd → Kd → Bool}
theorem Env.rfl' (V : Env M A s κ D L) (x : Kd) : L x x = false := by
  cases h : L x x with
  | false => rfl
  | true => have := V.asym x x h; rw [h] at this; cases this
theorem Env.lt (V : Env M A s κ D L) {x y : Kd} (hx : D x) (hy : D y) {xs : Array Kd} {p : Array (Nat × Nat × Nat)} {m : Nat} {Q : Option Bool → SortSt → Prop} (h : Q (some (L x y)) (S κ xs p m)) : wpS M A E s (lt' x y) Q (S κ xs p m) := by
  rw [lt'_eq]
  refine wpS_bind (wpS_get ?_)
  refine wpS_bind (wpS_lift (wpAny_attempt (wpAny_mono (V.ask x y hx hy) (fun b s' hb => ?_) fun _ _ hF => hF.elim)))
  obtain ⟨rfl, rfl⟩ := hb
  exact ⟨rfl, wpS_pure h⟩
theorem elemW {a : Array Kd} {i : Nat} (hi : i < a.size) {st : SortSt} {Q : Kd → SortSt → Prop} (h : Q (g a i) st) : wpS M A E s (elem' a i) Q st := by
  rw [elem'_eq, g_some hi]
  exact wpS_pure h
theorem Env.ltAt (V : Env M A s κ D L) {i j : Nat} {xs : Array Kd} {p : Array (Nat × Nat × Nat)} {m : Nat} {Q : Option Bool → SortSt → Prop} (hD : ∀ x ∈ xs.toList, D x) (hi : i < xs.size) (hj : j < xs.size) (h : Q (some (L (g xs i) (g xs j))) (S κ xs p m)) : wpS M A E s (ltAt' i j) Q (S κ xs p m) := by
  rw [ltAt'_eq]
  refine wpS_bind (wpS_get ?_)
  exact wpS_bind (elemW hi (wpS_bind (elemW hj (V.lt (hD _ (g_mem hi)) (hD _ (g_mem hj)) h))))
def gallop' : Bool → Kd → Array Kd → Nat → Nat → Nat → StateT SortSt Sem (Option Nat) := sortPriv% PySem.Builtin.gallop
theorem gallop'_eq (left : Bool) (key : Kd) (arr : Array Kd) (base n hint : Nat) : gallop' left key arr base n hint = (do
  let by' (i : Nat) : StateT SortSt Sem (Option Bool) := do
    let x ← elem' arr (base + i)
    if left then lt' x key else return (← lt' key x).map (!·)
  let mut la := 0
  let mut o := 1
  let mut lo := 0
  let mut hi := 0
  let some right ← by' hint | return none
  if right then
    let mx := n - hint
    for _ in [0:n] do
      if o ≥ mx then break
      let some mo ← by' (hint + o) | return none
      if !mo then break
      la := o
      o := 2 * o + 1
    lo := hint + la + 1
    hi := hint + min o mx
  else
    let mx := hint + 1
    for _ in [0:n] do
      if o ≥ mx then break
      let some fo ← by' (hint - o) | return none
      if fo then break
      la := o
      o := 2 * o + 1
    lo := hint + 1 - min o mx
    hi := hint - la
  for _ in [0:n] do
    if lo ≥ hi then break
    let m := lo + (hi - lo) / 2
    let some mo ← by' m | return none
    if mo then lo := m + 1 else hi := m
  return some hi) := rfl
def bey (L : Kd → Kd → Bool) (left : Bool) (key : Kd) (arr : Array Kd) (base i : Nat) : Bool := if left then L (g arr (base + i)) key else !L key (g arr (base + i))
theorem Env.gallop (V : Env M A s κ D L) {left : Bool} {key : Kd} {arr : Array Kd} {base n hint : Nat} {xs : Array Kd} {p : Array (Nat × Nat × Nat)} {m : Nat} {Q : Option Nat → SortSt → Prop} (hk : D key) (hD : ∀ x ∈ arr.toList, D x) (hn : base + n ≤ arr.size) (hh : hint < n)
    (mono : ∀ i j, i ≤ j → j < n → L (g arr (base + j)) (g arr (base + i)) = false)
    (h : ∀ k, k ≤ n → (∀ i, i < k → bey L left key arr base i = true) → (∀ i, k ≤ i → i < n → bey L left key arr base i = false) → Q (some k) (S κ xs p m)) : wpS M A E s (gallop' left key arr base n hint) Q (S κ xs p m) := by
  rw [gallop'_eq]
  extract_lets by' la0 o0 jp mx1 mx2
  have B : ∀ {i : Nat} {Q : Option Bool → SortSt → Prop}, i < n → Q (some (bey L left key arr base i)) (S κ xs p m) → wpS M A E s (by' i) Q (S κ xs p m) := by
    intro i Q hi hq
    have hi' : base + i < arr.size := by omega
    refine wpS_bind (elemW hi' ?_)
    unfold bey at hq
    cases left with
    | true => exact V.lt (hD _ (g_mem hi')) hk hq
    | false => exact wpS_bind (V.lt hk (hD _ (g_mem hi')) (wpS_pure hq))
  have mo : ∀ i j, i ≤ j → j < n → bey L left key arr base j = true → bey L left key arr base i = true := by
    intro i j hij hj hb
    have e := mono i j hij hj
    unfold bey at hb ⊢
    cases left with
    | true =>
      simp only [if_true] at hb ⊢
      cases c : L (g arr (base + i)) key with
      | true => rfl
      | false =>
        have := V.tr _ _ _ c e
        rw [this] at hb
        exact hb
    | false =>
      simp only [Bool.false_eq_true, if_false, Bool.not_eq_true'] at hb ⊢
      exact V.tr _ _ _ e hb
  have J : ∀ la o lo hi, lo ≤ hi → hi ≤ n → (∀ i, i < lo → bey L left key arr base i = true) → (∀ i, hi ≤ i → i < n → bey L left key arr base i = false) → wpS M A E s (jp () la o lo hi) Q (S κ xs p m) := by
    intro la o lo hi h1 h2 h3 h4
    refine wpS_bind (wpS_mono (wpS_forRange (I := fun t c st => st = S κ xs p m ∧ ∃ l r, c = (none, l, r) ∧ l ≤ r ∧ r ≤ n ∧ r - l ≤ n - t ∧ (∀ i, i < l → bey L left key arr base i = true) ∧ (∀ i, r ≤ i → i < n → bey L left key arr base i = false))
      (Q := fun c st => st = S κ xs p m ∧ ∃ r, c = (none, r, r) ∧ r ≤ n ∧ (∀ i, i < r → bey L left key arr base i = true) ∧ (∀ i, r ≤ i → i < n → bey L left key arr base i = false)) ?_ ?_ ?_) ?_)
    · rintro t c st - ht ⟨rfl, l, r, rfl, a1, a2, a3, a4, a5⟩
      dsimp only
      by_cases c : l ≥ r
      · rw [if_pos c]
        have e : l = r := by omega
        subst e
        exact wpS_pure ⟨rfl, l, rfl, a2, a4, a5⟩
      · rw [if_neg c]
        refine wpS_bind (B (by omega) ?_)
        cases b : bey L left key arr base (l + (r - l) / 2) with
        | true => exact wpS_pure ⟨rfl, _, _, rfl, by omega, a2, by omega, fun i hi => mo _ _ (by omega) (by omega) b, a5⟩
        | false =>
          refine wpS_pure ⟨rfl, _, _, rfl, by omega, by omega, by omega, a4, fun i hi hin => ?_⟩
          cases b2 : bey L left key arr base i with
          | false => rfl
          | true => rw [mo _ _ hi hin b2] at b; cases b
    · rintro c st ⟨rfl, l, r, rfl, a1, a2, a3, a4, a5⟩
      have e : l = r := by omega
      subst e
      exact ⟨rfl, l, rfl, a2, a4, a5⟩
    · exact ⟨rfl, lo, hi, rfl, h1, h2, by omega, h3, h4⟩
    · rintro c st ⟨rfl, r, rfl, a2, a4, a5⟩
      exact wpS_pure (h r a2 a4 a5)
  refine wpS_bind (B hh ?_)
  clear_value by' jp
  cases b : bey L left key arr base hint with
  | true =>
    dsimp only [if_true]
    refine wpS_bind (wpS_mono (wpS_forRange (I := fun t c st => st = S κ xs p m ∧ ∃ l, c = (none, l, 2 * l + 1) ∧ t ≤ l ∧ l < n - hint ∧ bey L left key arr base (hint + l) = true)
      (Q := fun c st => st = S κ xs p m ∧ ∃ l, c = (none, l, 2 * l + 1) ∧ l < n - hint ∧ bey L left key arr base (hint + l) = true ∧ (2 * l + 1 < n - hint → bey L left key arr base (hint + (2 * l + 1)) = false)) ?_ ?_ ?_) ?_)
    · rintro t c st - ht ⟨rfl, l, rfl, a1, a2, a3⟩
      dsimp only
      by_cases c : 2 * l + 1 ≥ mx1
      · rw [if_pos c]
        exact wpS_pure ⟨rfl, l, rfl, a2, a3, fun z => absurd z (Nat.not_lt.mpr c)⟩
      · rw [if_neg c]
        have c : 2 * l + 1 < n - hint := Nat.not_le.mp c
        refine wpS_bind (B (by omega) ?_)
        cases b : bey L left key arr base (hint + (2 * l + 1)) with
        | false => exact wpS_pure ⟨rfl, l, rfl, a2, a3, fun _ => b⟩
        | true => exact wpS_pure ⟨rfl, 2 * l + 1, rfl, by omega, by omega, b⟩
    · rintro c st ⟨rfl, l, rfl, a1, a2, a3⟩
      exact absurd a1 (by omega)
    · exact ⟨rfl, 0, rfl, by omega, by omega, b⟩
    · rintro c st ⟨rfl, l, rfl, a1, a2, a3⟩
      show wpS M A E s (jp () l (2 * l + 1) (hint + l + 1) (hint + min (2 * l + 1) (n - hint))) Q _
      refine J _ _ _ _ (by omega) (by omega) (fun i hi => mo _ _ (by omega) (by omega) a2) fun i hi hin => ?_
      by_cases c : 2 * l + 1 < n - hint
      · have := a3 c
        cases b2 : bey L left key arr base i with
        | false => rfl
        | true => rw [mo _ _ (by omega) hin b2] at this; cases this
      · omega
  | false =>
    dsimp only
    rw [if_neg (by decide)]
    refine wpS_bind (wpS_mono (wpS_forRange (I := fun t c st => st = S κ xs p m ∧ ∃ l, c = (none, l, 2 * l + 1) ∧ t ≤ l ∧ l < hint + 1 ∧ bey L left key arr base (hint - l) = false)
      (Q := fun c st => st = S κ xs p m ∧ ∃ l, c = (none, l, 2 * l + 1) ∧ l < hint + 1 ∧ bey L left key arr base (hint - l) = false ∧ (2 * l + 1 < hint + 1 → bey L left key arr base (hint - (2 * l + 1)) = true)) ?_ ?_ ?_) ?_)
    · rintro t c st - ht ⟨rfl, l, rfl, a1, a2, a3⟩
      dsimp only
      by_cases c : 2 * l + 1 ≥ mx2
      · rw [if_pos c]
        exact wpS_pure ⟨rfl, l, rfl, a2, a3, fun z => absurd z (Nat.not_lt.mpr c)⟩
      · rw [if_neg c]
        have c : 2 * l + 1 < hint + 1 := Nat.not_le.mp c
        refine wpS_bind (B (by omega) ?_)
        cases b : bey L left key arr base (hint - (2 * l + 1)) with
        | true => exact wpS_pure ⟨rfl, l, rfl, a2, a3, fun _ => b⟩
        | false => exact wpS_pure ⟨rfl, 2 * l + 1, rfl, by omega, by omega, b⟩
    · rintro c st ⟨rfl, l, rfl, a1, a2, a3⟩
      exact absurd a1 (by omega)
    · exact ⟨rfl, 0, rfl, by omega, by omega, b⟩
    · rintro c st ⟨rfl, l, rfl, a1, a2, a3⟩
      show wpS M A E s (jp () l (2 * l + 1) (hint + 1 - min (2 * l + 1) (hint + 1)) (hint - l)) Q _
      refine J _ _ _ _ (by omega) (by omega) (fun i hi => ?_) fun i hi hin => ?_
      · by_cases c : 2 * l + 1 < hint + 1
        · exact mo _ _ (by omega) (by omega) (a3 c)
        · omega
      · cases b2 : bey L left key arr base i with
        | false => rfl
        | true => rw [mo _ _ hi hin b2] at a2; cases a2
end
end Tim
end L2

set_option Elab.async false
set_option linter.all false
set_option maxRecDepth 100000
set_option maxHeartbeats 4000000
namespace L2
namespace Tim
open PySem PySem.Spec PyProof.Rows PySem.W
def Ri (L : Kd → Kd → Bool) (l : List Kd) : Prop := l.Pairwise fun x y => L y x = false
theorem mem_td {a : Array Kd} {i k : Nat} {x : Kd} (h : x ∈ (a.toList.drop i).take k) : ∃ t, i ≤ t ∧ t < i + k ∧ t < a.size ∧ x = g a t := by
  obtain ⟨n, hn, e⟩ := List.getElem_of_mem h
  simp only [List.length_take, List.length_drop, Array.length_toList] at hn
  refine ⟨i + n, by omega, by omega, by omega, ?_⟩
  rw [← e]
  have : i + n < a.size := by omega
  simp [g, Array.getD, this]
theorem mem_dr {a : Array Kd} {i : Nat} {x : Kd} (h : x ∈ a.toList.drop i) : ∃ t, i ≤ t ∧ t < a.size ∧ x = g a t := by
  have h' : x ∈ (a.toList.drop i).take a.size := by rw [List.take_of_length_le (by simp)]; exact h
  obtain ⟨t, h1, h2, h3, h4⟩ := mem_td h'
  exact ⟨t, h1, h3, h4⟩
theorem mem_tk {a : Array Kd} {i : Nat} {x : Kd} (h : x ∈ a.toList.take i) : ∃ t, t < i ∧ t < a.size ∧ x = g a t := by
  obtain ⟨t, h1, h2, h3, h4⟩ := mem_td (a := a) (i := 0) (k := i) (by simpa using h)
  exact ⟨t, by omega, h3, h4⟩
theorem Ri.g {L : Kd → Kd → Bool} {a : Array Kd} (hr : ∀ x, L x x = false) (h : Ri L a.toList) {i j : Nat} (hij : i ≤ j) (hj : j < a.size) : L (g a j) (g a i) = false := by
  by_cases e : i = j
  · subst e; exact hr _
  · have := List.pairwise_iff_getElem.mp h i j (by simp; omega) (by simpa using hj) (by omega)
    have hi : i < a.size := by omega
    simpa [Tim.g, Array.getD, hi, hj] using this
structure MI (L : Kd → Kd → Bool) (a b o : List Kd) (i j : Nat) : Prop where
  ra : Ri L (o ++ a.drop i)
  rb : Ri L (o ++ b.drop j)
  pm : (o ++ a.drop i ++ b.drop j).Perm (a ++ b)
section
variable {L : Kd → Kd → Bool} {a b o : List Kd} {i j : Nat}
theorem MI.tb (h : MI L a b o i j) (k : Nat) (hk : ∀ y ∈ (b.drop j).take k, ∀ x ∈ a.drop i, L x y = false) : MI L a b (o ++ (b.drop j).take k) i (j + k) := by
  have e : (b.drop j).take k ++ b.drop (j + k) = b.drop j := by rw [← List.drop_drop]; exact List.take_append_drop k _
  refine ⟨?_, ?_, ?_⟩
  · have h1 := h.ra
    have h2 := h.rb
    unfold Ri at *
    rw [← e] at h2
    rw [List.pairwise_append] at h1 h2 ⊢
    rw [List.pairwise_append] at h2 ⊢
    refine ⟨⟨h1.1, h2.2.1.1, fun x hx y hy => h2.2.2 x hx y (List.mem_append_left _ hy)⟩, h1.2.1, fun x hx y hy => ?_⟩
    rcases List.mem_append.mp hx with hx | hx
    · exact h1.2.2 x hx y hy
    · exact hk x hx y hy
  · rw [List.append_assoc, e]; exact h.rb
  · refine List.Perm.trans ?_ h.pm
    rw [show o ++ a.drop i ++ b.drop j = o ++ a.drop i ++ ((b.drop j).take k ++ b.drop (j + k)) by rw [e]]
    simp only [List.append_assoc]
    refine List.Perm.append_left _ ?_
    rw [← List.append_assoc, ← List.append_assoc]
    exact List.Perm.append_right _ List.perm_append_comm
theorem MI.ta (h : MI L a b o i j) (k : Nat) (hk : ∀ y ∈ (a.drop i).take k, ∀ x ∈ b.drop j, L x y = false) : MI L a b (o ++ (a.drop i).take k) (i + k) j := by
  have e : (a.drop i).take k ++ a.drop (i + k) = a.drop i := by rw [← List.drop_drop]; exact List.take_append_drop k _
  refine ⟨?_, ?_, ?_⟩
  · rw [List.append_assoc, e]; exact h.ra
  · have h1 := h.rb
    have h2 := h.ra
    unfold Ri at *
    rw [← e] at h2
    rw [List.pairwise_append] at h1 h2 ⊢
    rw [List.pairwise_append] at h2 ⊢
    refine ⟨⟨h1.1, h2.2.1.1, fun x hx y hy => h2.2.2 x hx y (List.mem_append_left _ hy)⟩, h1.2.1, fun x hx y hy => ?_⟩
    rcases List.mem_append.mp hx with hx | hx
    · exact h1.2.2 x hx y hy
    · exact hk x hx y hy
  · refine List.Perm.trans ?_ h.pm
    rw [show o ++ a.drop i ++ b.drop j = o ++ ((a.drop i).take k ++ a.drop (i + k)) ++ b.drop j by rw [e]]
    simp only [List.append_assoc]
    exact List.Perm.refl _
end
def mergeLo' : Array Kd → Array Kd → StateT SortSt Sem (Array Kd) := sortPriv% PySem.Builtin.mergeLo
def setG' : Nat → StateT SortSt Sem Unit := sortPriv% PySem.Builtin.setMinGallop
theorem setG'_eq (n : Nat) : setG' n = modify fun s => SortSt.mk' (kindOf s) (arrOf s) (pendingOf s) n (failedOf s) := rfl
theorem ext_all (a : Array Kd) (i : Nat) : (a.extract i a.size).toList = a.toList.drop i := by
  rw [Array.toList_extract, List.extract_eq_take_drop, List.take_of_length_le (by simp)]
theorem ext_k (a : Array Kd) (i k : Nat) : (a.extract i (i + k)).toList = (a.toList.drop i).take k := by
  rw [Array.toList_extract, List.extract_eq_take_drop, Nat.add_sub_cancel_left]
theorem take1 {a : Array Kd} {i : Nat} (hi : i < a.size) : (a.toList.drop i).take 1 = [g a i] := by
  rw [List.drop_eq_getElem_cons (by simpa using hi)]
  simp [g, Array.getD, hi]
abbrev Lo0 := Option (Array Kd) × Array Kd × Nat × Nat × Nat
abbrev Lo1 := Option (Array Kd) × Array Kd × Nat × Nat × Nat × Nat
abbrev Lo2 := Option (Array Kd) × Array Kd × Nat × Nat × Nat × Nat × Nat
def loFin (a b o : Array Kd) (i j : Nat) : Array Kd := o ++ a.extract i a.size ++ b.extract j b.size
def loLa (a b o : Array Kd) (i j : Nat) : Array Kd := o ++ b.extract j b.size ++ a.extract i a.size
def loC (a b : Array Kd) (mg ac bc i : Nat) (o : Array Kd) (j : Nat) : StateT SortSt Sem (ForInStep Lo2) := do
  let x ← elem' a i
  if (i + 1 + 1 == a.size) = true then pure (.done (some (loLa a b (o.push x) (i + 1) j), o.push x, i + 1, j, mg, ac, bc))
  else if (decide (ac < 7) && decide (bc < 7)) = true then pure (.done (none, o.push x, i + 1, j, mg, ac, bc))
  else pure (.yield (none, o.push x, i + 1, j, mg, ac, bc))
def loB (a b : Array Kd) (mg ac bc j : Nat) (o : Array Kd) (i : Nat) : StateT SortSt Sem (ForInStep Lo2) := do
  let x ← elem' b j
  if (j + 1 == b.size) = true then pure (.done (some (loFin a b (o.push x) i (j + 1)), o.push x, i, j + 1, mg, ac, bc))
  else do
    let y ← elem' a i
    let z ← gallop' true y b (j + 1) (b.size - (j + 1)) 0
    match z with
    | some k =>
      if k > 0 then
        if (j + 1 + k == b.size) = true then pure (.done (some (loFin a b (o.push x ++ b.extract (j + 1) (j + 1 + k)) i (j + 1 + k)), o.push x ++ b.extract (j + 1) (j + 1 + k), i, j + 1 + k, mg, ac, k))
        else loC a b mg ac k i (o.push x ++ b.extract (j + 1) (j + 1 + k)) (j + 1 + k)
      else loC a b mg ac k i (o.push x) (j + 1)
    | _ => pure (.done (some (loFin a b (o.push x) i (j + 1)), o.push x, i, j + 1, mg, ac, bc))
def loA (a b o : Array Kd) (i j ac bc mg : Nat) : StateT SortSt Sem (ForInStep Lo2) := do
  setG' mg
  let x ← elem' b j
  let z ← gallop' false x a i (a.size - i) 0
  match z with
  | some k =>
    if k > 0 then
      if (i + k + 1 == a.size) = true then pure (.done (some (loLa a b (o ++ a.extract i (i + k)) (i + k) j), o ++ a.extract i (i + k), i + k, j, mg, k, bc))
      else if (i + k == a.size) = true then pure (.done (some (loFin a b (o ++ a.extract i (i + k)) (i + k) j), o ++ a.extract i (i + k), i + k, j, mg, k, bc))
      else loB a b mg k bc j (o ++ a.extract i (i + k)) (i + k)
    else loB a b mg k bc j o i
  | _ => pure (.done (some (loFin a b o i j), o, i, j, mg, ac, bc))
def loF (a b : Array Kd) (mg : Nat) (c : Lo1) : StateT SortSt Sem (ForInStep Lo1) := do
  let x ← elem' b c.2.2.2.1
  let y ← elem' a c.2.2.1
  let z ← lt' x y
  match z with
  | some bw =>
    if bw = true then do
      let x ← elem' b c.2.2.2.1
      if (c.2.2.2.1 + 1 == b.size) = true then pure (.done (some (loFin a b (c.2.1.push x) c.2.2.1 (c.2.2.2.1 + 1)), c.2.1.push x, c.2.2.1, c.2.2.2.1 + 1, 0, c.2.2.2.2.2 + 1))
      else if c.2.2.2.2.2 + 1 ≥ mg then pure (.done (none, c.2.1.push x, c.2.2.1, c.2.2.2.1 + 1, 0, c.2.2.2.2.2 + 1))
      else pure (.yield (none, c.2.1.push x, c.2.2.1, c.2.2.2.1 + 1, 0, c.2.2.2.2.2 + 1))
    else do
      let x ← elem' a c.2.2.1
      if (c.2.2.1 + 1 + 1 == a.size) = true then pure (.done (some (loLa a b (c.2.1.push x) (c.2.2.1 + 1) c.2.2.2.1), c.2.1.push x, c.2.2.1 + 1, c.2.2.2.1, c.2.2.2.2.1 + 1, 0))
      else if c.2.2.2.2.1 + 1 ≥ mg then pure (.done (none, c.2.1.push x, c.2.2.1 + 1, c.2.2.2.1, c.2.2.2.2.1 + 1, 0))
      else pure (.yield (none, c.2.1.push x, c.2.2.1 + 1, c.2.2.2.1, c.2.2.2.2.1 + 1, 0))
  | _ => pure (.done (some (loFin a b c.2.1 c.2.2.1 c.2.2.2.1), c.2.1, c.2.2.1, c.2.2.2.1, c.2.2.2.2.1, c.2.2.2.2.2))
def loG (a b : Array Kd) (c : Lo0) : StateT SortSt Sem (ForInStep Lo0) := do
  let c1 ← forIn [0:a.size + b.size] ((none, c.2.1, c.2.2.1, c.2.2.2.1, 0, 0) : Lo1) fun _ => loF a b c.2.2.2.2
  match c1.1 with
  | some r => pure (.done (some r, c1.2.1, c1.2.2.1, c1.2.2.2.1, c.2.2.2.2))
  | none => do
    liftM (rule "list.sort.gallop")
    let c2 ← forIn [0:a.size + b.size] ((none, c1.2.1, c1.2.2.1, c1.2.2.2.1, c.2.2.2.2 + 1, c1.2.2.2.2.1, c1.2.2.2.2.2) : Lo2) fun _ c2 =>
      if c2.2.2.2.2.1 > 1 then loA a b c2.2.1 c2.2.2.1 c2.2.2.2.1 c2.2.2.2.2.2.1 c2.2.2.2.2.2.2 (c2.2.2.2.2.1 - 1) else loA a b c2.2.1 c2.2.2.1 c2.2.2.2.1 c2.2.2.2.2.2.1 c2.2.2.2.2.2.2 c2.2.2.2.2.1
    match c2.1 with
    | some r => pure (.done (some r, c2.2.1, c2.2.2.1, c2.2.2.2.1, c2.2.2.2.2.1))
    | none => do
      setG' (c2.2.2.2.2.1 + 1)
      pure (.yield (none, c2.2.1, c2.2.2.1, c2.2.2.2.1, c2.2.2.2.2.1 + 1))
theorem ite2 {α : Type} {c : Prop} {d : Decidable c} {a b b' : α} (h : b = b') : @ite α c d a b = @ite α c d a b' := by rw [h]
theorem ite3 {α : Type} {c : Prop} {d : Decidable c} {a a' b b' : α} (h' : a = a') (h : b = b') : @ite α c d a b = @ite α c d a' b' := by rw [h, h']
theorem bnd {α β : Type} {m m' : StateT SortSt Sem α} {f f' : α → StateT SortSt Sem β} (hm : m = m') (h : ∀ x, f x = f' x) : (m >>= f) = (m' >>= f') := by rw [hm, funext h]
theorem lp {β : Type} {r : Std.Legacy.Range} {c : β} {f f' : Nat → β → StateT SortSt Sem (ForInStep β)} (h : ∀ i c, f i c = f' i c) : forIn r c f = forIn r c f' := by rw [show f = f' from funext fun i => funext fun c => h i c]
theorem mergeLo'_do (a b : Array Kd) : mergeLo' a b = (do
  rule "list.sort.merge-lo"
  let tot := a.size + b.size
  let fin (o : Array Kd) (i j : Nat) := o ++ a.extract i a.size ++ b.extract j b.size
  let laA (o : Array Kd) (i j : Nat) := o ++ b.extract j b.size ++ a.extract i a.size
  let mut o : Array Kd := #[← elem' b 0]
  let mut i := 0
  let mut j := 1
  if j == b.size then return fin o i j
  if i + 1 == a.size then return laA o i j
  let mut mg := gallopOf (← get)
  for _ in [0:tot] do
    let mut ac := 0
    let mut bc := 0
    for _ in [0:tot] do
      let some bw ← lt' (← elem' b j) (← elem' a i) | return fin o i j
      if bw then
        o := o.push (← elem' b j); j := j + 1; bc := bc + 1; ac := 0
        if j == b.size then return fin o i j
        if bc ≥ mg then break
      else
        o := o.push (← elem' a i); i := i + 1; ac := ac + 1; bc := 0
        if i + 1 == a.size then return laA o i j
        if ac ≥ mg then break
    rule "list.sort.gallop"
    mg := mg + 1
    for _ in [0:tot] do
      if mg > 1 then mg := mg - 1
      setG' mg
      let some k ← gallop' false (← elem' b j) a i (a.size - i) 0 | return fin o i j
      ac := k
      if k > 0 then
        o := o ++ a.extract i (i + k); i := i + k
        if i + 1 == a.size then return laA o i j
        if i == a.size then return fin o i j
      o := o.push (← elem' b j); j := j + 1
      if j == b.size then return fin o i j
      let some k ← gallop' true (← elem' a i) b j (b.size - j) 0 | return fin o i j
      bc := k
      if k > 0 then
        o := o ++ b.extract j (j + k); j := j + k
        if j == b.size then return fin o i j
      o := o.push (← elem' a i); i := i + 1
      if i + 1 == a.size then return laA o i j
      if ac < 7 && bc < 7 then break
    mg := mg + 1
    setG' mg
  unsupported "internal:list.sort.merge-bound") := rfl
theorem mergeLo'_eq (a b : Array Kd) : mergeLo' a b = (do
  liftM (rule "list.sort.merge-lo")
  let x ← elem' b 0
  if (1 == b.size) = true then pure (loFin a b #[x] 0 1)
  else if (0 + 1 == a.size) = true then pure (loLa a b #[x] 0 1)
  else do
    let st ← get
    let c ← forIn [0:a.size + b.size] ((none, #[x], 0, 1, gallopOf st) : Lo0) fun _ => loG a b
    match c.1 with
    | some r => pure r
    | none => liftM (unsupported "internal:list.sort.merge-bound")) := by
  rw [mergeLo'_do]
  refine bnd rfl fun _ => ?_
  refine bnd rfl fun x => ?_
  refine ite2 ?_
  refine ite2 ?_
  refine bnd rfl fun st => ?_
  refine bnd (lp fun _ c => ?_) fun c => (by obtain ⟨r, c⟩ := c; cases r <;> rfl)
  refine bnd (lp fun _ d => ?_) fun d => ?_
  · refine bnd rfl fun x => bnd rfl fun y => bnd rfl fun z => ?_
    cases z with
    | none => rfl
    | some z => rfl
  · obtain ⟨r, d⟩ := d
    cases r with
    | some r => rfl
    | none =>
      refine bnd rfl fun _ => ?_
      refine bnd (lp fun _ e => ?_) fun e => ?_
      · refine ite3 ?_ ?_ <;> (refine bnd rfl fun _ => ?_; refine bnd rfl fun x => ?_; refine bnd rfl fun z => ?_; (cases z; rfl); (refine ite3 (ite2 (ite2 ?_)) ?_ <;> (refine bnd rfl fun x => ?_; refine ite2 ?_; refine bnd rfl fun y => ?_; refine bnd rfl fun z => ?_; (cases z; rfl); (refine ite3 (ite2 ?_) ?_ <;> (refine bnd rfl fun x => ?_; refine ite2 ?_; refine ite3 rfl ?_; rfl)))))
      · obtain ⟨r, e⟩ := e; cases r <;> rfl
end Tim
end L2

set_option Elab.async false
set_option linter.all false
set_option maxRecDepth 100000
set_option maxHeartbeats 4000000
namespace L2
namespace Tim
open PySem PySem.Spec PyProof.Rows PySem.W
def Good (L : Kd → Kd → Bool) (a b w : Array Kd) : Prop := Ri L w.toList ∧ w.toList.Perm (a.toList ++ b.toList)
section
variable {L : Kd → Kd → Bool} {a b o : Array Kd} {i j : Nat}
theorem MI.pb (h : MI L a.toList b.toList o.toList i j) (hj : j < b.size) (hk : ∀ t, i ≤ t → t < a.size → L (g a t) (g b j) = false) : MI L a.toList b.toList (o.push (g b j)).toList i (j + 1) := by
  have := h.tb 1 fun y hy x hx => by
    rw [take1 hj] at hy
    obtain ⟨t, h1, h2, rfl⟩ := mem_dr hx
    rw [List.mem_singleton.mp hy]
    exact hk t h1 h2
  rwa [take1 hj, ← Array.toList_push] at this
theorem MI.pa (h : MI L a.toList b.toList o.toList i j) (hi : i < a.size) (hk : ∀ t, j ≤ t → t < b.size → L (g b t) (g a i) = false) : MI L a.toList b.toList (o.push (g a i)).toList (i + 1) j := by
  have := h.ta 1 fun y hy x hx => by
    rw [take1 hi] at hy
    obtain ⟨t, h1, h2, rfl⟩ := mem_dr hx
    rw [List.mem_singleton.mp hy]
    exact hk t h1 h2
  rwa [take1 hi, ← Array.toList_push] at this
theorem MI.mb (h : MI L a.toList b.toList o.toList i j) (k : Nat) (hk : ∀ u, u < k → j + u < b.size → ∀ t, i ≤ t → t < a.size → L (g a t) (g b (j + u)) = false) : MI L a.toList b.toList (o ++ b.extract j (j + k)).toList i (j + k) := by
  have := h.tb k fun y hy x hx => by
    obtain ⟨t, h1, h2, rfl⟩ := mem_dr hx
    obtain ⟨u, u1, u2, u3, rfl⟩ := mem_td hy
    have := hk (u - j) (by omega) (by omega) t h1 h2
    rwa [show j + (u - j) = u by omega] at this
  rwa [Array.toList_append, ext_k]
theorem MI.ma (h : MI L a.toList b.toList o.toList i j) (k : Nat) (hk : ∀ u, u < k → i + u < a.size → ∀ t, j ≤ t → t < b.size → L (g b t) (g a (i + u)) = false) : MI L a.toList b.toList (o ++ a.extract i (i + k)).toList (i + k) j := by
  have := h.ta k fun y hy x hx => by
    obtain ⟨t, h1, h2, rfl⟩ := mem_dr hx
    obtain ⟨u, u1, u2, u3, rfl⟩ := mem_td hy
    have := hk (u - i) (by omega) (by omega) t h1 h2
    rwa [show i + (u - i) = u by omega] at this
  rwa [Array.toList_append, ext_k]
theorem MI.finB (h : MI L a.toList b.toList o.toList i j) (hj : (j == b.size) = true) : Good L a b (loFin a b o i j) := by
  have hj := beq_iff_eq.mp hj
  have e : b.toList.drop j = [] := List.drop_of_length_le (by simp [hj])
  unfold Good loFin
  rw [Array.toList_append, Array.toList_append, ext_all, ext_all]
  exact ⟨by rw [e, List.append_nil]; exact h.ra, h.pm⟩
theorem MI.finA (h : MI L a.toList b.toList o.toList i j) (hj : (i == a.size) = true) : Good L a b (loFin a b o i j) := by
  have hj := beq_iff_eq.mp hj
  have e : a.toList.drop i = [] := List.drop_of_length_le (by simp [hj])
  unfold Good loFin
  rw [Array.toList_append, Array.toList_append, ext_all, ext_all]
  exact ⟨by rw [e, List.append_nil]; exact h.rb, h.pm⟩
theorem MI.la (h : MI L a.toList b.toList o.toList i j) (hi : (i + 1 == a.size) = true) (hl : ∀ t, t < b.size → L (g a (a.size - 1)) (g b t) = false) : Good L a b (loLa a b o i j) := by
  have hi := beq_iff_eq.mp hi
  have e : a.toList.drop i = [g a (a.size - 1)] := by
    rw [← take1 (by omega), List.take_of_length_le (by simp; omega)]
    congr 1; omega
  have h1 := h.ra
  have h2 := h.rb
  have h3 := h.pm
  unfold Good loLa
  rw [Array.toList_append, Array.toList_append, ext_all, ext_all]
  refine ⟨?_, List.Perm.trans ?_ h3⟩
  · rw [e] at h1 ⊢
    unfold Ri at *
    rw [List.pairwise_append] at h1 ⊢
    refine ⟨h2, h1.2.1, fun x hx y hy => ?_⟩
    rcases List.mem_append.mp hx with hx | hx
    · exact h1.2.2 x hx y hy
    · obtain ⟨t, t1, t2, rfl⟩ := mem_dr hx
      rw [List.mem_singleton.mp hy]
      exact hl t t2
  · simp only [List.append_assoc]
    exact List.Perm.append_left _ List.perm_append_comm
end
def OKl (L : Kd → Kd → Bool) (a b : Array Kd) (N : Nat) (r : Option (Array Kd)) (o : Array Kd) (i j : Nat) : Prop := match r with
  | some w => Good L a b w
  | none => MI L a.toList b.toList o.toList i j ∧ i + 1 < a.size ∧ j < b.size ∧ N ≤ i + j
section
variable {M : Model} {A : Around} {E : Value → Shared → Prop} {s : Shared} {κ : SortKind} {D : Kd → Prop} {L : Kd → Kd → Bool} {a b o : Array Kd} {i j N : Nat} {xs : Array Kd} {p : Array (Nat × Nat × Nat)} {m : Nat}
def P2 (κ : SortKind) (L : Kd → Kd → Bool) (a b xs : Array Kd) (p : Array (Nat × Nat × Nat)) (N : Nat) (r : ForInStep Lo2) (st : SortSt) : Prop := (∃ m', st = S κ xs p m') ∧ match r with
  | .done c => OKl L a b N c.1 c.2.1 c.2.2.1 c.2.2.2.1
  | .yield c => c.1 = none ∧ OKl L a b N none c.2.1 c.2.2.1 c.2.2.2.1
structure Mg (D : Kd → Prop) (L : Kd → Kd → Bool) (a b : Array Kd) : Prop where
  Da : ∀ x ∈ a.toList, D x
  Db : ∀ x ∈ b.toList, D x
  ra : Ri L a.toList
  rb : Ri L b.toList
  h0 : L (g a 0) (g b 0) = false
  hl : ∀ t, t < b.size → L (g a (a.size - 1)) (g b t) = false
theorem loC_at (V : Env M A s κ D L) (G : Mg D L a b) {mg ac bc : Nat} (h : MI L a.toList b.toList o.toList i j) (hi : i + 1 < a.size) (hj : j < b.size) (hk : ∀ t, j ≤ t → t < b.size → L (g b t) (g a i) = false) (hN : N ≤ i + j) :
    wpS M A E s (loC a b mg ac bc i o j) (P2 κ L a b xs p (N + 1)) (S κ xs p m) := by
  unfold loC
  refine wpS_bind (elemW (by omega) ?_)
  have h' := h.pa (by omega) hk
  by_cases c : (i + 1 + 1 == a.size) = true
  · rw [if_pos c]; exact wpS_pure ⟨⟨_, rfl⟩, h'.la c G.hl⟩
  · rw [if_neg c]
    have c : i + 1 + 1 ≠ a.size := fun z => c (beq_iff_eq.mpr z)
    by_cases c2 : (decide (ac < 7) && decide (bc < 7)) = true
    · rw [if_pos c2]; exact wpS_pure ⟨⟨_, rfl⟩, h', by dsimp only; omega, hj, by dsimp only; omega⟩
    · rw [if_neg c2]; exact wpS_pure ⟨⟨_, rfl⟩, rfl, h', by dsimp only; omega, hj, by dsimp only; omega⟩
theorem loB_at (V : Env M A s κ D L) (G : Mg D L a b) {mg ac bc : Nat} (h : MI L a.toList b.toList o.toList i j) (hi : i + 1 < a.size) (hj : j < b.size) (hk : ∀ t, i ≤ t → t < a.size → L (g a t) (g b j) = false) (hN : N ≤ i + j) :
    wpS M A E s (loB a b mg ac bc j o i) (P2 κ L a b xs p (N + 1)) (S κ xs p m) := by
  unfold loB
  refine wpS_bind (elemW hj ?_)
  have h' := h.pb hj hk
  by_cases c : (j + 1 == b.size) = true
  · rw [if_pos c]; exact wpS_pure ⟨⟨_, rfl⟩, h'.finB c⟩
  · rw [if_neg c]
    have c : j + 1 ≠ b.size := fun z => c (beq_iff_eq.mpr z)
    refine wpS_bind (elemW (by omega) (wpS_bind (V.gallop (G.Da _ (g_mem (by omega))) G.Db (by omega) (by omega) (fun i j hij hj => G.rb.g V.rfl' (by omega) (by omega)) fun k hkn k1 k2 => ?_)))
    dsimp only
    have k1' : ∀ u, u < k → L (g b (j + 1 + u)) (g a i) = true := fun u hu => by have := k1 u hu; unfold bey at this; simpa using this
    have k2' : ∀ u, k ≤ u → u < b.size - (j + 1) → L (g b (j + 1 + u)) (g a i) = false := fun u hu hu2 => by have := k2 u hu hu2; unfold bey at this; simpa using this
    have h2 := h'.mb k fun u hu hub t t1 t2 => V.tr _ _ _ (V.asym _ _ (k1' u hu)) (G.ra.g V.rfl' t1 t2)
    have k3 : ∀ t, j + 1 + k ≤ t → t < b.size → L (g b t) (g a i) = false := fun t t1 t2 => by
      have := k2' (t - (j + 1)) (by omega) (by omega)
      rwa [show j + 1 + (t - (j + 1)) = t by omega] at this
    by_cases c2 : k > 0
    · rw [if_pos c2]
      by_cases c3 : (j + 1 + k == b.size) = true
      · rw [if_pos c3]; exact wpS_pure ⟨⟨_, rfl⟩, h2.finB c3⟩
      · rw [if_neg c3]
        have c3 : j + 1 + k ≠ b.size := fun z => c3 (beq_iff_eq.mpr z)
        exact loC_at V G h2 hi (by omega) k3 (by omega)
    · rw [if_neg c2]
      have e : k = 0 := by omega
      subst e
      exact loC_at V G h' hi (by omega) k3 (by omega)
theorem loA_at (V : Env M A s κ D L) (G : Mg D L a b) {mg ac bc : Nat} (h : MI L a.toList b.toList o.toList i j) (hi : i + 1 < a.size) (hj : j < b.size) (hN : N ≤ i + j) :
    wpS M A E s (loA a b o i j ac bc mg) (P2 κ L a b xs p (N + 1)) (S κ xs p m) := by
  unfold loA
  rw [setG'_eq]
  refine wpS_bind (wpS_modify ?_)
  show wpS M A E s _ _ (S κ xs p mg)
  refine wpS_bind (elemW hj (wpS_bind (V.gallop (G.Db _ (g_mem (by omega))) G.Da (by omega) (by omega) (fun i j hij hj => G.ra.g V.rfl' (by omega) (by omega)) fun k hkn k1 k2 => ?_)))
  dsimp only
  have k1' : ∀ u, u < k → L (g b j) (g a (i + u)) = false := fun u hu => by have := k1 u hu; unfold bey at this; simpa using this
  have k2' : ∀ u, k ≤ u → u < a.size - i → L (g b j) (g a (i + u)) = true := fun u hu hu2 => by have := k2 u hu hu2; unfold bey at this; simpa using this
  have h2 := h.ma k fun u hu hub t t1 t2 => V.tr _ _ _ (k1' u hu) (G.rb.g V.rfl' t1 t2)
  have k3 : ∀ t, i + k ≤ t → t < a.size → L (g a t) (g b j) = false := fun t t1 t2 => by
    have := k2' (t - i) (by omega) (by omega)
    rw [show i + (t - i) = t by omega] at this
    exact V.asym _ _ this
  by_cases c2 : k > 0
  · rw [if_pos c2]
    by_cases c3 : (i + k + 1 == a.size) = true
    · rw [if_pos c3]; exact wpS_pure ⟨⟨_, rfl⟩, h2.la c3 G.hl⟩
    · rw [if_neg c3]
      by_cases c4 : (i + k == a.size) = true
      · rw [if_pos c4]; exact wpS_pure ⟨⟨_, rfl⟩, h2.finA c4⟩
      · rw [if_neg c4]
        have c3 : i + k + 1 ≠ a.size := fun z => c3 (beq_iff_eq.mpr z)
        have c4 : i + k ≠ a.size := fun z => c4 (beq_iff_eq.mpr z)
        exact loB_at V G h2 (by omega) hj k3 (by omega)
  · rw [if_neg c2]
    have e : k = 0 := by omega
    subst e
    exact loB_at V G h hi hj k3 hN
def P1 (κ : SortKind) (L : Kd → Kd → Bool) (a b xs : Array Kd) (p : Array (Nat × Nat × Nat)) (m : Nat) (N : Nat) (r : ForInStep Lo1) (st : SortSt) : Prop := st = S κ xs p m ∧ match r with
  | .done c => OKl L a b N c.1 c.2.1 c.2.2.1 c.2.2.2.1
  | .yield c => c.1 = none ∧ OKl L a b N none c.2.1 c.2.2.1 c.2.2.2.1
theorem loF_at (V : Env M A s κ D L) (G : Mg D L a b) {mg : Nat} {c : Lo1} (h : OKl L a b N none c.2.1 c.2.2.1 c.2.2.2.1) :
    wpS M A E s (loF a b mg c) (P1 κ L a b xs p m (N + 1)) (S κ xs p m) := by
  obtain ⟨r, o, i, j, ac, bc⟩ := c
  obtain ⟨h, hi, hj, hN⟩ := h
  unfold loF
  dsimp only at h hi hj hN ⊢
  refine wpS_bind (elemW hj (wpS_bind (elemW (by omega) (wpS_bind (V.lt (G.Db _ (g_mem hj)) (G.Da _ (g_mem (by omega))) ?_)))))
  dsimp only
  cases c : L (g b j) (g a i) with
  | true =>
    rw [if_pos rfl]
    refine wpS_bind (elemW hj ?_)
    have h' := h.pb hj fun t t1 t2 => V.tr _ _ _ (V.asym _ _ c) (G.ra.g V.rfl' t1 t2)
    by_cases c2 : (j + 1 == b.size) = true
    · rw [if_pos c2]; exact wpS_pure ⟨rfl, h'.finB c2⟩
    · rw [if_neg c2]
      have c2 : j + 1 ≠ b.size := fun z => c2 (beq_iff_eq.mpr z)
      by_cases c3 : bc + 1 ≥ mg
      · rw [if_pos c3]; exact wpS_pure ⟨rfl, h', hi, by dsimp only; omega, by dsimp only; omega⟩
      · rw [if_neg c3]; exact wpS_pure ⟨rfl, rfl, h', hi, by dsimp only; omega, by dsimp only; omega⟩
  | false =>
    rw [if_neg (by decide)]
    refine wpS_bind (elemW (by omega) ?_)
    have h' := h.pa (by omega) fun t t1 t2 => V.tr _ _ _ c (G.rb.g V.rfl' t1 t2)
    by_cases c2 : (i + 1 + 1 == a.size) = true
    · rw [if_pos c2]; exact wpS_pure ⟨rfl, h'.la c2 G.hl⟩
    · rw [if_neg c2]
      have c2 : i + 1 + 1 ≠ a.size := fun z => c2 (beq_iff_eq.mpr z)
      by_cases c3 : ac + 1 ≥ mg
      · rw [if_pos c3]; exact wpS_pure ⟨rfl, h', by dsimp only; omega, hj, by dsimp only; omega⟩
      · rw [if_neg c3]; exact wpS_pure ⟨rfl, rfl, h', by dsimp only; omega, hj, by dsimp only; omega⟩
theorem OKl.mono {N N' : Nat} {r : Option (Array Kd)} (h : OKl L a b N r o i j) (hN : N' ≤ N) : OKl L a b N' r o i j := by
  cases r with
  | some w => exact h
  | none => exact ⟨h.1, h.2.1, h.2.2.1, by have := h.2.2.2; omega⟩
theorem loG_at (V : Env M A s κ D L) (G : Mg D L a b) {c : Lo0} (h : OKl L a b N none c.2.1 c.2.2.1 c.2.2.2.1) :
    wpS M A E s (loG a b c) (fun r st => (∃ m', st = S κ xs p m') ∧ match r with | .done c => ∃ w, c.1 = some w ∧ Good L a b w | .yield c => c.1 = none ∧ OKl L a b (N + 1) none c.2.1 c.2.2.1 c.2.2.2.1) (S κ xs p m) := by
  obtain ⟨r, o, i, j, mg⟩ := c
  unfold loG
  dsimp only at h ⊢
  have h1 := h.2.1
  have h2 := h.2.2.1
  have h3 := h.2.2.2
  refine wpS_bind (wpS_mono (wpS_forRange (I := fun t c st => st = S κ xs p m ∧ c.1 = none ∧ OKl L a b (N + t) none c.2.1 c.2.2.1 c.2.2.2.1) (Q := fun c st => st = S κ xs p m ∧ OKl L a b (N + 1) c.1 c.2.1 c.2.2.1 c.2.2.2.1) ?_ ?_ ⟨rfl, rfl, h⟩) ?_)
  · rintro t c st - ht ⟨rfl, hc, hk⟩
    refine wpS_mono (loF_at V G hk) fun r st h => ?_
    obtain ⟨rfl, h⟩ := h
    cases r with
    | done c => exact ⟨rfl, h.mono (by omega)⟩
    | yield c => exact ⟨rfl, h⟩
  · rintro c st ⟨rfl, hc, h⟩
    have h1 := h.2.1
    have h2 := h.2.2.1
    have h3 := h.2.2.2
    exact absurd h3 (by omega)
  rintro ⟨r, o, i, j, ac, bc⟩ st ⟨rfl, h⟩
  cases r with
  | some w => exact wpS_pure ⟨⟨_, rfl⟩, w, rfl, h⟩
  | none =>
    dsimp only at h ⊢
    refine wpS_bind (wpS_lift (wpAny_rule ⟨rfl, ?_⟩))
    refine wpS_bind (wpS_mono (wpS_forRange (I := fun t c st => (∃ m', st = S κ xs p m') ∧ c.1 = none ∧ OKl L a b (N + 1 + t) none c.2.1 c.2.2.1 c.2.2.2.1) (Q := fun c st => (∃ m', st = S κ xs p m') ∧ OKl L a b (N + 1) c.1 c.2.1 c.2.2.1 c.2.2.2.1) ?_ ?_ ⟨⟨_, rfl⟩, rfl, h⟩) ?_)
    · rintro t c st - ht ⟨⟨m', rfl⟩, hc, hk⟩
      have go : ∀ mg, wpS M A E s (loA a b c.2.1 c.2.2.1 c.2.2.2.1 c.2.2.2.2.2.1 c.2.2.2.2.2.2 mg) (fun r st' => match r with | .done c' => (∃ m', st' = S κ xs p m') ∧ OKl L a b (N + 1) c'.1 c'.2.1 c'.2.2.1 c'.2.2.2.1 | .yield c' => (∃ m', st' = S κ xs p m') ∧ c'.1 = none ∧ OKl L a b (N + 1 + (t + 1)) none c'.2.1 c'.2.2.1 c'.2.2.2.1) (S κ xs p m') := fun mg => by
        refine wpS_mono (loA_at V G hk.1 hk.2.1 hk.2.2.1 hk.2.2.2) fun r st h => ?_
        obtain ⟨q, h⟩ := h
        cases r with
        | done c => exact ⟨q, h.mono (by omega)⟩
        | yield c => exact ⟨q, h⟩
      by_cases c1 : c.2.2.2.2.1 > 1
      · rw [if_pos c1]; exact wpS_mono (go _) fun r st h => by cases r <;> exact h
      · rw [if_neg c1]; exact wpS_mono (go _) fun r st h => by cases r <;> exact h
    · rintro c st ⟨q, hc, h⟩
      have h1 := h.2.1
      have h2 := h.2.2.1
      have h3 := h.2.2.2
      exact absurd h3 (by omega)
    rintro ⟨r, o, i, j, mg, ac, bc⟩ st ⟨⟨m', rfl⟩, h⟩
    cases r with
    | some w => exact wpS_pure ⟨⟨_, rfl⟩, w, rfl, h⟩
    | none =>
      rw [setG'_eq]
      exact wpS_bind (wpS_modify (wpS_pure ⟨⟨_, rfl⟩, rfl, h⟩))
theorem Env.mergeLo (V : Env M A s κ D L) (G : Mg D L a b) {Q : Array Kd → SortSt → Prop} (ha : 0 < a.size) (hb : 0 < b.size)
    (h : ∀ o m', Good L a b o → Q o (S κ xs p m')) : wpS M A E s (mergeLo' a b) Q (S κ xs p m) := by
  rw [mergeLo'_eq]
  refine wpS_bind (wpS_lift (wpAny_rule ⟨rfl, ?_⟩))
  refine wpS_bind (elemW hb ?_)
  have i0 : MI L a.toList b.toList (#[] : Array Kd).toList 0 0 := ⟨by simpa using G.ra, by simpa using G.rb, by simp⟩
  have i1 : MI L a.toList b.toList #[g b 0].toList 0 1 := i0.pb hb fun t t1 t2 => V.tr _ _ _ G.h0 (G.ra.g V.rfl' t1 t2)
  by_cases c : (1 == b.size) = true
  · rw [if_pos c]; exact wpS_pure (h _ _ (i1.finB c))
  · rw [if_neg c]
    by_cases c2 : (0 + 1 == a.size) = true
    · rw [if_pos c2]; exact wpS_pure (h _ _ (i1.la c2 G.hl))
    · rw [if_neg c2]
      have c : 1 ≠ b.size := fun z => c (beq_iff_eq.mpr z)
      have c2 : 0 + 1 ≠ a.size := fun z => c2 (beq_iff_eq.mpr z)
      refine wpS_bind (wpS_get ?_)
      refine wpS_bind (wpS_mono (wpS_forRange (I := fun t c st => (∃ m', st = S κ xs p m') ∧ c.1 = none ∧ OKl L a b t none c.2.1 c.2.2.1 c.2.2.2.1) (Q := fun c st => (∃ m', st = S κ xs p m') ∧ ∃ w, c.1 = some w ∧ Good L a b w) ?_ ?_ ⟨⟨_, rfl⟩, rfl, i1, by dsimp only; omega, by dsimp only; omega, by dsimp only; omega⟩) ?_)
      · rintro t c st - ht ⟨⟨m', rfl⟩, hc, hk⟩
        refine wpS_mono (loG_at V G hk) fun r st h => ?_
        obtain ⟨q, h⟩ := h
        cases r with
        | done c => exact ⟨q, h⟩
        | yield c => exact ⟨q, h⟩
      · rintro c st ⟨q, hc, h⟩
        have h1 := h.2.1
        have h2 := h.2.2.1
        have h3 := h.2.2.2
        exact absurd h3 (by omega)
      · rintro ⟨r, c⟩ st ⟨⟨m', rfl⟩, w, rfl, hw⟩
        exact wpS_pure (h w _ hw)
end
end Tim
end L2

set_option Elab.async false
set_option linter.all false
set_option maxRecDepth 100000
set_option maxHeartbeats 4000000
namespace L2
namespace Tim
open PySem PySem.Spec PyProof.Rows PySem.W
def mergeHi' : Array Kd → Array Kd → StateT SortSt Sem (Array Kd) := sortPriv% PySem.Builtin.mergeHi
theorem mergeHi'_do (a b : Array Kd) : mergeHi' a b = (do
  rule "list.sort.merge-hi"
  let tot := a.size + b.size
  let fin (o : Array Kd) (i j : Nat) := a.extract 0 i ++ b.extract 0 j ++ o.reverse
  let fiB (o : Array Kd) (i j : Nat) := b.extract 0 j ++ a.extract 0 i ++ o.reverse
  let mut i := a.size - 1
  let mut j := b.size
  let mut o : Array Kd := #[← elem' a i]
  if i == 0 then return fin o i j
  if j == 1 then return fiB o i j
  let mut mg := gallopOf (← get)
  for _ in [0:tot] do
    let mut ac := 0
    let mut bc := 0
    for _ in [0:tot] do
      let some aw ← lt' (← elem' b (j - 1)) (← elem' a (i - 1)) | return fin o i j
      if aw then
        i := i - 1; o := o.push (← elem' a i); ac := ac + 1; bc := 0
        if i == 0 then return fin o i j
        if ac ≥ mg then break
      else
        j := j - 1; o := o.push (← elem' b j); bc := bc + 1; ac := 0
        if j == 1 then return fiB o i j
        if bc ≥ mg then break
    rule "list.sort.gallop"
    mg := mg + 1
    for _ in [0:tot] do
      if mg > 1 then mg := mg - 1
      setG' mg
      let some t ← gallop' false (← elem' b (j - 1)) a 0 i (i - 1) | return fin o i j
      let k := i - t
      ac := k
      if k > 0 then
        o := o ++ (a.extract t i).reverse; i := t
        if i == 0 then return fin o i j
      j := j - 1; o := o.push (← elem' b j)
      if j == 1 then return fiB o i j
      let some t ← gallop' true (← elem' a (i - 1)) b 0 j (j - 1) | return fin o i j
      let k := j - t
      bc := k
      if k > 0 then
        o := o ++ (b.extract t j).reverse; j := t
        if j == 1 then return fiB o i j
        if j == 0 then return fin o i j
      i := i - 1; o := o.push (← elem' a i)
      if i == 0 then return fin o i j
      if ac < 7 && bc < 7 then break
    mg := mg + 1
    setG' mg
  unsupported "internal:list.sort.merge-bound") := rfl
abbrev Hi0 := Option (Array Kd) × Nat × Nat × Array Kd × Nat
abbrev Hi1 := Option (Array Kd) × Nat × Nat × Array Kd × Nat × Nat
abbrev Hi2 := Option (Array Kd) × Nat × Nat × Array Kd × Nat × Nat × Nat
def hiFin (a b o : Array Kd) (i j : Nat) : Array Kd := a.extract 0 i ++ b.extract 0 j ++ o.reverse
def hiLa (a b o : Array Kd) (i j : Nat) : Array Kd := b.extract 0 j ++ a.extract 0 i ++ o.reverse
def hiC (a b : Array Kd) (mg ac bc i : Nat) (j : Nat) (o : Array Kd) : StateT SortSt Sem (ForInStep Hi2) := do
  let x ← elem' a (i - 1)
  if (i - 1 == 0) = true then pure (.done (some (hiFin a b (o.push x) (i - 1) j), i - 1, j, o.push x, mg, ac, bc))
  else if (decide (ac < 7) && decide (bc < 7)) = true then pure (.done (none, i - 1, j, o.push x, mg, ac, bc))
  else pure (.yield (none, i - 1, j, o.push x, mg, ac, bc))
def hiB (a b : Array Kd) (mg ac bc j : Nat) (i : Nat) (o : Array Kd) : StateT SortSt Sem (ForInStep Hi2) := do
  let x ← elem' b (j - 1)
  if (j - 1 == 1) = true then pure (.done (some (hiLa a b (o.push x) i (j - 1)), i, j - 1, o.push x, mg, ac, bc))
  else do
    let y ← elem' a (i - 1)
    let z ← gallop' true y b 0 (j - 1) (j - 1 - 1)
    match z with
    | some t =>
      if j - 1 - t > 0 then
        if (t == 1) = true then pure (.done (some (hiLa a b (o.push x ++ (b.extract t (j - 1)).reverse) i t), i, t, o.push x ++ (b.extract t (j - 1)).reverse, mg, ac, j - 1 - t))
        else if (t == 0) = true then pure (.done (some (hiFin a b (o.push x ++ (b.extract t (j - 1)).reverse) i t), i, t, o.push x ++ (b.extract t (j - 1)).reverse, mg, ac, j - 1 - t))
        else hiC a b mg ac (j - 1 - t) i t (o.push x ++ (b.extract t (j - 1)).reverse)
      else hiC a b mg ac (j - 1 - t) i (j - 1) (o.push x)
    | _ => pure (.done (some (hiFin a b (o.push x) i (j - 1)), i, j - 1, o.push x, mg, ac, bc))
def hiA (a b o : Array Kd) (i j ac bc mg : Nat) : StateT SortSt Sem (ForInStep Hi2) := do
  setG' mg
  let x ← elem' b (j - 1)
  let z ← gallop' false x a 0 i (i - 1)
  match z with
  | some t =>
    if i - t > 0 then
      if (t == 0) = true then pure (.done (some (hiFin a b (o ++ (a.extract t i).reverse) t j), t, j, o ++ (a.extract t i).reverse, mg, i - t, bc))
      else hiB a b mg (i - t) bc j t (o ++ (a.extract t i).reverse)
    else hiB a b mg (i - t) bc j i o
  | _ => pure (.done (some (hiFin a b o i j), i, j, o, mg, ac, bc))
def hiF (a b : Array Kd) (mg : Nat) (c : Hi1) : StateT SortSt Sem (ForInStep Hi1) := do
  let x ← elem' b (c.2.2.1 - 1)
  let y ← elem' a (c.2.1 - 1)
  let z ← lt' x y
  match z with
  | some aw =>
    if aw = true then do
      let x ← elem' a (c.2.1 - 1)
      if (c.2.1 - 1 == 0) = true then pure (.done (some (hiFin a b (c.2.2.2.1.push x) (c.2.1 - 1) c.2.2.1), c.2.1 - 1, c.2.2.1, c.2.2.2.1.push x, c.2.2.2.2.1 + 1, 0))
      else if c.2.2.2.2.1 + 1 ≥ mg then pure (.done (none, c.2.1 - 1, c.2.2.1, c.2.2.2.1.push x, c.2.2.2.2.1 + 1, 0))
      else pure (.yield (none, c.2.1 - 1, c.2.2.1, c.2.2.2.1.push x, c.2.2.2.2.1 + 1, 0))
    else do
      let x ← elem' b (c.2.2.1 - 1)
      if (c.2.2.1 - 1 == 1) = true then pure (.done (some (hiLa a b (c.2.2.2.1.push x) c.2.1 (c.2.2.1 - 1)), c.2.1, c.2.2.1 - 1, c.2.2.2.1.push x, 0, c.2.2.2.2.2 + 1))
      else if c.2.2.2.2.2 + 1 ≥ mg then pure (.done (none, c.2.1, c.2.2.1 - 1, c.2.2.2.1.push x, 0, c.2.2.2.2.2 + 1))
      else pure (.yield (none, c.2.1, c.2.2.1 - 1, c.2.2.2.1.push x, 0, c.2.2.2.2.2 + 1))
  | _ => pure (.done (some (hiFin a b c.2.2.2.1 c.2.1 c.2.2.1), c.2.1, c.2.2.1, c.2.2.2.1, c.2.2.2.2.1, c.2.2.2.2.2))
def hiG (a b : Array Kd) (c : Hi0) : StateT SortSt Sem (ForInStep Hi0) := do
  let c1 ← forIn [0:a.size + b.size] ((none, c.2.1, c.2.2.1, c.2.2.2.1, 0, 0) : Hi1) fun _ => hiF a b c.2.2.2.2
  match c1.1 with
  | some r => pure (.done (some r, c1.2.1, c1.2.2.1, c1.2.2.2.1, c.2.2.2.2))
  | none => do
    liftM (rule "list.sort.gallop")
    let c2 ← forIn [0:a.size + b.size] ((none, c1.2.1, c1.2.2.1, c1.2.2.2.1, c.2.2.2.2 + 1, c1.2.2.2.2.1, c1.2.2.2.2.2) : Hi2) fun _ c2 =>
      if c2.2.2.2.2.1 > 1 then hiA a b c2.2.2.2.1 c2.2.1 c2.2.2.1 c2.2.2.2.2.2.1 c2.2.2.2.2.2.2 (c2.2.2.2.2.1 - 1) else hiA a b c2.2.2.2.1 c2.2.1 c2.2.2.1 c2.2.2.2.2.2.1 c2.2.2.2.2.2.2 c2.2.2.2.2.1
    match c2.1 with
    | some r => pure (.done (some r, c2.2.1, c2.2.2.1, c2.2.2.2.1, c2.2.2.2.2.1))
    | none => do
      setG' (c2.2.2.2.2.1 + 1)
      pure (.yield (none, c2.2.1, c2.2.2.1, c2.2.2.2.1, c2.2.2.2.2.1 + 1))
theorem mergeHi'_eq (a b : Array Kd) : mergeHi' a b = (do
  liftM (rule "list.sort.merge-hi")
  let x ← elem' a (a.size - 1)
  if (a.size - 1 == 0) = true then pure (hiFin a b #[x] (a.size - 1) b.size)
  else if (b.size == 1) = true then pure (hiLa a b #[x] (a.size - 1) b.size)
  else do
    let st ← get
    let c ← forIn [0:a.size + b.size] ((none, a.size - 1, b.size, #[x], gallopOf st) : Hi0) fun _ => hiG a b
    match c.1 with
    | some r => pure r
    | none => liftM (unsupported "internal:list.sort.merge-bound")) := by
  rw [mergeHi'_do]
  refine bnd rfl fun _ => ?_
  refine bnd rfl fun x => ?_
  refine ite2 ?_
  refine ite2 ?_
  refine bnd rfl fun st => ?_
  refine bnd (lp fun _ c => ?_) fun c => (by obtain ⟨r, c⟩ := c; cases r <;> rfl)
  refine bnd (lp fun _ d => ?_) fun d => ?_
  · refine bnd rfl fun x => bnd rfl fun y => bnd rfl fun z => ?_
    cases z with
    | none => rfl
    | some z => rfl
  · obtain ⟨r, d⟩ := d
    cases r with
    | some r => rfl
    | none =>
      refine bnd rfl fun _ => ?_
      refine bnd (lp fun _ e => ?_) fun e => ?_
      · refine ite3 ?_ ?_ <;> (refine bnd rfl fun _ => ?_; refine bnd rfl fun x => ?_; refine bnd rfl fun z => ?_; (cases z; rfl); (refine ite3 (ite2 ?_) ?_ <;> (refine bnd rfl fun x => ?_; refine ite2 ?_; refine bnd rfl fun y => ?_; refine bnd rfl fun z => ?_; (cases z; rfl); (refine ite3 (ite2 (ite2 ?_)) ?_ <;> (refine bnd rfl fun x => ?_; refine ite2 ?_; refine ite3 rfl ?_; rfl)))))
      · obtain ⟨r, e⟩ := e; cases r <;> rfl
end Tim
end L2

set_option Elab.async false
set_option linter.all false
set_option maxRecDepth 100000
set_option maxHeartbeats 4000000
namespace L2
namespace Tim
open PySem PySem.Spec PyProof.Rows PySem.W
theorem ext_0 (a : Array Kd) (i : Nat) : (a.extract 0 i).toList = a.toList.take i := by
  rw [Array.toList_extract, List.extract_eq_take_drop, List.drop_zero, Nat.sub_zero]
theorem ext_m (a : Array Kd) (t i : Nat) : (a.extract t i).toList = (a.toList.drop t).take (i - t) := by
  rw [Array.toList_extract, List.extract_eq_take_drop]
theorem take_m (l : List Kd) {t i : Nat} (h : t ≤ i) : l.take i = l.take t ++ (l.drop t).take (i - t) := by
  rw [← List.take_add, show t + (i - t) = i by omega]
structure MH (L : Kd → Kd → Bool) (a b o : List Kd) (i j : Nat) : Prop where
  ra : Ri L (a.take i ++ o)
  rb : Ri L (b.take j ++ o)
  pm : (a.take i ++ b.take j ++ o).Perm (a ++ b)
theorem MH.ta {L : Kd → Kd → Bool} {a b o : List Kd} {i j : Nat} (h : MH L a b o i j) {t : Nat} (ht : t ≤ i) (hk : ∀ y ∈ (a.drop t).take (i - t), ∀ x ∈ b.take j, L y x = false) : MH L a b ((a.drop t).take (i - t) ++ o) t j := by
  have e := take_m a ht
  obtain ⟨h1, h2, h3⟩ := h
  rw [e] at h1 h3
  refine ⟨by rw [← List.append_assoc]; exact h1, ?_, List.Perm.trans ?_ h3⟩
  · unfold Ri at *
    rw [List.pairwise_append] at h1 h2 ⊢
    rw [List.pairwise_append] at h1
    rw [List.pairwise_append]
    refine ⟨h2.1, ⟨h1.1.2.1, h1.2.1, fun x hx y hy => h1.2.2 x (List.mem_append_right _ hx) y hy⟩, fun x hx y hy => ?_⟩
    rcases List.mem_append.mp hy with hy | hy
    · exact hk y hy x hx
    · exact h2.2.2 x hx y hy
  · simp only [List.append_assoc]
    refine List.Perm.append_left _ ?_
    rw [← List.append_assoc, ← List.append_assoc]
    exact List.Perm.append_right _ List.perm_append_comm
theorem MH.tb {L : Kd → Kd → Bool} {a b o : List Kd} {i j : Nat} (h : MH L a b o i j) {t : Nat} (ht : t ≤ j) (hk : ∀ y ∈ (b.drop t).take (j - t), ∀ x ∈ a.take i, L y x = false) : MH L a b ((b.drop t).take (j - t) ++ o) i t := by
  have e := take_m b ht
  obtain ⟨h1, h2, h3⟩ := h
  rw [e] at h2 h3
  refine ⟨?_, by rw [← List.append_assoc]; exact h2, List.Perm.trans ?_ h3⟩
  · unfold Ri at *
    rw [List.pairwise_append] at h1 h2 ⊢
    rw [List.pairwise_append] at h2
    rw [List.pairwise_append]
    refine ⟨h1.1, ⟨h2.1.2.1, h2.2.1, fun x hx y hy => h2.2.2 x (List.mem_append_right _ hx) y hy⟩, fun x hx y hy => ?_⟩
    rcases List.mem_append.mp hy with hy | hy
    · exact hk y hy x hx
    · exact h1.2.2 x hx y hy
  · simp only [List.append_assoc]
    exact List.Perm.refl _
section
variable {L : Kd → Kd → Bool} {a b o : Array Kd} {i j : Nat}
theorem MH.ma (h : MH L a.toList b.toList o.toList.reverse i j) {t : Nat} (ht : t ≤ i) (hk : ∀ u, t ≤ u → u < i → u < a.size → ∀ v, v < j → v < b.size → L (g a u) (g b v) = false) : MH L a.toList b.toList (o ++ (a.extract t i).reverse).toList.reverse t j := by
  have := h.ta ht fun y hy x hx => by
    obtain ⟨u, u1, u2, u3, rfl⟩ := mem_td hy
    obtain ⟨v, v1, v2, rfl⟩ := mem_tk hx
    exact hk u u1 (by omega) u3 v v1 v2
  rwa [Array.toList_append, List.reverse_append, Array.toList_reverse, List.reverse_reverse, ext_m]
theorem MH.mb (h : MH L a.toList b.toList o.toList.reverse i j) {t : Nat} (ht : t ≤ j) (hk : ∀ u, t ≤ u → u < j → u < b.size → ∀ v, v < i → v < a.size → L (g b u) (g a v) = false) : MH L a.toList b.toList (o ++ (b.extract t j).reverse).toList.reverse i t := by
  have := h.tb ht fun y hy x hx => by
    obtain ⟨u, u1, u2, u3, rfl⟩ := mem_td hy
    obtain ⟨v, v1, v2, rfl⟩ := mem_tk hx
    exact hk u u1 (by omega) u3 v v1 v2
  rwa [Array.toList_append, List.reverse_append, Array.toList_reverse, List.reverse_reverse, ext_m]
theorem MH.pa (h : MH L a.toList b.toList o.toList.reverse i j) (h1 : 1 ≤ i) (hi : i ≤ a.size) (hk : ∀ v, v < j → v < b.size → L (g a (i - 1)) (g b v) = false) : MH L a.toList b.toList (o.push (g a (i - 1))).toList.reverse (i - 1) j := by
  have := h.ta (t := i - 1) (by omega) fun y hy x hx => by
    obtain ⟨u, u1, u2, u3, rfl⟩ := mem_td hy
    obtain ⟨v, v1, v2, rfl⟩ := mem_tk hx
    rw [show u = i - 1 by omega]
    exact hk v v1 v2
  rw [show i - (i - 1) = 1 by omega, take1 (by omega)] at this
  rwa [Array.toList_push, List.reverse_append]
theorem MH.pb (h : MH L a.toList b.toList o.toList.reverse i j) (h1 : 1 ≤ j) (hi : j ≤ b.size) (hk : ∀ v, v < i → v < a.size → L (g b (j - 1)) (g a v) = false) : MH L a.toList b.toList (o.push (g b (j - 1))).toList.reverse i (j - 1) := by
  have := h.tb (t := j - 1) (by omega) fun y hy x hx => by
    obtain ⟨u, u1, u2, u3, rfl⟩ := mem_td hy
    obtain ⟨v, v1, v2, rfl⟩ := mem_tk hx
    rw [show u = j - 1 by omega]
    exact hk v v1 v2
  rw [show j - (j - 1) = 1 by omega, take1 (by omega)] at this
  rwa [Array.toList_push, List.reverse_append]
theorem MH.finA (h : MH L a.toList b.toList o.toList.reverse i j) (hi : (i == 0) = true) : Good L a b (hiFin a b o i j) := by
  have hi := beq_iff_eq.mp hi
  subst hi
  unfold Good hiFin
  rw [Array.toList_append, Array.toList_append, ext_0, ext_0, Array.toList_reverse]
  exact ⟨by simpa using h.rb, h.pm⟩
theorem MH.finB (h : MH L a.toList b.toList o.toList.reverse i j) (hi : (j == 0) = true) : Good L a b (hiFin a b o i j) := by
  have hi := beq_iff_eq.mp hi
  subst hi
  unfold Good hiFin
  rw [Array.toList_append, Array.toList_append, ext_0, ext_0, Array.toList_reverse]
  exact ⟨by simpa using h.ra, h.pm⟩
theorem MH.la (h : MH L a.toList b.toList o.toList.reverse i j) (hj : (j == 1) = true) (hb : 0 < b.size) (h0 : ∀ t, t < a.size → L (g a t) (g b 0) = false) : Good L a b (hiLa a b o i j) := by
  have hj := beq_iff_eq.mp hj
  subst hj
  have e : b.toList.take 1 = [g b 0] := by rw [← take1 hb]; rfl
  obtain ⟨h1, h2, h3⟩ := h
  unfold Good hiLa
  rw [Array.toList_append, Array.toList_append, ext_0, ext_0, Array.toList_reverse]
  refine ⟨?_, List.Perm.trans ?_ h3⟩
  · rw [e] at h2 ⊢
    unfold Ri at *
    rw [List.append_assoc, List.pairwise_append]
    rw [List.pairwise_append] at h2
    refine ⟨h2.1, h1, fun x hx y hy => ?_⟩
    rcases List.mem_append.mp hy with hy | hy
    · obtain ⟨t, t1, t2, rfl⟩ := mem_tk hy
      rw [List.mem_singleton.mp hx]
      exact h0 t t2
    · exact h2.2.2 x hx y hy
  · exact List.Perm.append_right _ List.perm_append_comm
end
def OKh (L : Kd → Kd → Bool) (a b : Array Kd) (N : Nat) (r : Option (Array Kd)) (o : Array Kd) (i j : Nat) : Prop := match r with
  | some w => Good L a b w
  | none => MH L a.toList b.toList o.toList.reverse i j ∧ 1 ≤ i ∧ i ≤ a.size ∧ 2 ≤ j ∧ j ≤ b.size ∧ N + i + j ≤ a.size + b.size
section
variable {M : Model} {A : Around} {E : Value → Shared → Prop} {s : Shared} {κ : SortKind} {D : Kd → Prop} {L : Kd → Kd → Bool} {a b o : Array Kd} {i j N : Nat} {xs : Array Kd} {p : Array (Nat × Nat × Nat)} {m : Nat}
def H2 (κ : SortKind) (L : Kd → Kd → Bool) (a b xs : Array Kd) (p : Array (Nat × Nat × Nat)) (N : Nat) (r : ForInStep Hi2) (st : SortSt) : Prop := (∃ m', st = S κ xs p m') ∧ match r with
  | .done c => OKh L a b N c.1 c.2.2.2.1 c.2.1 c.2.2.1
  | .yield c => c.1 = none ∧ OKh L a b N none c.2.2.2.1 c.2.1 c.2.2.1
theorem Mg.z (V : Env M A s κ D L) (G : Mg D L a b) (t : Nat) (ht : t < a.size) : L (g a t) (g b 0) = false := V.tr _ _ _ G.h0 (G.ra.g V.rfl' (Nat.zero_le _) ht)
theorem hiC_at (V : Env M A s κ D L) (G : Mg D L a b) {mg ac bc : Nat} (h : MH L a.toList b.toList o.toList.reverse i j) (i1 : 1 ≤ i) (i2 : i ≤ a.size) (j1 : 2 ≤ j) (j2 : j ≤ b.size) (hk : ∀ v, v < j → v < b.size → L (g a (i - 1)) (g b v) = false) (hN : N + i + j ≤ a.size + b.size) :
    wpS M A E s (hiC a b mg ac bc i j o) (H2 κ L a b xs p (N + 1)) (S κ xs p m) := by
  unfold hiC
  refine wpS_bind (elemW (by omega) ?_)
  have h' := h.pa i1 i2 hk
  by_cases c : (i - 1 == 0) = true
  · rw [if_pos c]; exact wpS_pure ⟨⟨_, rfl⟩, h'.finA c⟩
  · rw [if_neg c]
    have c : i - 1 ≠ 0 := fun z => c (beq_iff_eq.mpr z)
    by_cases c2 : (decide (ac < 7) && decide (bc < 7)) = true
    · rw [if_pos c2]; exact wpS_pure ⟨⟨_, rfl⟩, h', by dsimp only; omega, by dsimp only; omega, j1, j2, by dsimp only; omega⟩
    · rw [if_neg c2]; exact wpS_pure ⟨⟨_, rfl⟩, rfl, h', by dsimp only; omega, by dsimp only; omega, j1, j2, by dsimp only; omega⟩
theorem hiB_at (V : Env M A s κ D L) (G : Mg D L a b) {mg ac bc : Nat} (h : MH L a.toList b.toList o.toList.reverse i j) (i1 : 1 ≤ i) (i2 : i ≤ a.size) (j1 : 2 ≤ j) (j2 : j ≤ b.size) (hk : ∀ v, v < i → v < a.size → L (g b (j - 1)) (g a v) = false) (hN : N + i + j ≤ a.size + b.size) :
    wpS M A E s (hiB a b mg ac bc j i o) (H2 κ L a b xs p (N + 1)) (S κ xs p m) := by
  unfold hiB
  refine wpS_bind (elemW (by omega) ?_)
  have h' := h.pb (by omega) j2 hk
  by_cases c : (j - 1 == 1) = true
  · rw [if_pos c]; exact wpS_pure ⟨⟨_, rfl⟩, h'.la c (by omega) (G.z V)⟩
  · rw [if_neg c]
    have c : j - 1 ≠ 1 := fun z => c (beq_iff_eq.mpr z)
    refine wpS_bind (elemW (by omega) (wpS_bind (V.gallop (G.Da _ (g_mem (by omega))) G.Db (by omega) (by omega) (fun i j hij hj => G.rb.g V.rfl' (by omega) (by omega)) fun t ht k1 k2 => ?_)))
    dsimp only
    have k1' : ∀ u, u < t → L (g b u) (g a (i - 1)) = true := fun u hu => by have := k1 u hu; unfold bey at this; simpa using this
    have k2' : ∀ u, t ≤ u → u < j - 1 → L (g b u) (g a (i - 1)) = false := fun u hu hu2 => by have := k2 u hu hu2; unfold bey at this; simpa using this
    have h2 := h'.mb ht fun u u1 u2 u3 v v1 v2 => V.tr _ _ _ (G.ra.g V.rfl' (show v ≤ i - 1 by omega) (by omega)) (k2' u u1 u2)
    have k3 : ∀ v, v < t → v < b.size → L (g a (i - 1)) (g b v) = false := fun v v1 v2 => V.asym _ _ (k1' v v1)
    by_cases c2 : j - 1 - t > 0
    · rw [if_pos c2]
      by_cases c3 : (t == 1) = true
      · rw [if_pos c3]; exact wpS_pure ⟨⟨_, rfl⟩, h2.la c3 (by omega) (G.z V)⟩
      · rw [if_neg c3]
        by_cases c4 : (t == 0) = true
        · rw [if_pos c4]; exact wpS_pure ⟨⟨_, rfl⟩, h2.finB c4⟩
        · rw [if_neg c4]
          have c3 : t ≠ 1 := fun z => c3 (beq_iff_eq.mpr z)
          have c4 : t ≠ 0 := fun z => c4 (beq_iff_eq.mpr z)
          exact hiC_at V G h2 i1 i2 (by omega) (by omega) k3 (by omega)
    · rw [if_neg c2]
      have e : t = j - 1 := by omega
      subst e
      exact hiC_at V G h' i1 i2 (by omega) (by omega) k3 (by omega)
theorem hiA_at (V : Env M A s κ D L) (G : Mg D L a b) {mg ac bc : Nat} (h : MH L a.toList b.toList o.toList.reverse i j) (i1 : 1 ≤ i) (i2 : i ≤ a.size) (j1 : 2 ≤ j) (j2 : j ≤ b.size) (hN : N + i + j ≤ a.size + b.size) :
    wpS M A E s (hiA a b o i j ac bc mg) (H2 κ L a b xs p (N + 1)) (S κ xs p m) := by
  unfold hiA
  rw [setG'_eq]
  refine wpS_bind (wpS_modify ?_)
  show wpS M A E s _ _ (S κ xs p mg)
  refine wpS_bind (elemW (by omega) (wpS_bind (V.gallop (G.Db _ (g_mem (by omega))) G.Da (by omega) (by omega) (fun i j hij hj => G.ra.g V.rfl' (by omega) (by omega)) fun t ht k1 k2 => ?_)))
  dsimp only
  have k1' : ∀ u, u < t → L (g b (j - 1)) (g a u) = false := fun u hu => by have := k1 u hu; unfold bey at this; simpa using this
  have k2' : ∀ u, t ≤ u → u < i → L (g b (j - 1)) (g a u) = true := fun u hu hu2 => by have := k2 u hu hu2; unfold bey at this; simpa using this
  have h2 := h.ma ht fun u u1 u2 u3 v v1 v2 => V.tr _ _ _ (G.rb.g V.rfl' (show v ≤ j - 1 by omega) (by omega)) (V.asym _ _ (k2' u u1 u2))
  by_cases c2 : i - t > 0
  · rw [if_pos c2]
    by_cases c3 : (t == 0) = true
    · rw [if_pos c3]; exact wpS_pure ⟨⟨_, rfl⟩, h2.finA c3⟩
    · rw [if_neg c3]
      have c3 : t ≠ 0 := fun z => c3 (beq_iff_eq.mpr z)
      exact hiB_at V G h2 (by omega) (by omega) j1 j2 (fun v v1 v2 => k1' v v1) (by omega)
  · rw [if_neg c2]
    have e : t = i := by omega
    subst e
    exact hiB_at V G h i1 i2 j1 j2 (fun v v1 v2 => k1' v v1) hN
def H1 (κ : SortKind) (L : Kd → Kd → Bool) (a b xs : Array Kd) (p : Array (Nat × Nat × Nat)) (m : Nat) (N : Nat) (r : ForInStep Hi1) (st : SortSt) : Prop := st = S κ xs p m ∧ match r with
  | .done c => OKh L a b N c.1 c.2.2.2.1 c.2.1 c.2.2.1
  | .yield c => c.1 = none ∧ OKh L a b N none c.2.2.2.1 c.2.1 c.2.2.1
theorem hiF_at (V : Env M A s κ D L) (G : Mg D L a b) {mg : Nat} {c : Hi1} (h : OKh L a b N none c.2.2.2.1 c.2.1 c.2.2.1) :
    wpS M A E s (hiF a b mg c) (H1 κ L a b xs p m (N + 1)) (S κ xs p m) := by
  obtain ⟨r, i, j, o, ac, bc⟩ := c
  obtain ⟨h, i1, i2, j1, j2, hN⟩ := h
  unfold hiF
  dsimp only at h i1 i2 j1 j2 hN ⊢
  refine wpS_bind (elemW (by omega) (wpS_bind (elemW (by omega) (wpS_bind (V.lt (G.Db _ (g_mem (by omega))) (G.Da _ (g_mem (by omega))) ?_)))))
  dsimp only
  cases c : L (g b (j - 1)) (g a (i - 1)) with
  | true =>
    rw [if_pos rfl]
    refine wpS_bind (elemW (by omega) ?_)
    have h' := h.pa i1 i2 fun v v1 v2 => V.tr _ _ _ (G.rb.g V.rfl' (show v ≤ j - 1 by omega) (by omega)) (V.asym _ _ c)
    by_cases c2 : (i - 1 == 0) = true
    · rw [if_pos c2]; exact wpS_pure ⟨rfl, h'.finA c2⟩
    · rw [if_neg c2]
      have c2 : i - 1 ≠ 0 := fun z => c2 (beq_iff_eq.mpr z)
      by_cases c3 : ac + 1 ≥ mg
      · rw [if_pos c3]; exact wpS_pure ⟨rfl, h', by dsimp only; omega, by dsimp only; omega, j1, j2, by dsimp only; omega⟩
      · rw [if_neg c3]; exact wpS_pure ⟨rfl, rfl, h', by dsimp only; omega, by dsimp only; omega, j1, j2, by dsimp only; omega⟩
  | false =>
    rw [if_neg (by decide)]
    refine wpS_bind (elemW (by omega) ?_)
    have h' := h.pb (by omega) j2 fun v v1 v2 => V.tr _ _ _ (G.ra.g V.rfl' (show v ≤ i - 1 by omega) (by omega)) c
    by_cases c2 : (j - 1 == 1) = true
    · rw [if_pos c2]; exact wpS_pure ⟨rfl, h'.la c2 (by omega) (G.z V)⟩
    · rw [if_neg c2]
      have c2 : j - 1 ≠ 1 := fun z => c2 (beq_iff_eq.mpr z)
      by_cases c3 : bc + 1 ≥ mg
      · rw [if_pos c3]; exact wpS_pure ⟨rfl, h', i1, i2, by dsimp only; omega, by dsimp only; omega, by dsimp only; omega⟩
      · rw [if_neg c3]; exact wpS_pure ⟨rfl, rfl, h', i1, i2, by dsimp only; omega, by dsimp only; omega, by dsimp only; omega⟩
theorem OKh.mono {N N' : Nat} {r : Option (Array Kd)} (h : OKh L a b N r o i j) (hN : N' ≤ N) : OKh L a b N' r o i j := by
  cases r with
  | some w => exact h
  | none =>
    obtain ⟨h1, h2, h3, h4, h5, h6⟩ := h
    exact ⟨h1, h2, h3, h4, h5, by omega⟩
theorem hiG_at (V : Env M A s κ D L) (G : Mg D L a b) {c : Hi0} (h : OKh L a b N none c.2.2.2.1 c.2.1 c.2.2.1) :
    wpS M A E s (hiG a b c) (fun r st => (∃ m', st = S κ xs p m') ∧ match r with | .done c => ∃ w, c.1 = some w ∧ Good L a b w | .yield c => c.1 = none ∧ OKh L a b (N + 1) none c.2.2.2.1 c.2.1 c.2.2.1) (S κ xs p m) := by
  obtain ⟨r, i, j, o, mg⟩ := c
  unfold hiG
  dsimp only at h ⊢
  refine wpS_bind (wpS_mono (wpS_forRange (I := fun t c st => st = S κ xs p m ∧ c.1 = none ∧ OKh L a b (N + t) none c.2.2.2.1 c.2.1 c.2.2.1) (Q := fun c st => st = S κ xs p m ∧ OKh L a b (N + 1) c.1 c.2.2.2.1 c.2.1 c.2.2.1) ?_ ?_ ⟨rfl, rfl, h⟩) ?_)
  · rintro t c st - ht ⟨rfl, hc, hk⟩
    refine wpS_mono (hiF_at V G hk) fun r st h => ?_
    obtain ⟨rfl, h⟩ := h
    cases r with
    | done c => exact ⟨rfl, h.mono (by omega)⟩
    | yield c => exact ⟨rfl, h⟩
  · rintro c st ⟨rfl, hc, h⟩
    obtain ⟨h1, h2, h3, h4, h5, h6⟩ := h
    exact absurd h6 (by omega)
  rintro ⟨r, i, j, o, ac, bc⟩ st ⟨rfl, h⟩
  cases r with
  | some w => exact wpS_pure ⟨⟨_, rfl⟩, w, rfl, h⟩
  | none =>
    dsimp only at h ⊢
    refine wpS_bind (wpS_lift (wpAny_rule ⟨rfl, ?_⟩))
    refine wpS_bind (wpS_mono (wpS_forRange (I := fun t c st => (∃ m', st = S κ xs p m') ∧ c.1 = none ∧ OKh L a b (N + 1 + t) none c.2.2.2.1 c.2.1 c.2.2.1) (Q := fun c st => (∃ m', st = S κ xs p m') ∧ OKh L a b (N + 1) c.1 c.2.2.2.1 c.2.1 c.2.2.1) ?_ ?_ ⟨⟨_, rfl⟩, rfl, h⟩) ?_)
    · rintro t c st - ht ⟨⟨m', rfl⟩, hc, hk⟩
      have go : ∀ mg, wpS M A E s (hiA a b c.2.2.2.1 c.2.1 c.2.2.1 c.2.2.2.2.2.1 c.2.2.2.2.2.2 mg) (H2 κ L a b xs p (N + 1 + t + 1)) (S κ xs p m') := fun mg => hiA_at V G hk.1 hk.2.1 hk.2.2.1 hk.2.2.2.1 hk.2.2.2.2.1 hk.2.2.2.2.2
      have en : ∀ mg, wpS M A E s (hiA a b c.2.2.2.1 c.2.1 c.2.2.1 c.2.2.2.2.2.1 c.2.2.2.2.2.2 mg) _ (S κ xs p m') := fun mg => wpS_mono (go mg) (Q' := fun r st' => match r with | .done c' => (∃ m', st' = S κ xs p m') ∧ OKh L a b (N + 1) c'.1 c'.2.2.2.1 c'.2.1 c'.2.2.1 | .yield c' => (∃ m', st' = S κ xs p m') ∧ c'.1 = none ∧ OKh L a b (N + 1 + (t + 1)) none c'.2.2.2.1 c'.2.1 c'.2.2.1) fun r st h => by
        obtain ⟨q, h⟩ := h
        cases r with
        | done c => exact ⟨q, h.mono (by omega)⟩
        | yield c => exact ⟨q, h⟩
      by_cases c1 : c.2.2.2.2.1 > 1
      · rw [if_pos c1]; exact wpS_mono (en _) fun r st h => by cases r <;> exact h
      · rw [if_neg c1]; exact wpS_mono (en _) fun r st h => by cases r <;> exact h
    · rintro c st ⟨q, hc, h⟩
      obtain ⟨h1, h2, h3, h4, h5, h6⟩ := h
      exact absurd h6 (by omega)
    rintro ⟨r, i, j, o, mg, ac, bc⟩ st ⟨⟨m', rfl⟩, h⟩
    cases r with
    | some w => exact wpS_pure ⟨⟨_, rfl⟩, w, rfl, h⟩
    | none =>
      rw [setG'_eq]
      exact wpS_bind (wpS_modify (wpS_pure ⟨⟨_, rfl⟩, rfl, h⟩))
theorem Env.mergeHi (V : Env M A s κ D L) (G : Mg D L a b) {Q : Array Kd → SortSt → Prop} (ha : 0 < a.size) (hb : 0 < b.size)
    (h : ∀ o m', Good L a b o → Q o (S κ xs p m')) : wpS M A E s (mergeHi' a b) Q (S κ xs p m) := by
  rw [mergeHi'_eq]
  refine wpS_bind (wpS_lift (wpAny_rule ⟨rfl, ?_⟩))
  refine wpS_bind (elemW (by omega) ?_)
  have i0 : MH L a.toList b.toList (#[] : Array Kd).toList.reverse a.size b.size := by
    have e1 : a.toList.take a.size = a.toList := List.take_of_length_le (by simp)
    have e2 : b.toList.take b.size = b.toList := List.take_of_length_le (by simp)
    refine ⟨?_, ?_, ?_⟩
    · rw [e1]; simpa using G.ra
    · rw [e2]; simpa using G.rb
    · rw [e1, e2]; simp
  have i1 : MH L a.toList b.toList #[g a (a.size - 1)].toList.reverse (a.size - 1) b.size := i0.pa ha (Nat.le_refl _) fun v v1 v2 => G.hl v v2
  by_cases c : (a.size - 1 == 0) = true
  · rw [if_pos c]; exact wpS_pure (h _ _ (i1.finA c))
  · rw [if_neg c]
    by_cases c2 : (b.size == 1) = true
    · rw [if_pos c2]; exact wpS_pure (h _ _ (i1.la c2 hb (G.z V)))
    · rw [if_neg c2]
      have c : a.size - 1 ≠ 0 := fun z => c (beq_iff_eq.mpr z)
      have c2 : b.size ≠ 1 := fun z => c2 (beq_iff_eq.mpr z)
      refine wpS_bind (wpS_get ?_)
      refine wpS_bind (wpS_mono (wpS_forRange (I := fun t c st => (∃ m', st = S κ xs p m') ∧ c.1 = none ∧ OKh L a b t none c.2.2.2.1 c.2.1 c.2.2.1) (Q := fun c st => (∃ m', st = S κ xs p m') ∧ ∃ w, c.1 = some w ∧ Good L a b w) ?_ ?_ ⟨⟨_, rfl⟩, rfl, i1, by dsimp only; omega, by dsimp only; omega, by dsimp only; omega, Nat.le_refl _, by dsimp only; omega⟩) ?_)
      · rintro t c st - ht ⟨⟨m', rfl⟩, hc, hk⟩
        refine wpS_mono (hiG_at V G hk) fun r st h => ?_
        obtain ⟨q, h⟩ := h
        cases r with
        | done c => exact ⟨q, h⟩
        | yield c => exact ⟨q, h⟩
      · rintro c st ⟨q, hc, h⟩
        obtain ⟨h1, h2, h3, h4, h5, h6⟩ := h
        exact absurd h6 (by omega)
      · rintro ⟨r, c⟩ st ⟨⟨m', rfl⟩, w, rfl, hw⟩
        exact wpS_pure (h w _ hw)
end
end Tim
end L2

set_option Elab.async false
set_option linter.all false
set_option maxRecDepth 100000
set_option maxHeartbeats 4000000
namespace L2
namespace Tim
open PySem PySem.Spec PyProof.Rows PySem.W
theorem mergeAt'_eq (i : Nat) : mergeAt' i = (do
  let s ← get
  let (some (sa, na, pw), some (sb, nb, _)) := ((pendingOf s)[i]?, (pendingOf s)[i + 1]?) | unsupported "internal:list.sort.pending"
  set (setPending s (((pendingOf s).setIfInBounds i (sa, na + nb, pw)).eraseIdxIfInBounds (i + 1)))
  let some k ← gallop' false (← elem' (arrOf s) sb) (arrOf s) sa na 0 | return false
  let (sa, na) := (sa + k, na - k)
  if na == 0 then return true
  let some nb ← gallop' true (← elem' (arrOf s) (sa + na - 1)) (arrOf s) sb nb (nb - 1) | return false
  if nb == 0 then return true
  let x := (arrOf s).extract sa sb
  let y := (arrOf s).extract sb (sb + nb)
  let me ← if na ≤ nb then mergeLo' x y else mergeHi' x y
  modify fun s => setArr s (me.toList.zipIdx.foldl (fun a (p, j) => a.setIfInBounds (sa + j) p) (arrOf s))
  return (failedOf (← get)).isNone) := rfl
theorem put_all (sa : Nat) : ∀ (l : List Kd) (n : Nat) (xs : Array Kd) (pre mid post : List Kd), xs.toList = pre ++ mid ++ post → pre.length = sa + n → mid.length = l.length → ((l.zipIdx n).foldl (fun a (q : Kd × Nat) => a.setIfInBounds (sa + q.2) q.1) xs).toList = pre ++ l ++ post
  | [], n, xs, pre, mid, post, h1, h2, h3 => by
    have : mid = [] := List.eq_nil_of_length_eq_zero h3
    subst this
    exact h1
  | x :: l, n, xs, pre, mid, post, h1, h2, h3 => by
    cases mid with
    | nil => cases h3
    | cons y mid =>
      rw [List.zipIdx_cons, List.foldl_cons]
      have := put_all sa l (n + 1) (xs.setIfInBounds (sa + n) x) (pre ++ [x]) mid post (by
        rw [Array.toList_setIfInBounds, h1, ← h2]
        simp [List.set_append]) (by simp; omega) (by simpa using h3)
      simpa using this
section
variable {M : Model} {A : Around} {E : Value → Shared → Prop} {s : Shared} {κ : SortKind} {D : Kd → Prop} {L : Kd → Kd → Bool} {xs : Array Kd} {p : Array (Nat × Nat × Nat)} {m : Nat}
theorem wpS_set {st st' : SortSt} {Q : PUnit → SortSt → Prop} (h : Q ⟨⟩ st') : wpS M A E s (set st' : StateT SortSt Sem PUnit) Q st := by
  unfold wpS
  rw [StateT.run_set]
  exact wpAny_pure ⟨rfl, h⟩
def RI (L : Kd → Kd → Bool) (xs : Array Kd) (lo n : Nat) : Prop := ∀ i j, lo ≤ i → i ≤ j → j < lo + n → L (g xs j) (g xs i) = false
theorem RI.td {lo n : Nat} (h : RI L xs lo n) : Ri L ((xs.toList.drop lo).take n) := by
  unfold Ri
  rw [List.pairwise_iff_getElem]
  intro i j hi hj hij
  simp only [List.length_take, List.length_drop, Array.length_toList] at hi hj
  have := h (lo + i) (lo + j) (by omega) (by omega) (by omega)
  have hi' : lo + i < xs.size := by omega
  have hj' : lo + j < xs.size := by omega
  simpa [g, Array.getD, hi', hj'] using this
theorem RI.of {lo n : Nat} (hr : ∀ x, L x x = false) (h : Ri L ((xs.toList.drop lo).take n)) (hn : lo + n ≤ xs.size) : RI L xs lo n := by
  intro i j hi hij hj
  by_cases e : i = j
  · subst e; exact hr _
  · have := List.pairwise_iff_getElem.mp h (i - lo) (j - lo) (by simp; omega) (by simp; omega) (by omega)
    have hi' : i < xs.size := by omega
    have hj' : j < xs.size := by omega
    have e1 : lo + (i - lo) = i := by omega
    have e2 : lo + (j - lo) = j := by omega
    simpa [g, Array.getD, hi', hj', e1, e2] using this
theorem Env.mergeAt (V : Env M A s κ D L) {i sa na sb nb pw pw2 : Nat} {Q : Bool → SortSt → Prop} (hD : ∀ x ∈ xs.toList, D x) (p1 : p[i]? = some (sa, na, pw)) (p2 : p[i + 1]? = some (sb, nb, pw2)) (esb : sb = sa + na) (ha : 1 ≤ na) (hb : 1 ≤ nb) (hz : sa + na + nb ≤ xs.size) (hA : RI L xs sa na) (hB : RI L xs sb nb)
    (h : ∀ (xs' : Array Kd) (m' : Nat) (R : List Kd), Ri L R → R.Perm ((xs.toList.drop sa).take (na + nb)) → xs'.toList = xs.toList.take sa ++ R ++ xs.toList.drop (sa + na + nb) → Q true (S κ xs' ((p.setIfInBounds i (sa, na + nb, pw)).eraseIdxIfInBounds (i + 1)) m')) :
    wpS M A E s (mergeAt' i) Q (S κ xs p m) := by
  subst esb
  rw [mergeAt'_eq]
  refine wpS_bind (wpS_get ?_)
  show wpS M A E s (match (p[i]?, p[i + 1]?) with | (some (sa, na, pw), some (sb, nb, _)) => _ | _ => _) Q _
  rw [p1, p2]
  dsimp only
  refine wpS_bind (wpS_set ?_)
  show wpS M A E s _ Q (S κ xs ((p.setIfInBounds i (sa, na + nb, pw)).eraseIdxIfInBounds (i + 1)) m)
  refine wpS_bind (elemW (by show sa + na < xs.size; omega) ?_)
  refine wpS_bind (V.gallop (arr := xs) (hD _ (g_mem (by omega))) hD (by omega) (by omega) (fun i j hij hj => hA _ _ (by omega) (by omega) (by omega)) fun k hk k1 k2 => ?_)
  dsimp only
  have k1' : ∀ t, sa ≤ t → t < sa + k → L (g xs (sa + na)) (g xs t) = false := fun t t1 t2 => by
    have := k1 (t - sa) (by omega); unfold bey at this
    rw [show sa + (t - sa) = t by omega] at this; simpa using this
  have k2' : ∀ t, sa + k ≤ t → t < sa + na → L (g xs (sa + na)) (g xs t) = true := fun t t1 t2 => by
    have := k2 (t - sa) (by omega) (by omega); unfold bey at this
    rw [show sa + (t - sa) = t by omega] at this; simpa using this
  have q1 : ∀ t u, sa ≤ t → t < sa + k → sa + na ≤ u → u < sa + na + nb → L (g xs u) (g xs t) = false := fun t u t1 t2 u1 u2 => V.tr _ _ _ (k1' t t1 t2) (hB _ _ (Nat.le_refl _) u1 u2)
  have split3 : xs.toList = xs.toList.take sa ++ (xs.toList.drop sa).take (na + nb) ++ xs.toList.drop (sa + na + nb) := by
    rw [List.append_assoc]
    have e1 : (xs.toList.drop sa).take (na + nb) ++ xs.toList.drop (sa + na + nb) = xs.toList.drop sa := by
      rw [show sa + na + nb = sa + (na + nb) by omega, ← List.drop_drop]; exact List.take_append_drop _ _
    rw [e1]; exact (List.take_append_drop _ _).symm
  have same : (∀ t u, sa ≤ t → t < sa + na → sa + na ≤ u → u < sa + na + nb → L (g xs u) (g xs t) = false) → wpS M A E s (pure true) Q (S κ xs ((p.setIfInBounds i (sa, na + nb, pw)).eraseIdxIfInBounds (i + 1)) m) := fun hh => by
    refine wpS_pure (h xs m _ (RI.td (n := na + nb) fun i j i1 ij j1 => ?_) (List.Perm.refl _) split3)
    by_cases c1 : j < sa + na
    · exact hA _ _ i1 ij c1
    · by_cases c2 : i < sa + na
      · exact hh _ _ i1 c2 (by omega) (by omega)
      · exact hB _ _ (by omega) ij (by omega)
  by_cases c : (na - k == 0) = true
  · rw [if_pos c]
    have c := beq_iff_eq.mp c
    exact same fun t u t1 t2 u1 u2 => q1 t u t1 (by omega) u1 u2
  · rw [if_neg c]
    have c : na - k ≠ 0 := fun z => c (beq_iff_eq.mpr z)
    refine wpS_bind (elemW (by show sa + k + (na - k) - 1 < xs.size; omega) ?_)
    refine wpS_bind (V.gallop (arr := xs) (hD _ (g_mem (by omega))) hD (by omega) (by omega) (fun i j hij hj => hB _ _ (by omega) (by omega) (by omega)) fun n hn n1 n2 => ?_)
    dsimp only
    rw [show sa + k + (na - k) - 1 = sa + na - 1 by omega] at n1 n2
    have n1' : ∀ t, sa + na ≤ t → t < sa + na + n → L (g xs t) (g xs (sa + na - 1)) = true := fun t t1 t2 => by
      have := n1 (t - (sa + na)) (by omega); unfold bey at this
      rw [show sa + na + (t - (sa + na)) = t by omega] at this; simpa using this
    have n2' : ∀ t, sa + na + n ≤ t → t < sa + na + nb → L (g xs t) (g xs (sa + na - 1)) = false := fun t t1 t2 => by
      have := n2 (t - (sa + na)) (by omega) (by omega); unfold bey at this
      rw [show sa + na + (t - (sa + na)) = t by omega] at this; simpa using this
    have q2 : ∀ t u, sa ≤ t → t < sa + na → sa + na + n ≤ u → u < sa + na + nb → L (g xs u) (g xs t) = false := fun t u t1 t2 u1 u2 => V.tr _ _ _ (hA _ _ t1 (show t ≤ sa + na - 1 by omega) (by omega)) (n2' u u1 u2)
    by_cases c2 : (n == 0) = true
    · rw [if_pos c2]
      have c2 := beq_iff_eq.mp c2
      exact same fun t u t1 t2 u1 u2 => q2 t u t1 t2 (by omega) u2
    · rw [if_neg c2]
      have c2 : n ≠ 0 := fun z => c2 (beq_iff_eq.mpr z)
      show wpS M A E s (do
        let me ← if na - k ≤ n then mergeLo' (xs.extract (sa + k) (sa + na)) (xs.extract (sa + na) (sa + na + n)) else mergeHi' (xs.extract (sa + k) (sa + na)) (xs.extract (sa + na) (sa + na + n))
        modify fun s => setArr s (me.toList.zipIdx.foldl (fun a (q : Kd × Nat) => a.setIfInBounds (sa + k + q.2) q.1) (arrOf s))
        let s ← get
        return (failedOf s).isNone) Q _
      have zx : (xs.extract (sa + k) (sa + na)).size = na - k := by simp; omega
      have zy : (xs.extract (sa + na) (sa + na + n)).size = n := by simp; omega
      have gx : ∀ t, t < na - k → g (xs.extract (sa + k) (sa + na)) t = g xs (sa + k + t) := fun t ht => g_of (by
        rw [Array.getElem?_extract]; rw [if_pos (by omega)])
      have gy : ∀ t, t < n → g (xs.extract (sa + na) (sa + na + n)) t = g xs (sa + na + t) := fun t ht => g_of (by
        rw [Array.getElem?_extract]; rw [if_pos (by omega)])
      have lx : (xs.extract (sa + k) (sa + na)).toList = (xs.toList.drop (sa + k)).take (na - k) := by rw [ext_m]; congr 1; omega
      have ly : (xs.extract (sa + na) (sa + na + n)).toList = (xs.toList.drop (sa + na)).take n := ext_k _ _ _
      have G : Mg D L (xs.extract (sa + k) (sa + na)) (xs.extract (sa + na) (sa + na + n)) := {
        Da := fun x hx => by rw [lx] at hx; exact hD x (List.mem_of_mem_drop (List.mem_of_mem_take hx))
        Db := fun x hx => by rw [ly] at hx; exact hD x (List.mem_of_mem_drop (List.mem_of_mem_take hx))
        ra := by rw [lx]; exact RI.td fun i j i1 ij j1 => hA _ _ (by omega) ij (by omega)
        rb := by rw [ly]; exact RI.td fun i j i1 ij j1 => hB _ _ (by omega) ij (by omega)
        h0 := by rw [gx 0 (by omega), gy 0 (by omega)]; exact V.asym _ _ (k2' _ (by omega) (by omega))
        hl := fun t ht => by
          rw [zy] at ht
          rw [zx, gx _ (by omega), gy t ht, show sa + k + (na - k - 1) = sa + na - 1 by omega]
          exact V.asym _ _ (n1' _ (by omega) (by omega)) }
      have fin : ∀ (w : Array Kd) (m' : Nat), Good L (xs.extract (sa + k) (sa + na)) (xs.extract (sa + na) (sa + na + n)) w → wpS M A E s (do
        modify fun s => setArr s (w.toList.zipIdx.foldl (fun a (q : Kd × Nat) => a.setIfInBounds (sa + k + q.2) q.1) (arrOf s))
        let s ← get
        return (failedOf s).isNone) Q (S κ xs ((p.setIfInBounds i (sa, na + nb, pw)).eraseIdxIfInBounds (i + 1)) m') := fun w m' hw => by
        obtain ⟨w1, w2⟩ := hw
        rw [lx, ly] at w2
        refine wpS_bind (wpS_modify (wpS_bind (wpS_get (wpS_pure ?_))))
        have cut : (xs.toList.drop sa).take (na + nb) = (xs.toList.drop sa).take k ++ ((xs.toList.drop (sa + k)).take (na - k) ++ (xs.toList.drop (sa + na)).take n) ++ (xs.toList.drop (sa + na + n)).take (nb - n) := by
          rw [take_m (xs.toList.drop sa) (show k ≤ na + nb by omega), List.drop_drop, take_m (xs.toList.drop (sa + k)) (show na - k ≤ na + nb - k by omega), List.drop_drop, show sa + k + (na - k) = sa + na by omega, show na + nb - k - (na - k) = nb by omega, take_m (xs.toList.drop (sa + na)) (show n ≤ nb by omega), List.drop_drop]
          simp only [List.append_assoc]
        have wl : w.toList.length = na - k + n := by
          rw [w2.length_eq]; simp; omega
        refine h _ m' ((xs.toList.drop sa).take k ++ w.toList ++ (xs.toList.drop (sa + na + n)).take (nb - n)) ?_ ?_ ?_
        · have inw : ∀ x ∈ w.toList, (∃ t, sa + k ≤ t ∧ t < sa + na ∧ x = g xs t) ∨ (∃ t, sa + na ≤ t ∧ t < sa + na + n ∧ x = g xs t) := fun x hx => by
            rcases List.mem_append.mp (w2.mem_iff.mp hx) with hx | hx
            · obtain ⟨t, t1, t2, t3, e⟩ := mem_td hx
              exact .inl ⟨t, t1, by omega, e⟩
            · obtain ⟨t, t1, t2, t3, e⟩ := mem_td hx
              exact .inr ⟨t, t1, by omega, e⟩
          have r1 : Ri L ((xs.toList.drop sa).take k) := RI.td fun i j i1 ij j1 => hA _ _ i1 ij (by omega)
          have r2 : Ri L ((xs.toList.drop (sa + na + n)).take (nb - n)) := RI.td fun i j i1 ij j1 => hB _ _ (by omega) ij (by omega)
          unfold Ri at *
          rw [List.pairwise_append, List.pairwise_append]
          refine ⟨⟨r1, w1, fun x hx y hy => ?_⟩, r2, fun x hx y hy => ?_⟩
          · obtain ⟨t, t1, t2, t3, rfl⟩ := mem_td hx
            rcases inw y hy with ⟨u, u1, u2, rfl⟩ | ⟨u, u1, u2, rfl⟩
            · exact hA _ _ t1 (by omega) u2
            · exact q1 _ _ t1 t2 u1 (by omega)
          · obtain ⟨u, u1, u2, u3, rfl⟩ := mem_td hy
            rcases List.mem_append.mp hx with hx | hx
            · obtain ⟨t, t1, t2, t3, rfl⟩ := mem_td hx
              exact q1 _ _ t1 t2 (by omega) (by omega)
            · rcases inw x hx with ⟨t, t1, t2, rfl⟩ | ⟨t, t1, t2, rfl⟩
              · exact q2 _ _ (by omega) t2 u1 (by omega)
              · exact hB _ _ t1 (by omega) (by omega)
        · rw [cut]
          exact List.Perm.append_right _ (List.Perm.append_left _ w2)
        · have e : xs.toList = (xs.toList.take sa ++ (xs.toList.drop sa).take k) ++ ((xs.toList.drop (sa + k)).take (na - k) ++ (xs.toList.drop (sa + na)).take n) ++ ((xs.toList.drop (sa + na + n)).take (nb - n) ++ xs.toList.drop (sa + na + nb)) := by
            have := split3
            rw [cut] at this
            simp only [List.append_assoc] at this ⊢
            exact this
          have := put_all (sa + k) w.toList 0 xs _ _ _ e (by simp; omega) (by rw [wl]; simp; omega)
          simp only [List.append_assoc] at this ⊢
          exact this
      by_cases c3 : na - k ≤ n
      · rw [if_pos c3]
        exact wpS_bind (V.mergeLo G (by omega) (by omega) fun w m' hw => fin w m' hw)
      · rw [if_neg c3]
        exact wpS_bind (V.mergeHi G (by omega) (by omega) fun w m' hw => fin w m' hw)
end
end Tim
end L2

set_option Elab.async false
set_option linter.all false
set_option maxRecDepth 100000
set_option maxHeartbeats 4000000
namespace L2
namespace Tim
open PySem PySem.Spec PyProof.Rows PySem.W
abbrev As := Option (Option Nat) × Nat
abbrev Ds := Option (Option Nat) × Nat × Nat
def ascL (lo a z : Nat) : StateT SortSt Sem As := forIn [a:z] ((none, a) : As) fun _ c => do
  let q ← ltAt' (lo + c.2) (lo + c.2 - 1)
  match q with
  | some sm => if sm = true then pure (.done (none, c.2)) else pure (.yield (none, c.2 + 1))
  | _ => pure (.done (some none, c.2))
def tailL (lo n z : Nat) : StateT SortSt Sem (Option Nat) := do
  reverseSlice' lo (lo + n)
  let c ← ascL lo n z
  match c.1 with
  | some r => pure r
  | none => pure (some c.2)
def dscL (lo n z : Nat) : StateT SortSt Sem Ds := forIn [n:z] ((none, n, 0) : Ds) fun _ c => do
  let q ← ltAt' (lo + c.2.1) (lo + c.2.1 - 1)
  match q with
  | some sm =>
    if sm = true then
      if c.2.2 > 0 then do
        reverseSlice' (lo + c.2.1 - (c.2.2 + 1)) (lo + c.2.1)
        pure (.yield (none, c.2.1 + 1, 0))
      else pure (.yield (none, c.2.1 + 1, 0))
    else do
      let q ← ltAt' (lo + c.2.1 - 1) (lo + c.2.1)
      match q with
      | some la => if la = true then pure (.done (none, c.2.1, c.2.2)) else pure (.yield (none, c.2.1 + 1, c.2.2 + 1))
      | _ => pure (.done (some none, c.2.1, c.2.2))
  | _ => pure (.done (some none, c.2.1, c.2.2))
def dscP (lo n z : Nat) : StateT SortSt Sem (Option Nat) := do
  liftM (rule "list.sort.descending-run")
  let c ← dscL lo (n + 1) z
  match c.1 with
  | some r => pure r
  | none =>
    if c.2.2 > 0 then do
      reverseSlice' (lo + c.2.1 - (c.2.2 + 1)) (lo + c.2.1)
      tailL lo c.2.1 z
    else tailL lo c.2.1 z
theorem countL_eq (lo z : Nat) : countRun' lo z = (do
    let c ← ascL lo 1 z
    match c.1 with
    | some r => pure r
    | none =>
      if (c.2 == z) = true then pure (some c.2)
      else if c.2 > 1 then do
        let q ← ltAt' lo (lo + c.2 - 1)
        match q with
        | some ro => if ro = true then pure (some c.2) else do
            reverseSlice' lo (lo + c.2)
            dscP lo c.2 z
        | _ => pure none
      else dscP lo c.2 z) := by
  rw [countRun'_eq]
  refine bnd rfl fun c => ?_
  obtain ⟨r, c⟩ := c
  cases r with
  | some r => rfl
  | none =>
    refine ite2 (ite3 (bnd rfl fun q => ?_) ?_)
    · cases q with
      | none => rfl
      | some q => exact ite2 (bnd rfl fun _ => by (refine bnd rfl fun _ => ?_; refine bnd rfl fun c => ?_; obtain ⟨r, c1, c2⟩ := c; (cases r; rotate_left; rfl); (refine ite3 (bnd rfl fun _ => ?_) ?_ <;> (refine bnd rfl fun _ => ?_; refine bnd rfl fun c => ?_; obtain ⟨r, c⟩ := c; cases r <;> rfl))))
    · (refine bnd rfl fun _ => ?_; refine bnd rfl fun c => ?_; obtain ⟨r, c1, c2⟩ := c; (cases r; rotate_left; rfl); (refine ite3 (bnd rfl fun _ => ?_) ?_ <;> (refine bnd rfl fun _ => ?_; refine bnd rfl fun c => ?_; obtain ⟨r, c⟩ := c; cases r <;> rfl)))
section
variable {M : Model} {A : Around} {E : Value → Shared → Prop} {s : Shared} {κ : SortKind} {D : Kd → Prop} {L : Kd → Kd → Bool} {xs xs' : Array Kd} {p : Array (Nat × Nat × Nat)} {m lo : Nat}
def Ke (lo : Nat) (xs xs' : Array Kd) : Prop := xs'.Perm xs ∧ ∀ i, i < lo → g xs' i = g xs i
theorem Ke.refl (lo : Nat) (xs : Array Kd) : Ke lo xs xs := ⟨Array.Perm.refl _, fun _ _ => rfl⟩
theorem Ke.trans {a b c : Array Kd} (h : Ke lo a b) (h' : Ke lo b c) : Ke lo a c := ⟨h'.1.trans h.1, fun i hi => (h'.2 i hi).trans (h.2 i hi)⟩
theorem Ke.size {a b : Array Kd} (h : Ke lo a b) : b.size = a.size := h.1.size_eq
theorem Ke.dom {a b : Array Kd} (h : Ke lo a b) (hD : ∀ x ∈ a.toList, D x) : ∀ x ∈ b.toList, D x := fun x hx => hD x ((Array.perm_iff_toList_perm.mp h.1).mem_iff.mp hx)
theorem g_mir {u v : Nat} (hv : v ≤ xs.size) (k : Nat) : g (mirror xs u v ((v - u) / 2)) k = if u ≤ k ∧ k < v then g xs (u + v - 1 - k) else g xs k := by
  have e := getElem?_mirror_all (i := u) hv k
  by_cases c : u ≤ k ∧ k < v
  · rw [if_pos c] at e ⊢; exact g_of e
  · rw [if_neg c] at e ⊢; exact g_of e
theorem Ke.mir {u v : Nat} (hu : lo ≤ u) (hv : v ≤ xs.size) : Ke lo xs (mirror xs u v ((v - u) / 2)) := ⟨mirror_perm _ _ _ _, fun i hi => by rw [g_mir hv, if_neg (by omega)]⟩
theorem revW {u v : Nat} {Q : Unit → SortSt → Prop} (h : Q () (S κ (mirror xs u v ((v - u) / 2)) p m)) : wpS M A E s (reverseSlice' u v) Q (S κ xs p m) := by
  rw [reverseSlice'_eq]; exact wpS_modify h
def DN (L : Kd → Kd → Bool) (xs : Array Kd) (lo n : Nat) : Prop := ∀ i j, lo ≤ i → i ≤ j → j < lo + n → L (g xs i) (g xs j) = false
def EQ (L : Kd → Kd → Bool) (xs : Array Kd) (u v : Nat) : Prop := ∀ i j, u ≤ i → i < v → u ≤ j → j < v → L (g xs i) (g xs j) = false
theorem DN.mir {n u v : Nat} (h : DN L xs lo n) (hu : lo ≤ u) (hv : v ≤ lo + n) (hz : v ≤ xs.size) (e : EQ L xs u v) : DN L (mirror xs u v ((v - u) / 2)) lo n := by
  intro i j i1 ij j1
  rw [g_mir hz, g_mir hz]
  by_cases ci : u ≤ i ∧ i < v
  · rw [if_pos ci]
    by_cases cj : u ≤ j ∧ j < v
    · rw [if_pos cj]; exact e _ _ (by omega) (by omega) (by omega) (by omega)
    · rw [if_neg cj]; exact h _ _ (by omega) (by omega) j1
  · rw [if_neg ci]
    by_cases cj : u ≤ j ∧ j < v
    · rw [if_pos cj]; exact h _ _ i1 (by omega) (by omega)
    · rw [if_neg cj]; exact h _ _ i1 ij j1
theorem DN.up {n : Nat} (h : DN L xs lo n) (hz : lo + n ≤ xs.size) : RI L (mirror xs lo (lo + n) ((lo + n - lo) / 2)) lo n := by
  intro i j i1 ij j1
  rw [g_mir hz, g_mir hz, if_pos (by omega), if_pos (by omega)]
  exact h _ _ (by omega) (by omega) (by omega)
theorem RI.step (V : Env M A s κ D L) {n : Nat} (h : RI L xs lo n) (h1 : 1 ≤ n) (hl : L (g xs (lo + n)) (g xs (lo + n - 1)) = false) : RI L xs lo (n + 1) := by
  intro i j i1 ij j1
  by_cases c : j < lo + n
  · exact h _ _ i1 ij c
  · have e : j = lo + n := by omega
    subst e
    by_cases c2 : i = lo + n
    · rw [c2]; exact V.rfl' _
    · exact V.tr _ _ _ (h i (lo + n - 1) i1 (by omega) (by omega)) hl
theorem DN.step (V : Env M A s κ D L) {n : Nat} (h : DN L xs lo n) (h1 : 1 ≤ n) (hl : L (g xs (lo + n - 1)) (g xs (lo + n)) = false) : DN L xs lo (n + 1) := by
  intro i j i1 ij j1
  by_cases c : j < lo + n
  · exact h _ _ i1 ij c
  · have e : j = lo + n := by omega
    subst e
    by_cases c2 : i = lo + n
    · rw [c2]; exact V.rfl' _
    · exact V.tr _ _ _ hl (h i (lo + n - 1) i1 (by omega) (by omega))
theorem ascL_at (V : Env M A s κ D L) (hD : ∀ x ∈ xs.toList, D x) {a z : Nat} {Q : As → SortSt → Prop} (h1 : 1 ≤ a) (ha : a ≤ z) (hz : lo + z ≤ xs.size) (hr : RI L xs lo a)
    (h : ∀ n, a ≤ n → n ≤ z → RI L xs lo n → (n = z ∨ L (g xs (lo + n)) (g xs (lo + n - 1)) = true) → Q (none, n) (S κ xs p m)) : wpS M A E s (ascL lo a z) Q (S κ xs p m) := by
  unfold ascL
  refine wpS_forRange (I := fun t c st => st = S κ xs p m ∧ c = (none, t) ∧ RI L xs lo t) ?_ ?_ ⟨rfl, rfl, hr⟩
  · rintro t c st t1 t2 ⟨rfl, rfl, hr⟩
    dsimp only
    refine wpS_bind (V.ltAt hD (by omega) (by omega) ?_)
    cases b : L (g xs (lo + t)) (g xs (lo + t - 1)) with
    | true => exact wpS_pure (h t t1 (by omega) hr (.inr b))
    | false => exact wpS_pure ⟨rfl, rfl, hr.step V (by omega) b⟩
  · rintro c st ⟨rfl, rfl, hr⟩
    rw [show max a z = z by omega] at hr ⊢
    exact h z ha (Nat.le_refl _) hr (.inl rfl)
theorem tailL_at (V : Env M A s κ D L) (hD : ∀ x ∈ xs.toList, D x) {n z : Nat} {Q : Option Nat → SortSt → Prop} (h1 : 1 ≤ n) (hn : n ≤ z) (hz : lo + z ≤ xs.size) (hr : DN L xs lo n)
    (h : ∀ k xs', Ke lo xs xs' → 1 ≤ k → k ≤ z → RI L xs' lo k → Q (some k) (S κ xs' p m)) : wpS M A E s (tailL lo n z) Q (S κ xs p m) := by
  unfold tailL
  refine wpS_bind (revW ?_)
  have k := Ke.mir (xs := xs) (u := lo) (v := lo + n) (Nat.le_refl lo) (by omega)
  refine wpS_bind (ascL_at V (k.dom hD) h1 hn (by rw [k.size]; exact hz) (hr.up (by omega)) fun q q1 q2 q3 q4 => ?_)
  exact wpS_pure (h q _ k (by omega) q2 q3)
theorem dscL_at (V : Env M A s κ D L) (hD : ∀ x ∈ xs.toList, D x) {n z : Nat} {Q : Ds → SortSt → Prop} (h1 : 1 ≤ n) (hn : n ≤ z) (hz : lo + z ≤ xs.size) (hr : DN L xs lo n)
    (h : ∀ k q xs', Ke lo xs xs' → n ≤ k → k ≤ z → DN L xs' lo k → q + 1 ≤ k → EQ L xs' (lo + k - (q + 1)) (lo + k) → Q (none, k, q) (S κ xs' p m)) : wpS M A E s (dscL lo n z) Q (S κ xs p m) := by
  unfold dscL
  refine wpS_forRange (I := fun t c st => ∃ q xs', st = S κ xs' p m ∧ c = (none, t, q) ∧ Ke lo xs xs' ∧ DN L xs' lo t ∧ q + 1 ≤ t ∧ EQ L xs' (lo + t - (q + 1)) (lo + t)) ?_ ?_ ⟨0, xs, rfl, rfl, Ke.refl _ _, hr, by omega, fun i j i1 i2 j1 j2 => by rw [show i = j by omega]; exact V.rfl' _⟩
  · rintro t c st t1 t2 ⟨q, xs', rfl, rfl, k, dn, q1, eq⟩
    dsimp only
    have zs := k.size
    refine wpS_bind (V.ltAt (k.dom hD) (by omega) (by omega) ?_)
    cases b : L (g xs' (lo + t)) (g xs' (lo + t - 1)) with
    | true =>
      have dn' := dn.step V (by omega) (V.asym _ _ b)
      dsimp only
      rw [if_pos rfl]
      by_cases c : q > 0
      · rw [if_pos c]
        refine wpS_bind (revW (wpS_pure ⟨0, _, rfl, rfl, k.trans (Ke.mir (by omega) (by omega)), dn'.mir (by omega) (by omega) (by omega) eq, by omega, fun i j i1 i2 j1 j2 => by rw [show i = j by omega]; exact V.rfl' _⟩))
      · rw [if_neg c]
        exact wpS_pure ⟨0, _, rfl, rfl, k, dn', by omega, fun i j i1 i2 j1 j2 => by rw [show i = j by omega]; exact V.rfl' _⟩
    | false =>
      dsimp only
      rw [if_neg (by decide)]
      refine wpS_bind (V.ltAt (k.dom hD) (by omega) (by omega) ?_)
      cases b2 : L (g xs' (lo + t - 1)) (g xs' (lo + t)) with
      | true => exact wpS_pure (h t q xs' k t1 (by omega) dn q1 eq)
      | false =>
        refine wpS_pure ⟨q + 1, xs', rfl, rfl, k, dn.step V (by omega) b2, by omega, fun i j i1 i2 j1 j2 => ?_⟩
        have one : ∀ i, lo + (t + 1) - (q + 1 + 1) ≤ i → i < lo + (t + 1) → L (g xs' i) (g xs' (lo + t - 1)) = false ∧ L (g xs' (lo + t - 1)) (g xs' i) = false := fun i i1 i2 => by
          by_cases c : i = lo + t
          · rw [c]; exact ⟨b, b2⟩
          · exact ⟨eq _ _ (by omega) (by omega) (by omega) (by omega), eq _ _ (by omega) (by omega) (by omega) (by omega)⟩
        exact V.tr _ _ _ (one j j1 j2).2 (one i i1 i2).1
  · rintro c st ⟨q, xs', rfl, rfl, k, dn, q1, eq⟩
    rw [show max n z = z by omega] at dn q1 eq ⊢
    exact h z q xs' k hn (Nat.le_refl _) dn q1 eq
theorem dscP_at (V : Env M A s κ D L) (hD : ∀ x ∈ xs.toList, D x) {n z : Nat} {Q : Option Nat → SortSt → Prop} (hn : n + 1 ≤ z) (hz : lo + z ≤ xs.size) (hr : DN L xs lo (n + 1))
    (h : ∀ k xs', Ke lo xs xs' → 1 ≤ k → k ≤ z → RI L xs' lo k → Q (some k) (S κ xs' p m)) : wpS M A E s (dscP lo n z) Q (S κ xs p m) := by
  unfold dscP
  refine wpS_bind (wpS_lift (wpAny_rule ⟨rfl, ?_⟩))
  refine wpS_bind (dscL_at V hD (by omega) hn hz hr fun k q xs' ke k1 k2 dn q1 eq => ?_)
  dsimp only
  have zs := ke.size
  by_cases c : q > 0
  · rw [if_pos c]
    have k' := Ke.mir (lo := lo) (xs := xs') (u := lo + k - (q + 1)) (v := lo + k) (by omega) (by omega)
    refine wpS_bind (revW (tailL_at V (k'.dom (ke.dom hD)) (by omega) k2 (by rw [k'.size]; omega) (dn.mir (by omega) (by omega) (by omega) eq) fun j xs2 a1 a2 a3 a4 => h j xs2 ((ke.trans k').trans a1) a2 a3 a4))
  · rw [if_neg c]
    exact tailL_at V (ke.dom hD) (by omega) k2 (by omega) dn fun j xs2 a1 a2 a3 a4 => h j xs2 (ke.trans a1) a2 a3 a4
theorem Env.count (V : Env M A s κ D L) (hD : ∀ x ∈ xs.toList, D x) {z : Nat} {Q : Option Nat → SortSt → Prop} (h1 : 1 ≤ z) (hz : lo + z ≤ xs.size)
    (h : ∀ k xs', Ke lo xs xs' → 1 ≤ k → k ≤ z → RI L xs' lo k → Q (some k) (S κ xs' p m)) : wpS M A E s (countRun' lo z) Q (S κ xs p m) := by
  rw [countL_eq]
  refine wpS_bind (ascL_at V hD (Nat.le_refl 1) h1 hz (fun i j i1 ij j1 => by rw [show i = j by omega]; exact V.rfl' _) fun n n1 n2 ri ho => ?_)
  dsimp only
  by_cases c : (n == z) = true
  · rw [if_pos c]; exact wpS_pure (h n xs (Ke.refl _ _) n1 n2 ri)
  · rw [if_neg c]
    have c : n ≠ z := fun e => c (beq_iff_eq.mpr e)
    have hl := ho.resolve_left c
    by_cases c2 : n > 1
    · rw [if_pos c2]
      refine wpS_bind (V.ltAt hD (by omega) (by omega) ?_)
      cases b : L (g xs lo) (g xs (lo + n - 1)) with
      | true => exact wpS_pure (h n xs (Ke.refl _ _) n1 n2 ri)
      | false =>
        dsimp only
        rw [if_neg (by decide)]
        have eq : EQ L xs lo (lo + n) := fun i j i1 i2 j1 j2 => V.tr _ _ _ (ri j (lo + n - 1) j1 (by omega) (by omega)) (V.tr _ _ _ b (ri lo i (Nat.le_refl _) i1 i2)) |> fun z => z
        have dn : DN L xs lo n := fun i j i1 ij j1 => eq _ _ i1 (by omega) (by omega) j1
        have dn' := dn.step V (by omega) (V.asym _ _ hl)
        have k := Ke.mir (lo := lo) (xs := xs) (u := lo) (v := lo + n) (Nat.le_refl lo) (by omega)
        refine wpS_bind (revW (dscP_at V (k.dom hD) (by omega) (by rw [k.size]; exact hz) (dn'.mir (Nat.le_refl _) (by omega) (by omega) eq) fun j xs2 a1 a2 a3 a4 => h j xs2 (k.trans a1) a2 a3 a4))
    · rw [if_neg c2]
      have e : n = 1 := by omega
      subst e
      have dn : DN L xs lo 1 := fun i j i1 ij j1 => by rw [show i = j by omega]; exact V.rfl' _
      exact dscP_at V hD (by omega) hz (dn.step V (Nat.le_refl _) (V.asym _ _ hl)) h
theorem g_bub {src d : Nat} (hs : src < xs.size) (hd : d ≤ src) (k : Nat) : g (bubble xs src d) k = if k = src - d then g xs src else if src - d < k ∧ k ≤ src then g xs (k - 1) else g xs k := by
  have e := getElem?_bubble hs d hd k
  by_cases h1 : k = src - d
  · rw [if_pos h1] at e ⊢; exact g_of e
  · rw [if_neg h1] at e ⊢
    by_cases h2 : src - d < k ∧ k ≤ src
    · rw [if_pos h2] at e ⊢; exact g_of e
    · rw [if_neg h2] at e ⊢; exact g_of e
theorem Env.bin (V : Env M A s κ D L) (hD : ∀ x ∈ xs.toList, D x) {n ok : Nat} {Q : Bool → SortSt → Prop} (h1 : 1 ≤ ok) (hok : ok ≤ n) (hz : lo + n ≤ xs.size) (hr : RI L xs lo ok)
    (h : ∀ xs', Ke lo xs xs' → RI L xs' lo n → Q true (S κ xs' p m)) : wpS M A E s (binarySort' lo n ok) Q (S κ xs p m) := by
  rw [binarySort'_eq]
  refine wpS_bind (wpS_mono (wpS_forRange (I := fun k c st => c = (none, ()) ∧ ∃ xs', st = S κ xs' p m ∧ Ke lo xs xs' ∧ RI L xs' lo k) (Q := fun c st => c = (none, ()) ∧ ∃ xs', st = S κ xs' p m ∧ Ke lo xs xs' ∧ RI L xs' lo n) ?_ ?_ ?_) ?_)
  · rintro k c st k1 k2 ⟨rfl, xs', rfl, ke, ri⟩
    have zs := ke.size
    refine wpS_bind (wpS_mono (wpS_forRange (I := fun t c st => st = S κ xs' p m ∧ ∃ l r, c = (none, l, r) ∧ l ≤ r ∧ r ≤ k ∧ r - l ≤ k - t ∧ (∀ i, lo ≤ i → i < lo + l → L (g xs' (lo + k)) (g xs' i) = false) ∧ (∀ i, lo + r ≤ i → i < lo + k → L (g xs' i) (g xs' (lo + k)) = false))
      (Q := fun c st => st = S κ xs' p m ∧ ∃ l, c = (none, l, l) ∧ l ≤ k ∧ (∀ i, lo ≤ i → i < lo + l → L (g xs' (lo + k)) (g xs' i) = false) ∧ (∀ i, lo + l ≤ i → i < lo + k → L (g xs' i) (g xs' (lo + k)) = false)) ?_ ?_ ?_) ?_)
    · rintro t c st - t2 ⟨rfl, l, r, rfl, a1, a2, a3, a4, a5⟩
      dsimp only
      by_cases c : l ≥ r
      · rw [if_pos c]
        have e : l = r := by omega
        subst e
        exact wpS_pure ⟨rfl, l, rfl, a2, a4, a5⟩
      · rw [if_neg c]
        refine wpS_bind (V.ltAt (ke.dom hD) (by omega) (by omega) ?_)
        cases b : L (g xs' (lo + k)) (g xs' (lo + (l + r) / 2)) with
        | true => exact wpS_pure ⟨rfl, _, _, rfl, by omega, by omega, by omega, a4, fun i i1 i2 => V.tr _ _ _ (V.asym _ _ b) (ri _ _ (by omega) i1 i2)⟩
        | false => exact wpS_pure ⟨rfl, _, _, rfl, by omega, by omega, by omega, fun i i1 i2 => V.tr _ _ _ (ri i (lo + (l + r) / 2) i1 (by omega) (by omega)) b, a5⟩
    · rintro c st ⟨rfl, l, r, rfl, a1, a2, a3, a4, a5⟩
      have e : l = r := by omega
      subst e
      exact ⟨rfl, l, rfl, a2, a4, a5⟩
    · exact ⟨rfl, 0, k, rfl, by omega, by omega, by omega, fun i i1 i2 => by omega, fun i i1 i2 => by omega⟩
    · rintro c st ⟨rfl, l, rfl, a2, a4, a5⟩
      dsimp only
      rw [moveDown'_eq]
      refine wpS_bind (wpS_modify (wpS_pure ⟨rfl, bubble xs' (lo + k) (lo + k - (lo + l)), rfl, ke.trans ⟨bubble_perm _ _ _, fun i hi => ?_⟩, fun i j i1 ij j1 => ?_⟩))
      · rw [g_bub (by omega) (by omega), if_neg (by omega), if_neg (by omega)]
      · rw [g_bub (by omega) (by omega), g_bub (by omega) (by omega), show lo + k - (lo + k - (lo + l)) = lo + l by omega]
        by_cases c1 : i = lo + l
        · rw [if_pos c1]
          by_cases c2 : j = lo + l
          · rw [if_pos c2]; exact V.rfl' _
          · rw [if_neg c2, if_pos (by omega)]
            exact a5 _ (by omega) (by omega)
        · rw [if_neg c1]
          by_cases c2 : j = lo + l
          · rw [if_pos c2, if_neg (by omega)]
            exact a4 _ i1 (by omega)
          · rw [if_neg c2]
            by_cases c3 : lo + l < i
            · rw [if_pos (show lo + l < i ∧ i ≤ lo + k by omega), if_pos (show lo + l < j ∧ j ≤ lo + k by omega)]
              exact ri _ _ (by omega) (by omega) (by omega)
            · rw [if_neg (show ¬ (lo + l < i ∧ i ≤ lo + k) by omega)]
              by_cases c4 : lo + l < j
              · rw [if_pos (show lo + l < j ∧ j ≤ lo + k by omega)]
                exact ri _ _ i1 (by omega) (by omega)
              · rw [if_neg (show ¬ (lo + l < j ∧ j ≤ lo + k) by omega)]
                exact ri _ _ i1 ij (by omega)
  · rintro c st ⟨hc, xs', e, ke, ri⟩
    rw [show max (max ok 1) n = n by omega] at ri
    exact ⟨hc, xs', e, ke, ri⟩
  · exact ⟨rfl, xs, rfl, Ke.refl _ _, by rw [show max ok 1 = ok by omega]; exact hr⟩
  · rintro c st ⟨rfl, xs', rfl, ke, ri⟩
    exact wpS_pure (h xs' ke ri)
end
end Tim
end L2

set_option Elab.async false
set_option linter.all false
set_option maxRecDepth 100000
set_option maxHeartbeats 4000000
namespace L2
namespace Tim
open PySem PySem.Spec PyProof.Rows PySem.W
abbrev Pd := Array (Nat × Nat × Nat)
def srM (pw : Nat) : StateT SortSt Sem (ForInStep (Option Unit × Unit)) := do
  let st ← get
  match (if (pendingOf st).size > 1 then (pendingOf st)[(pendingOf st).size - 2]? else none) with
  | some (_, _, ol) =>
    if ol ≤ pw then pure (.done (none, ()))
    else do
      let b ← mergeAt' ((pendingOf st).size - 2)
      if (!b) = true then pure (.done (some (), ())) else pure (.yield (none, ()))
  | _ => pure (.done (none, ()))
def srC (lo n : Nat) : StateT SortSt Sem (ForInStep (Option Unit × Nat)) := do
  modify fun s => setPending s ((pendingOf s).push (lo, n, 0))
  pure (.yield (none, lo + n))
def srB (z lo n : Nat) : StateT SortSt Sem (ForInStep (Option Unit × Nat)) := do
  let st ← get
  match (pendingOf st).back? with
  | some (s1, n1, _) => do
    let c ← forIn [0:z] ((none, ()) : Option Unit × Unit) fun _ _ => srM (power' z (2 * s1 + n1) (2 * s1 + n1 + n1 + n) z)
    match c.1 with
    | some r => pure (.done (some r, lo))
    | none => do
      modify fun s => setPending s ((pendingOf s).modify ((pendingOf s).size - 1) fun (st, len, _) => (st, len, power' z (2 * s1 + n1) (2 * s1 + n1 + n1 + n) z))
      srC lo n
  | _ => srC lo n
def srA (z mr : Nat) (c : Option Unit × Nat) : StateT SortSt Sem (ForInStep (Option Unit × Nat)) :=
  if c.2 ≥ z then pure (.done (none, c.2))
  else do
    let q ← countRun' c.2 (z - c.2)
    match q with
    | some n =>
      if n < mr then do
        liftM (rule "list.sort.binary-insertion")
        let b ← binarySort' c.2 (min (z - c.2) mr) n
        if (!b) = true then pure (.done (some (), c.2)) else srB z c.2 (min (z - c.2) mr)
      else srB z c.2 n
    | _ => pure (.done (some (), c.2))
def srI (p : Pd) : Nat := if Option.any (fun x => decide (x < p[p.size - 2 + 1]?.elim 0 fun x => x.snd.fst)) (if p.size - 2 > 0 then Option.map (fun x => x.snd.fst) p[p.size - 2 - 1]? else none) = true then p.size - 2 - 1 else p.size - 2
def srF : StateT SortSt Sem (ForInStep (Option Unit × Unit)) := do
  let st ← get
  if (pendingOf st).size ≤ 1 then pure (.done (none, ()))
  else do
    let b ← mergeAt' (srI (pendingOf st))
    if (!b) = true then pure (.done (some (), ())) else pure (.yield (none, ()))
theorem sortR_eq : sortRuns' = (do
  let st ← get
  let c ← forIn [0:(arrOf st).size] ((none, 0) : Option Unit × Nat) fun _ => srA (arrOf st).size (minRun' (arrOf st).size (arrOf st).size 0)
  match c.1 with
  | some r => pure r
  | none => do
    let d ← forIn [0:(arrOf st).size] ((none, ()) : Option Unit × Unit) fun _ _ => srF
    match d.1 with
    | some r => pure r
    | none => pure ()) := by
  rw [sortRuns'_eq]
  refine bnd rfl fun st => ?_
  refine bnd (lp fun _ c => ?_) fun c => ?_
  · refine ite2 (bnd rfl fun q => ?_)
    cases q with
    | none => rfl
    | some n =>
      refine ite3 (bnd rfl fun _ => bnd rfl fun b => ite2 ?_) ?_
      · refine bnd rfl fun st' => ?_
        cases (pendingOf st').back? with
        | none => rfl
        | some x => exact bnd (lp fun _ _ => rfl) fun d => (by obtain ⟨r, d⟩ := d; cases r <;> rfl)
      · refine bnd rfl fun st' => ?_
        cases (pendingOf st').back? with
        | none => rfl
        | some x => exact bnd (lp fun _ _ => rfl) fun d => (by obtain ⟨r, d⟩ := d; cases r <;> rfl)
  · obtain ⟨r, c⟩ := c
    cases r with
    | some r => rfl
    | none => exact bnd (lp fun _ _ => rfl) fun d => (by obtain ⟨r, d⟩ := d; cases r <;> rfl)
def Ch (L : Kd → Kd → Bool) (xs : Array Kd) : Nat → List (Nat × Nat × Nat) → Nat → Prop
  | o, [], e => o = e
  | o, q :: l, e => q.1 = o ∧ 1 ≤ q.2.1 ∧ RI L xs o q.2.1 ∧ Ch L xs (o + q.2.1) l e
section
variable {L : Kd → Kd → Bool} {xs xs' : Array Kd}
theorem Ch.app : ∀ {l l' : List (Nat × Nat × Nat)} {o e : Nat}, Ch L xs o (l ++ l') e ↔ ∃ k, Ch L xs o l k ∧ Ch L xs k l' e
  | [], l', o, e => ⟨fun h => ⟨o, rfl, h⟩, fun ⟨k, h1, h2⟩ => by cases h1; exact h2⟩
  | q :: l, l', o, e => ⟨fun ⟨h1, h2, h3, h4⟩ => by
      obtain ⟨k, k1, k2⟩ := Ch.app.mp h4
      exact ⟨k, ⟨h1, h2, h3, k1⟩, k2⟩, fun ⟨k, ⟨h1, h2, h3, k1⟩, k2⟩ => ⟨h1, h2, h3, Ch.app.mpr ⟨k, k1, k2⟩⟩⟩
theorem Ch.len : ∀ {l : List (Nat × Nat × Nat)} {o e : Nat}, Ch L xs o l e → o + l.length ≤ e
  | [], o, e, h => Nat.le_of_eq h
  | q :: l, o, e, ⟨h1, h2, h3, h4⟩ => by have := Ch.len h4; rw [List.length_cons]; omega
theorem Ch.same : ∀ {l : List (Nat × Nat × Nat)} {o e : Nat}, (∀ i, o ≤ i → i < e → g xs' i = g xs i) → Ch L xs o l e → Ch L xs' o l e
  | [], o, e, _, h => h
  | q :: l, o, e, hs, ⟨h1, h2, h3, h4⟩ => by
    have := Ch.len h4
    refine ⟨h1, h2, fun i j i1 ij j1 => ?_, Ch.same (fun i i1 i2 => hs i (by omega) i2) h4⟩
    rw [hs i (by omega) (by omega), hs j (by omega) (by omega)]
    exact h3 i j i1 ij j1
theorem Ch.mod {f : Nat × Nat × Nat → Nat × Nat × Nat} (hf : ∀ q, (f q).1 = q.1 ∧ (f q).2.1 = q.2.1) : ∀ {l : List (Nat × Nat × Nat)} {o e : Nat} (i : Nat), Ch L xs o l e → Ch L xs o (l.modify i f) e
  | [], o, e, i, h => by cases i <;> exact h
  | q :: l, o, e, 0, ⟨h1, h2, h3, h4⟩ => by
    show (f q).1 = o ∧ 1 ≤ (f q).2.1 ∧ RI L xs o (f q).2.1 ∧ Ch L xs (o + (f q).2.1) l e
    rw [(hf q).1, (hf q).2]; exact ⟨h1, h2, h3, h4⟩
  | q :: l, o, e, i + 1, ⟨h1, h2, h3, h4⟩ => ⟨h1, h2, h3, Ch.mod hf i h4⟩
theorem two_one {q1 q2 v : Nat × Nat × Nat} {l2 : List (Nat × Nat × Nat)} : ∀ (l1 : List (Nat × Nat × Nat)), ((l1 ++ q1 :: q2 :: l2).set l1.length v).eraseIdx (l1.length + 1) = l1 ++ v :: l2
  | [] => rfl
  | x :: l1 => by
    show x :: ((l1 ++ q1 :: q2 :: l2).set l1.length v).eraseIdx (l1.length + 1) = x :: (l1 ++ v :: l2)
    rw [two_one l1]
theorem g_l {xs ys : Array Kd} {i j : Nat} (h : xs.toList[i]? = ys.toList[j]?) : g xs i = g ys j := g_of (by simpa using h)
end
section
variable {M : Model} {A : Around} {E : Value → Shared → Prop} {s : Shared} {κ : SortKind} {D : Kd → Prop} {L : Kd → Kd → Bool} {xs : Array Kd} {p : Pd} {m : Nat}
theorem Env.mergeCh (V : Env M A s κ D L) {i e : Nat} {Q : Bool → SortSt → Prop} (hD : ∀ x ∈ xs.toList, D x) (hi : i + 1 < p.size) (he : e ≤ xs.size) (hc : Ch L xs 0 p.toList e)
    (h : ∀ (xs' : Array Kd) (p' : Pd) (m' : Nat), xs'.toList.Perm xs.toList → (∀ i, e ≤ i → g xs' i = g xs i) → Ch L xs' 0 p'.toList e → p'.size + 1 = p.size → Q true (S κ xs' p' m')) :
    wpS M A E s (mergeAt' i) Q (S κ xs p m) := by
  have pl : i + 1 < p.toList.length := by simpa using hi
  have hcut : p.toList = p.toList.take i ++ p.toList[i] :: p.toList[i + 1] :: p.toList.drop (i + 2) := by
    have e1 := (List.take_append_drop i p.toList).symm
    rw [List.drop_eq_getElem_cons (by omega), List.drop_eq_getElem_cons pl] at e1
    exact e1
  have ll : (p.toList.take i).length = i := by simp; omega
  have g1 : p[i]? = some p.toList[i] := by rw [← Array.getElem?_toList]; exact List.getElem?_eq_getElem _
  have g2 : p[i + 1]? = some p.toList[i + 1] := by rw [← Array.getElem?_toList]; exact List.getElem?_eq_getElem _
  generalize p.toList[i] = q1 at hcut g1
  generalize p.toList[i + 1] = q2 at hcut g2
  generalize p.toList.take i = l1 at hcut ll
  generalize p.toList.drop (i + 2) = l2 at hcut
  obtain ⟨sa, na, pw⟩ := q1
  obtain ⟨sb, nb, pw2⟩ := q2
  rw [hcut] at hc
  obtain ⟨k, c1, c2, c3, c4, c5, c6, c7, c8⟩ := Ch.app.mp hc
  dsimp only at c2 c3 c4 c5 c6 c7 c8
  subst c2
  have le1 := c1.len
  have le2 := c8.len
  refine V.mergeAt hD g1 g2 c5 c3 c6 (by omega) c4 (by rw [c5]; exact c7) fun xs' m' R r1 r2 r3 => ?_
  have rl : R.length = na + nb := by rw [r2.length_eq]; simp; omega
  have tl : (xs.toList.take sa).length = sa := by simp; omega
  have zz : xs'.size = xs.size := by
    have := congrArg List.length r3
    simp [rl] at this; omega
  have low : ∀ i, i < sa → g xs' i = g xs i := fun i hi => g_l (by
    rw [r3, List.append_assoc, List.getElem?_append_left (by omega), List.getElem?_take, if_pos hi])
  have high : ∀ i, sa + na + nb ≤ i → g xs' i = g xs i := fun i hi => g_l (by
    rw [r3, List.getElem?_append_right (by simp [rl]; omega), List.getElem?_drop, List.length_append, rl, tl]
    congr 1; omega)
  have mid : (xs'.toList.drop sa).take (na + nb) = R := by
    rw [r3, List.append_assoc, List.drop_append_of_le_length (by omega), List.drop_of_length_le (by omega), List.nil_append, List.take_append_of_le_length (by omega), List.take_of_length_le (by omega)]
  have pp : ((p.setIfInBounds i (sa, na + nb, pw)).eraseIdxIfInBounds (i + 1)).toList = l1 ++ (sa, na + nb, pw) :: l2 := by
    rw [Array.toList_eraseIdxIfInBounds, Array.toList_setIfInBounds, hcut, ← ll]
    exact two_one l1
  refine h xs' _ m' ?_ (fun i hi => high i (by omega)) ?_ ?_
  · rw [r3]
    have sp : xs.toList = xs.toList.take sa ++ (xs.toList.drop sa).take (na + nb) ++ xs.toList.drop (sa + na + nb) := by
      rw [List.append_assoc]
      have e1 : (xs.toList.drop sa).take (na + nb) ++ xs.toList.drop (sa + na + nb) = xs.toList.drop sa := by
        rw [show sa + na + nb = sa + (na + nb) by omega, ← List.drop_drop]; exact List.take_append_drop _ _
      rw [e1]; exact (List.take_append_drop _ _).symm
    have : (xs.toList.take sa ++ R ++ xs.toList.drop (sa + na + nb)).Perm (xs.toList.take sa ++ (xs.toList.drop sa).take (na + nb) ++ xs.toList.drop (sa + na + nb)) := List.Perm.append_right _ (List.Perm.append_left _ r2)
    rwa [← sp] at this
  · rw [pp]
    refine Ch.app.mpr ⟨sa, c1.same fun i _ hi => low i hi, rfl, by show 1 ≤ na + nb; omega, ?_, ?_⟩
    · exact RI.of V.rfl' (by rw [mid]; exact r1) (by show sa + (na + nb) ≤ _; omega)
    · show Ch L xs' (sa + (na + nb)) l2 e
      rw [show sa + (na + nb) = sa + na + nb by omega]
      exact c8.same fun i hi _ => high i hi
  · have a1 : ((p.setIfInBounds i (sa, na + nb, pw)).eraseIdxIfInBounds (i + 1)).size = l1.length + (l2.length + 1) := by rw [← Array.length_toList, pp]; simp
    have a2 : p.size = l1.length + (l2.length + 2) := by rw [← Array.length_toList, hcut]; simp
    omega
structure At (D : Kd → Prop) (L : Kd → Kd → Bool) (a₀ : List Kd) (κ : SortKind) (lo : Nat) (xs : Array Kd) (p : Pd) : Prop where
  pm : xs.toList.Perm a₀
  ch : Ch L xs 0 p.toList lo
  le : lo ≤ xs.size
theorem srM_at (V : Env M A s κ D L) {a₀ : List Kd} {lo n pw : Nat} (hD : ∀ x ∈ a₀, D x) (hz : lo + n ≤ a₀.length) (h : At D L a₀ κ lo xs p) (hr : RI L xs lo n) :
    wpS M A E s (srM pw) (fun r st => ∃ xs' p' m', st = S κ xs' p' m' ∧ At D L a₀ κ lo xs' p' ∧ RI L xs' lo n ∧ (r = .done (none, ()) ∨ r = .yield (none, ()))) (S κ xs p m) := by
  unfold srM
  refine wpS_bind (wpS_get ?_)
  show wpS M A E s (match (if p.size > 1 then p[p.size - 2]? else none) with | some (_, _, ol) => _ | _ => _) _ _
  have stop : wpS M A E s (pure (.done (none, ())) : StateT SortSt Sem (ForInStep (Option Unit × Unit))) (fun r st => ∃ xs' p' m', st = S κ xs' p' m' ∧ At D L a₀ κ lo xs' p' ∧ RI L xs' lo n ∧ (r = .done (none, ()) ∨ r = .yield (none, ()))) (S κ xs p m) := wpS_pure ⟨xs, p, m, rfl, h, hr, .inl rfl⟩
  by_cases c : p.size > 1
  · rw [if_pos c]
    have c2 : p.size - 2 < p.size := by omega
    rw [getElem?_pos p (p.size - 2) c2]
    generalize p[p.size - 2] = q
    obtain ⟨q1, q2, ol⟩ := q
    dsimp only
    by_cases c3 : ol ≤ pw
    · rw [if_pos c3]; exact stop
    · rw [if_neg c3]
      refine wpS_bind (V.mergeCh (fun x hx => hD x (h.pm.mem_iff.mp hx)) (by show p.size - 2 + 1 < p.size; omega) h.le h.ch fun xs' p' m' a1 a2 a3 a4 => ?_)
      refine wpS_pure ⟨xs', p', m', rfl, ⟨a1.trans h.pm, a3, ?_⟩, ?_, .inr rfl⟩
      · have := a1.length_eq
        have := h.le
        simp at *; omega
      · intro i j i1 ij j1
        rw [a2 i i1, a2 j (by omega)]
        exact hr i j i1 ij j1
  · rw [if_neg c]; exact stop
theorem srC_at {a₀ : List Kd} {lo n : Nat} (h1 : 1 ≤ n) (hz : lo + n ≤ a₀.length) (h : At D L a₀ κ lo xs p) (hr : RI L xs lo n) :
    wpS M A E s (srC lo n) (fun r st => ∃ xs' p' m', st = S κ xs' p' m' ∧ At D L a₀ κ (lo + n) xs' p' ∧ r = .yield (none, lo + n)) (S κ xs p m) := by
  unfold srC
  refine wpS_bind (wpS_modify (wpS_pure ⟨xs, p.push (lo, n, 0), m, rfl, ⟨h.pm, ?_, ?_⟩, rfl⟩))
  · rw [Array.toList_push]
    exact Ch.app.mpr ⟨lo, h.ch, rfl, h1, hr, rfl⟩
  · have := h.pm.length_eq
    simp at this; omega
theorem srB_at (V : Env M A s κ D L) {a₀ : List Kd} {z lo n : Nat} (hD : ∀ x ∈ a₀, D x) (h1 : 1 ≤ n) (hz : lo + n ≤ a₀.length) (h : At D L a₀ κ lo xs p) (hr : RI L xs lo n) :
    wpS M A E s (srB z lo n) (fun r st => ∃ xs' p' m', st = S κ xs' p' m' ∧ At D L a₀ κ (lo + n) xs' p' ∧ r = .yield (none, lo + n)) (S κ xs p m) := by
  unfold srB
  refine wpS_bind (wpS_get ?_)
  show wpS M A E s (match p.back? with | some (s1, n1, _) => _ | _ => _) _ _
  cases p.back? with
  | none => exact srC_at h1 hz h hr
  | some q =>
    obtain ⟨s1, n1, q3⟩ := q
    dsimp only
    refine wpS_bind (wpS_mono (wpS_forRange (I := fun t c st => c = (none, ()) ∧ ∃ xs' p' m', st = S κ xs' p' m' ∧ At D L a₀ κ lo xs' p' ∧ RI L xs' lo n) (Q := fun c st => c = (none, ()) ∧ ∃ xs' p' m', st = S κ xs' p' m' ∧ At D L a₀ κ lo xs' p' ∧ RI L xs' lo n) ?_ ?_ ⟨rfl, xs, p, m, rfl, h, hr⟩) ?_)
    · rintro t c st - t2 ⟨rfl, xs', p', m', rfl, h, hr⟩
      refine wpS_mono (srM_at V hD hz h hr) fun r st hh => ?_
      obtain ⟨xs2, p2, m2, e, h2, r2, rfl | rfl⟩ := hh
      · exact ⟨rfl, xs2, p2, m2, e, h2, r2⟩
      · exact ⟨rfl, xs2, p2, m2, e, h2, r2⟩
    · exact fun c st h => h
    · rintro c st ⟨rfl, xs', p', m', rfl, h, hr⟩
      dsimp only
      refine wpS_bind (wpS_modify ?_)
      exact srC_at (p := p'.modify (p'.size - 1) _) h1 hz ⟨h.pm, by rw [Array.toList_modify]; exact h.ch.mod (f := fun x => (x.fst, x.2.fst, power' z (2 * s1 + n1) (2 * s1 + n1 + n1 + n) z)) (fun q => ⟨rfl, rfl⟩) _, h.le⟩ hr
theorem srA_at (V : Env M A s κ D L) {a₀ : List Kd} {mr lo : Nat} (hD : ∀ x ∈ a₀, D x) (h : At D L a₀ κ lo xs p) :
    wpS M A E s (srA a₀.length mr (none, lo)) (fun r st => ∃ xs' p' m', st = S κ xs' p' m' ∧ ((lo = a₀.length ∧ At D L a₀ κ lo xs' p' ∧ r = .done (none, lo)) ∨ ∃ n, 1 ≤ n ∧ At D L a₀ κ (lo + n) xs' p' ∧ r = .yield (none, lo + n))) (S κ xs p m) := by
  unfold srA
  dsimp only
  have zz := h.pm.length_eq
  simp at zz
  have le := h.le
  by_cases c : lo ≥ a₀.length
  · rw [if_pos c]; exact wpS_pure ⟨xs, p, m, rfl, .inl ⟨by omega, h, rfl⟩⟩
  · rw [if_neg c]
    refine wpS_bind (V.count (fun x hx => hD x (h.pm.mem_iff.mp hx)) (by omega) (by omega) fun n xs1 ke n1 n2 ri => ?_)
    dsimp only
    have up : ∀ xs', Ke lo xs xs' → At D L a₀ κ lo xs' p := fun xs' k => ⟨(Array.perm_iff_toList_perm.mp k.1).trans h.pm, h.ch.same fun i _ hi => k.2 i hi, by rw [k.size]; exact le⟩
    by_cases c2 : n < mr
    · rw [if_pos c2]
      refine wpS_bind (wpS_lift (wpAny_rule ⟨rfl, ?_⟩))
      refine wpS_bind (V.bin (ke.dom fun x hx => hD x (h.pm.mem_iff.mp hx)) n1 (by omega) (by rw [ke.size]; omega) ri fun xs2 ke2 ri2 => ?_)
      rw [if_neg (by decide)]
      refine wpS_mono (srB_at V hD (by omega) (by omega) (up _ (ke.trans ke2)) ri2) fun r st hh => ?_
      obtain ⟨xs', p', m', e, a1, a2⟩ := hh
      exact ⟨xs', p', m', e, .inr ⟨_, by omega, a1, a2⟩⟩
    · rw [if_neg c2]
      refine wpS_mono (srB_at V hD n1 (by omega) (up _ ke) ri) fun r st hh => ?_
      obtain ⟨xs', p', m', e, a1, a2⟩ := hh
      exact ⟨xs', p', m', e, .inr ⟨_, n1, a1, a2⟩⟩
theorem ite_lt {c : Prop} {d : Decidable c} {a b n : Nat} (ha : a < n) (hb : b < n) : @ite Nat c d a b < n := by
  by_cases h : c
  · rw [if_pos h]; exact ha
  · rw [if_neg h]; exact hb
theorem srI_lt {p : Pd} (h : 1 < p.size) : srI p + 1 < p.size := by
  have : srI p < p.size - 1 := ite_lt (by omega) (by omega)
  omega
theorem Env.sort (V : Env M A s κ D L) {xs : Array Kd} {Q : Unit → SortSt → Prop} (hD : ∀ x ∈ xs.toList, D x)
    (h : ∀ xs' p' m', xs'.toList.Perm xs.toList → RI L xs' 0 xs.size → Q () (S κ xs' p' m')) : wpS M A E s sortRuns' Q (S κ xs #[] m) := by
  rw [sortR_eq]
  refine wpS_bind (wpS_get ?_)
  show wpS M A E s (do
    let c ← forIn [0:xs.size] ((none, 0) : Option Unit × Nat) fun _ => srA xs.size (minRun' xs.size xs.size 0)
    match c.1 with
    | some r => pure r
    | none => do
      let d ← forIn [0:xs.size] ((none, ()) : Option Unit × Unit) fun _ _ => srF
      match d.1 with
      | some r => pure r
      | none => pure ()) Q _
  have zz : xs.toList.length = xs.size := Array.length_toList
  rw [← zz]
  refine wpS_bind (wpS_mono (wpS_forRange (I := fun t c st => ∃ lo xs' p' m', c = (none, lo) ∧ t ≤ lo ∧ st = S κ xs' p' m' ∧ At D L xs.toList κ lo xs' p') (Q := fun c st => ∃ xs' p' m', c = (none, xs.toList.length) ∧ st = S κ xs' p' m' ∧ At D L xs.toList κ xs.toList.length xs' p') ?_ ?_ ⟨0, xs, #[], m, rfl, Nat.le_refl _, rfl, List.Perm.refl _, rfl, Nat.zero_le _⟩) ?_)
  · rintro t c st - t2 ⟨lo, xs', p', m', rfl, t3, rfl, h⟩
    refine wpS_mono (srA_at V hD h) fun r st hh => ?_
    obtain ⟨xs2, p2, m2, e, ⟨a1, a2, rfl⟩ | ⟨n, a1, a2, rfl⟩⟩ := hh
    · subst a1; exact ⟨xs2, p2, m2, rfl, e, a2⟩
    · exact ⟨lo + n, xs2, p2, m2, rfl, by omega, e, a2⟩
  · rintro c st ⟨lo, xs', p', m', rfl, t3, rfl, h⟩
    have le := h.le
    have := h.pm.length_eq
    simp at this t3
    have e : lo = xs.toList.length := by simp; omega
    subst e
    exact ⟨xs', p', m', rfl, rfl, h⟩
  rintro c st ⟨xs1, p1, m1, rfl, rfl, h1⟩
  dsimp only
  have h0 := h1.ch.len
  simp only [Nat.zero_add, Array.length_toList] at h0
  refine wpS_bind (wpS_mono (wpS_forRange (I := fun t c st => c = (none, ()) ∧ ∃ xs' p' m', st = S κ xs' p' m' ∧ At D L xs.toList κ xs.toList.length xs' p' ∧ p'.size + t ≤ xs.toList.length) (Q := fun c st => c = (none, ()) ∧ ∃ xs' p' m', st = S κ xs' p' m' ∧ At D L xs.toList κ xs.toList.length xs' p' ∧ p'.size ≤ 1) ?_ ?_ ⟨rfl, xs1, p1, m1, rfl, h1, by simp; omega⟩) ?_)
  · rintro t c st - t2 ⟨rfl, xs', p', m', rfl, h, hp⟩
    unfold srF
    refine wpS_bind (wpS_get ?_)
    show wpS M A E s (if p'.size ≤ 1 then _ else _) _ _
    by_cases c : p'.size ≤ 1
    · rw [if_pos c]; exact wpS_pure ⟨rfl, xs', p', m', rfl, h, c⟩
    · rw [if_neg c]
      refine wpS_bind (V.mergeCh (fun x hx => hD x (h.pm.mem_iff.mp hx)) (srI_lt (p := p') (by omega)) h.le h.ch fun xs2 p2 m2 a1 a2 a3 a4 => ?_)
      refine wpS_pure ⟨rfl, xs2, p2, m2, rfl, ⟨a1.trans h.pm, a3, ?_⟩, by omega⟩
      have := a1.length_eq
      have := h.le
      simp at *; omega
  · rintro c st ⟨rfl, xs', p', m', rfl, h, hp⟩
    exact ⟨rfl, xs', p', m', rfl, h, by omega⟩
  rintro c st ⟨rfl, xs', p', m', rfl, hA, hp⟩
  refine wpS_pure (h xs' p' m' hA.pm ?_)
  have ch := hA.ch
  have hp : p'.toList.length ≤ 1 := by simpa using hp
  revert ch hp
  generalize p'.toList = l
  intro ch hp
  match l, ch, hp with
  | [], ch, _ =>
    have : 0 = xs.size := by simpa using (show 0 = xs.toList.length from ch)
    intro i j i1 ij j1; omega
  | [q], ⟨h1, h2, h3, h4⟩, _ =>
    have : q.2.1 = xs.size := by simpa using (show 0 + q.2.1 = xs.toList.length from h4)
    rw [← this]; exact h3
end
end Tim
end L2

set_option Elab.async false
set_option linter.all false
set_option maxRecDepth 100000
set_option maxHeartbeats 4000000
/-! our own rules: sorted of tuples of whole numbers that are all different: rising -/
namespace L2
open PySem PySem.Spec PyProof.Rows PySem.W
theorem lex_trans : ∀ {x y z : List Int}, HT.lexLt x y = true → HT.lexLt y z = true → HT.lexLt x z = true
  | [], [], _, h, _ => by cases h
  | [], _ :: _, [], _, h => by cases h
  | [], _ :: _, _ :: _, _, _ => rfl
  | _ :: _, [], _, h, _ => by cases h
  | _ :: _, _ :: _, [], _, h => by cases h
  | a :: x, b :: y, c :: z, h, h' => by
    rw [HT.lexLt_cons] at h h' ⊢
    by_cases e1 : a = b
    · rw [if_pos e1] at h
      by_cases e2 : b = c
      · rw [if_pos e2] at h'
        rw [if_pos (e1.trans e2)]
        exact lex_trans h h'
      · rw [if_neg e2] at h'
        rw [if_neg (by rw [e1]; exact e2), e1]
        exact h'
    · rw [if_neg e1] at h
      by_cases e2 : b = c
      · rw [if_neg (by rw [← e2]; exact e1), ← e2]
        exact h
      · rw [if_neg e2] at h'
        have h := of_decide_eq_true h
        have h' := of_decide_eq_true h'
        rw [if_neg (by omega)]
        exact decide_eq_true (by omega)
theorem lex_total : ∀ {x y : List Int}, x ≠ y → HT.lexLt x y = true ∨ HT.lexLt y x = true
  | [], [], h => absurd rfl h
  | [], _ :: _, _ => .inl rfl
  | _ :: _, [], _ => .inr rfl
  | a :: x, b :: y, h => by
    rw [HT.lexLt_cons, HT.lexLt_cons]
    by_cases e : a = b
    · rw [if_pos e, if_pos e.symm]
      exact lex_total fun z => h (by rw [e, z])
    · rw [if_neg e, if_neg (Ne.symm e)]
      rcases Int.lt_or_gt_of_ne e with z | z
      · exact .inl (decide_eq_true z)
      · exact .inr (decide_eq_true z)
theorem lex_irrefl : ∀ x : List Int, HT.lexLt x x = false
  | [] => rfl
  | a :: x => by rw [HT.lexLt_cons, if_pos rfl]; exact lex_irrefl x
def TpI (h : Heap) (v : Value) (ns : List Int) : Prop := ∃ a o us n, v = .ref a ∧ h.get? a = some o ∧ o.cls = .type "tuple" ∧ o.data = .seq (List.toArray us) n ∧ IntsAre us ns
section
variable {prog : Program} {w : World} {A : Around} {E : Value → Shared → Prop} {s : Shared}
theorem katI {b : Bool} {Q : Bool → Shared → Prop} : ∀ {us vs : List Value} {xs ys : List Int} (i : Nat), IntsAre us xs → IntsAre vs ys → xs.length = ys.length → Q (HT.lexLt xs ys) s → KatLex prog w A b false Q (us.zip vs) i s
  | _, _, _, _, i, .nil, .nil, _, h => kat_nil h
  | _, _, _, _, i, .nil, .cons _ _ _, hl, h => by cases hl
  | _, _, _, _, i, .cons _ _ _, .nil, hl, h => by cases hl
  | _, _, _, _, i, .cons m t hx, .cons n u hy, hl, h => by
    rw [List.zip_cons_cons]
    refine kat_cons (wpAny_eqBool_int ?_)
    refine kat_go (fun e => kat_yes (katI (i + 1) hx hy (by simpa using hl) ?_)) fun e => kat_no ?_
    · rw [HT.lexLt_cons, if_pos (by simpa using e)] at h
      exact h
    · rw [HT.lexLt_cons, if_neg (by simpa using e)] at h
      cases c : (b && i == 0) with
      | true => exact oneLt_int h
      | false => exact kat_one _ _ (lt_int h)
theorem tpI_lt {x y : Value} {xs ys : List Int} {Q : Bool → Shared → Prop} (hx : TpI s.heap x xs) (hy : TpI s.heap y ys) (hl : xs.length = ys.length) (h : Q (HT.lexLt xs ys) s) : wpAny (model prog w) A (keyLt' (tuples' true) x y) Q E s := by
  obtain ⟨a, o, us, n, rfl, h1, h2, h3, h4⟩ := hx
  obtain ⟨a', o', us', n', rfl, h1', h2', h3', h4'⟩ := hy
  refine kat_lt h1 h3 h1' h3' ?_
  have e : decide (us.toArray.size < us'.toArray.size) = false := by
    have a1 := h4.length
    have a2 := h4'.length
    simp; omega
  rw [e]
  simpa using katI 0 h4 h4' hl h
theorem tpI_firsts {h : Heap} : ∀ {ps : List (Addr × List Int)}, (∀ q ∈ ps, TpI h (.ref q.1) q.2 ∧ 0 < q.2.length) → ∃ fs, KatTups h (ps.map fun q => Value.ref q.1) fs ∧ fs.length = ps.length ∧ ∀ f ∈ fs, ∃ i t, f = Value.int i t
  | [], _ => ⟨[], trivial, rfl, fun f hf => absurd hf List.not_mem_nil⟩
  | q :: ps, hv => by
    obtain ⟨⟨a, o, us, n, e0, h1, h2, h3, h4⟩, h5⟩ := hv q List.mem_cons_self
    cases e0
    obtain ⟨fs, k, l, e⟩ := tpI_firsts fun u hu => hv u (List.mem_cons_of_mem _ hu)
    revert h5
    generalize hq : q.2 = q2 at h4
    cases h4 with
    | nil => exact fun h => absurd h (by decide)
    | cons i t r => exact fun _ => ⟨.int i t :: fs, .cons h1 h2 h3 rfl k, by rw [List.length_cons, List.length_cons, l], fun f hf => (List.mem_cons.mp hf).elim (fun z => ⟨i, t, z⟩) (e f)⟩
theorem zip_self : ∀ ps : List (Addr × List Int), ((ps.map fun q => Value.ref q.1).zip (ps.map fun q => Value.ref q.1)) = ps.map fun q => ((Value.ref q.1, Value.ref q.1) : Tim.Kd)
  | [] => rfl
  | q :: ps => by
    simp only [List.map_cons, List.zip_cons_cons, zip_self ps]
theorem perm_map {α β : Type} (f : α → β) : ∀ {l l' : List β}, l.Perm l' → ∀ ps : List α, l' = ps.map f → ∃ qs : List α, qs.Perm ps ∧ l = qs.map f := by
  intro l l' h
  induction h with
  | nil => intro ps e; exact ⟨ps, List.Perm.refl _, e⟩
  | cons x h ih =>
    intro ps e
    cases ps with
    | nil => cases e
    | cons q ps =>
      rw [List.map_cons] at e
      injection e with e1 e2
      obtain ⟨qs, a1, a2⟩ := ih ps e2
      exact ⟨q :: qs, a1.cons q, by rw [List.map_cons, a2, e1]⟩
  | swap x y l =>
    intro ps e
    match ps, e with
    | q :: r :: ps, e =>
      rw [List.map_cons, List.map_cons] at e
      injection e with e1 e2
      injection e2 with e2 e3
      exact ⟨r :: q :: ps, List.Perm.swap _ _ _, by rw [List.map_cons, List.map_cons, e1, e2, e3]⟩
  | trans h1 h2 ih1 ih2 =>
    intro ps e
    obtain ⟨qs, a1, a2⟩ := ih2 ps e
    obtain ⟨rs, b1, b2⟩ := ih1 qs a2
    exact ⟨rs, b1.trans a1, b2⟩
theorem ints_fun : ∀ {us : List Value} {xs ys : List Int}, IntsAre us xs → IntsAre us ys → xs = ys
  | _, _, _, .nil, .nil => rfl
  | _, _, _, .cons m t h, h' => by
    cases h' with
    | cons n u h' => rw [ints_fun h h']
theorem tpI_fun {h : Heap} {v : Value} {xs ys : List Int} (hx : TpI h v xs) (hy : TpI h v ys) : xs = ys := by
  obtain ⟨a, o, us, n, e0, h1, h2, h3, h4⟩ := hx
  obtain ⟨a', o', us', n', e0', h1', h2', h3', h4'⟩ := hy
  rw [e0] at e0'
  cases e0'
  rw [h1] at h1'
  cases h1'
  rw [h3] at h3'
  cases h3'
  exact ints_fun h4 h4'
theorem list_sort_tpO {a : Addr} {ps : List (Addr × List Int)} {L n : Nat} {P : Fin → Shared → Prop} (hh : A.handled = none) (ho : s.heap.get? a = some (seqObj "list" (ps.map fun q => Value.ref q.1).toArray n)) (tv : ∀ q ∈ ps, TpI s.heap (.ref q.1) q.2 ∧ q.1 ≠ a) (hL : 0 < L) (tl : ∀ q ∈ ps, q.2.length = L) (nd : ps.Pairwise (fun q r => q.2 ≠ r.2)) (hz : ps.length ≤ sizeLine)
    (h : ∀ qs : List (Addr × List Int), qs.Perm ps → qs.Pairwise (fun q r => HT.lexLt q.2 r.2 = true) → P (.done (.ret .none)) { s with heap := sortedHeap s.heap a (ps.map fun q => Value.ref q.1) (qs.map fun q => Value.ref q.1).toArray }) :
    wpAny (model prog w) A (Builtin.«list.sort» ⟨[.ref a], []⟩) P E s := by
  generalize hvs : (ps.map fun q => Value.ref q.1) = vs at ho h ⊢
  have lvs : vs.length = ps.length := by rw [← hvs, List.length_map]
  rw [list_sort_plain]
  have ha : a < s.heap.objs.size := Heap.lt_size ho
  refine wpAny_bind (listItems_at ho rfl ?_)
  refine wpAny_bind (listUpdate_at ho rfl ?_)
  obtain ⟨e1, ho1⟩ : ∃ e1, (s.heap.update a (Obj.mapSeq fun _ => #[])).get? a = some (seqObj "list" #[] e1) := ⟨_, get?_update_seq ho (fun _ => #[])⟩
  refine wpAny_bind (seqEpoch_at ho1 rfl ?_)
  refine wpAny_bind (wpAny_newTuple ?_)
  refine wpAny_bind (wpAny_newList ?_)
  refine wpAny_holding ?_
  have ho6 : (((s.heap.update a (Obj.mapSeq fun _ => #[])).push (seqObj "tuple" vs.toArray 0)).push (seqObj "list" #[] 0)).get? a = some (seqObj "list" #[] e1) := by
    rw [Heap.get?_push_ne _ _ _ (by rw [size_push', Heap.size_update]; exact Nat.ne_of_lt (Nat.lt_succ_of_lt ha)), Heap.get?_push_ne _ _ _ (by rw [Heap.size_update]; exact Nat.ne_of_lt ha)]
    exact ho1
  show wpAny (model prog w) A _ P E { s with heap := ((s.heap.update a (Obj.mapSeq fun _ => #[])).push (seqObj "tuple" vs.toArray 0)).push (seqObj "list" #[] 0) }
  dsimp only
  have hsz : vs.toArray.size = vs.length := by simp
  have tv6 : ∀ q ∈ ps, TpI (((s.heap.update a (Obj.mapSeq fun _ => #[])).push (seqObj "tuple" vs.toArray 0)).push (seqObj "list" #[] 0)) (.ref q.1) q.2 := fun q hq => by
    obtain ⟨⟨b, o, us, n, e0, h1, h2, h3, h4⟩, nb⟩ := tv q hq
    cases e0
    refine ⟨q.1, o, us, n, rfl, Heap.get?_push_of_some _ (Heap.get?_push_of_some _ ?_), h2, h3, h4⟩
    rw [Heap.get?_update_ne _ _ _ _ nb]
    exact h1
  by_cases h2 : vs.toArray.size < 2
  · rw [if_pos h2, if_pos h2]
    refine wpAny_bind (wpAny_pure ?_)
    rw [StateT.run_pure]
    refine wpAny_bind (wpAny_pure ?_)
    dsimp only
    refine wpAny_bind (seqEpoch_at ho6 rfl ?_)
    refine wpAny_bind (listUpdate_at ho6 rfl ?_ (hsz2 := by rw [Array.size_map]; show (PyProof.Rows.pairsOf vs).size ≤ _; rw [PyProof.Rows.pairsOf_size, sizeLine_eq]; omega))
    simp only [bne_self_eq_false, Bool.false_eq_true, if_false]
    refine wpAny_pure ?_
    have e : ((vs.toArray.zip vs.toArray).map (·.2)) = vs.toArray := by
      apply Array.toList_inj.mp
      rw [Array.toList_map, Array.toList_zip]
      exact List.map_snd_zip (Nat.le_refl _)
    have one : ps.Pairwise (fun q r => HT.lexLt q.2 r.2 = true) := by
      rw [hsz, lvs] at h2
      match ps, h2 with
      | [], _ => exact .nil
      | [q], _ => exact List.pairwise_singleton _ _
    have := h ps (List.Perm.refl _) one
    rw [hvs, ← e] at this
    exact this
  · rw [if_neg h2, if_neg h2]
    obtain ⟨fs, k, l, e⟩ := tpI_firsts fun q hq => ⟨tv6 q hq, by rw [tl q hq]; exact hL⟩
    rw [hvs] at k
    have h2' : 2 ≤ vs.length := by omega
    refine wpAny_bind (kat_kind k (by omega) (T := .type "int") (fun f hf => ?_) (by decide) ?_)
    · obtain ⟨i, t, rfl⟩ := e f hf
      exact PySem.W.Looks.now
    let key : Tim.Kd → List Int := fun k => match k.1 with
      | .ref b => ((ps.find? fun q => q.1 == b).map (·.2)).getD []
      | _ => []
    have kq : ∀ q ∈ ps, ∀ v, key (.ref q.1, v) = q.2 := fun q hq v => by
      show ((ps.find? fun r => r.1 == q.1).map (·.2)).getD [] = q.2
      cases e : ps.find? fun r => r.1 == q.1 with
      | none => exact absurd (List.find?_eq_none.mp e q hq) (by simp)
      | some r =>
        have m := List.mem_of_find?_eq_some e
        have er : r.1 = q.1 := by simpa using List.find?_some e
        have t1 := tv6 r m
        rw [er] at t1
        exact tpI_fun t1 (tv6 q hq)
    have V : Tim.Env (model prog w) A { s with heap := ((s.heap.update a (Obj.mapSeq fun _ => #[])).push (seqObj "tuple" vs.toArray 0)).push (seqObj "list" #[] 0) } (tuples' true) (fun x => ∃ q ∈ ps, x = (.ref q.1, .ref q.1)) (fun x y => HT.lexLt (key x) (key y)) := {
      ask := by
        rintro x y ⟨q, hq, rfl⟩ ⟨r, hr, rfl⟩
        refine tpI_lt (tv6 q hq) (tv6 r hr) (by rw [tl q hq, tl r hr]) ⟨rfl, ?_⟩
        rw [kq q hq (Value.ref q.1), kq r hr (Value.ref r.1)]
      asym := fun x y h => by
        cases e : HT.lexLt (key y) (key x) with
        | false => rfl
        | true => have := lex_trans h e; rw [lex_irrefl] at this; cases this
      tr := fun x y z h1 h2 => by
        cases e : HT.lexLt (key z) (key x) with
        | false => rfl
        | true =>
          by_cases c : key x = key y
          · rw [c, h2] at e; cases e
          · have := lex_trans e ((lex_total c).resolve_right (by rw [h1]; simp))
            rw [h2] at this; cases this }
    have zl : (vs.toArray.zip vs.toArray).toList = ps.map fun q => ((Value.ref q.1, Value.ref q.1) : Tim.Kd) := by
      rw [Array.toList_zip, ← hvs]
      simp only [List.toList_toArray]
      exact zip_self ps
    refine wpAny_bind (wpAny_mono (V.sort (E := E) (Q := fun _ st' => ∃ (xs' : Array Tim.Kd) (p' : Tim.Pd) (m' : Nat), st' = Tim.S (tuples' true) xs' p' m' ∧ xs'.toList.Perm (vs.toArray.zip vs.toArray).toList ∧ Tim.RI (fun x y => HT.lexLt (key x) (key y)) xs' 0 (vs.toArray.zip vs.toArray).size) (fun x hx => ?_) fun xs' p' m' a1 a2 => ⟨xs', p', m', rfl, a1, a2⟩) ?_ fun _ _ e => e)
    · rw [zl] at hx
      obtain ⟨q, hq, e⟩ := List.mem_map.mp hx
      exact ⟨q, hq, e.symm⟩
    · rintro ⟨⟨⟩, st'⟩ s' ⟨rfl, xs', p', m', rfl, hpm0, ri⟩
      dsimp only
      rw [zl] at hpm0
      obtain ⟨qs, hpm, eq⟩ := perm_map (fun q : Addr × List Int => ((Value.ref q.1, Value.ref q.1) : Tim.Kd)) hpm0 ps rfl
      have hq : xs'.map (·.2) = (qs.map fun q => Value.ref q.1).toArray := by
        apply Array.toList_inj.mp
        rw [Array.toList_map, eq, List.map_map]
        rfl
      have zx : (vs.toArray.zip vs.toArray).size = qs.length := by
        have := congrArg List.length zl
        rw [Array.length_toList, List.length_map] at this
        rw [this, hpm.length_eq]
      have nd' : qs.Pairwise (fun q r => q.2 ≠ r.2) := (hpm.pairwise_iff fun h => Ne.symm h).mpr nd
      have hord : qs.Pairwise (fun q r => HT.lexLt q.2 r.2 = true) := by
        rw [List.pairwise_iff_getElem]
        intro i j hi hj hij
        have r := ri i j (Nat.zero_le _) (by omega) (by rw [zx]; omega)
        have gi : ∀ k (hk : k < qs.length), Tim.g xs' k = (Value.ref qs[k].1, Value.ref qs[k].1) := fun k hk => by
          have hk' : k < xs'.size := by rw [← Array.length_toList, eq, List.length_map]; exact hk
          have e1 : xs'.toList[k]? = some (Value.ref qs[k].1, Value.ref qs[k].1) := by rw [eq, List.getElem?_map, List.getElem?_eq_getElem hk]; rfl
          have e2 : xs'[k]? = some (Tim.g xs' k) := Tim.g_some hk'
          rw [← Array.getElem?_toList, e1] at e2
          exact (Option.some.inj e2).symm
        rw [gi i hi, gi j hj] at r
        have mi : qs[i] ∈ ps := hpm.mem_iff.mp (List.getElem_mem hi)
        have mj : qs[j] ∈ ps := hpm.mem_iff.mp (List.getElem_mem hj)
        dsimp only at r
        rw [kq _ mi (Value.ref qs[i].1), kq _ mj (Value.ref qs[j].1)] at r
        exact (lex_total (List.pairwise_iff_getElem.mp nd' i j hi hj hij)).resolve_right (by rw [r]; simp)
      refine wpAny_bind (seqEpoch_at ho6 rfl ?_)
      show wpAny (model prog w) A (do Builtin.List.listUpdate (.ref a) fun _ => xs'.map (·.2); _) _ _ _
      rw [hq]
      refine wpAny_bind (listUpdate_at ho6 rfl ?_ (hsz2 := by rw [List.size_toArray, List.length_map, hpm.length_eq]; omega))
      simp only [bne_self_eq_false, Bool.false_eq_true, if_false]
      exact wpAny_pure (h _ hpm hord)
theorem sorted_tpO {l : Addr} {ps : List (Addr × List Int)} {L : Nat} {Q : Value → Shared → Prop} (hh : A.handled = none) (hl : s.heap.IsList l (ps.map fun q => Value.ref q.1).toArray) (tv : ∀ q ∈ ps, TpI s.heap (.ref q.1) q.2) (hL : 0 < L) (tl : ∀ q ∈ ps, q.2.length = L) (nd : ps.Pairwise (fun q r => q.2 ≠ r.2)) (hz : ps.length ≤ sizeLine)
    (h : ∀ qs : List (Addr × List Int), qs.Perm ps → qs.Pairwise (fun q r => HT.lexLt q.2 r.2 = true) → Q (.ref (s.heap.objs.size + 1)) { s with heap := sortedAll s.heap (ps.map fun q => Value.ref q.1) (qs.map fun q => Value.ref q.1).toArray }) :
    wpAny (model prog w) A (call (.builtin "sorted") [.ref l]) Q E s := by
  refine Calls.call_function_entry kind_sorted plain_sorted entry_sorted (args_sorted1 _) ?_
  unfold Builtin.«sorted»
  refine wpAny_bind (m := checkCount "sorted" 1 1 _) (wpAny_pure ?_)
  refine wpAny_bind (collect_list hl ?_)
  refine wpAny_bind (wpAny_newList ?_)
  generalize hvs : (ps.map fun q => Value.ref q.1) = vs at hl h ⊢
  have hsz : ((s.heap.push (seqObj "list" #[] 0)).update s.heap.objs.size (Obj.mapSeq (· ++ vs.toArray))).objs.size = s.heap.objs.size + 1 := by
    rw [Heap.size_update, size_push']
  have hoL : (((s.heap.push (seqObj "list" #[] 0)).update s.heap.objs.size (Obj.mapSeq (· ++ vs.toArray))).push (seqObj "list" vs.toArray 0)).get? (s.heap.objs.size + 1) = some (seqObj "list" vs.toArray 0) := by
    rw [← hsz]; exact Heap.get?_push_size _ rfl
  have keep : ∀ b o, s.heap.get? b = some o → (((s.heap.push (seqObj "list" #[] 0)).update s.heap.objs.size (Obj.mapSeq (· ++ vs.toArray))).push (seqObj "list" vs.toArray 0)).get? b = some o := fun b o q => by
    have hlt : b < s.heap.objs.size := Heap.lt_size q
    rw [Heap.get?_push_ne _ _ _ (by rw [hsz]; exact Nat.ne_of_lt (Nat.lt_succ_of_lt hlt)), Heap.get?_update_ne _ _ _ _ (Nat.ne_of_lt hlt), Heap.get?_push_ne _ _ _ (Nat.ne_of_lt hlt)]
    exact q
  show wpAny _ _ _ _ _ { s with heap := ((s.heap.push (seqObj "list" #[] 0)).update s.heap.objs.size (Obj.mapSeq (· ++ vs.toArray))).push (seqObj "list" vs.toArray 0) }
  rw [hsz]
  subst hvs
  refine wpAny_bind (wpAny_holding (wpAny_call_entry slot_list_sort ⟨_, hoL, rfl⟩ entry_list_sort (list_sort_tpO hh hoL (fun q hq => ?_) hL tl nd hz fun qs hp ho => ⟨_, rfl, ?_⟩) (args_list_sort _)))
  · obtain ⟨b, o, us, n, e0, h1, h2, h3, h4⟩ := tv q hq
    cases e0
    refine ⟨⟨q.1, o, us, n, rfl, keep _ _ h1, h2, h3, h4⟩, fun e => ?_⟩
    rw [e] at h1
    exact absurd (Heap.lt_size h1) (by simp)
  · exact wpAny_pure ⟨_, rfl, h qs hp ho⟩
end
def SN : Nat := 900
def rSortO : List V → Hp → VK → Prop := fun xs H Q => ∃ (p : Addr) (ps : List (Addr × List Int)) (L : Nat), xs = [.ref p] ∧ H p = some (.lst (ps.map fun q => .ref q.1)) ∧ (∀ q ∈ ps, H q.1 = some (.tup (q.2.map V.int))) ∧ 0 < L ∧ (∀ q ∈ ps, q.2.length = L) ∧ ps.Pairwise (fun q r => q.2 ≠ r.2) ∧ ps.length < SN ∧
  ∀ (D : Addr) (H' : Hp) (qs : List (Addr × List Int)), H D = none → Same H H' → H' D = some (.lst (qs.map fun q => .ref q.1)) → qs.Perm ps → qs.Pairwise (fun q r => HT.lexLt q.2 r.2 = true) → Q (.ref D) H'
theorem refs_of : ∀ {ps : List (Addr × List Int)} {us : List Value}, Vals (ps.map fun q => V.ref q.1) us → us = ps.map fun q => Value.ref q.1
  | [], _, .nil => rfl
  | q :: ps, _, .cons h r => by
    cases h
    rw [refs_of r]; rfl
theorem refs_vals : ∀ (ps : List (Addr × List Int)), Vals (ps.map fun q => V.ref q.1) (ps.map fun q => Value.ref q.1)
  | [] => .nil
  | q :: ps => .cons rfl (refs_vals ps)
theorem call_sortedO {X : Cx} (hc : X.calm = true) : CallR X (.builtin "sorted") rSortO := by
  intro pins s σ H xs us Q I r h
  obtain ⟨p, ps, L, rfl, hp, ty, hL, tl, nd, h64, q⟩ := h
  obtain ⟨u, rfl, ru⟩ := vals1 r
  cases ru
  obtain ⟨its, rv, pl, hz⟩ := I.list (SqL.of hp)
  have ei := refs_of rv
  subst ei
  have tv : ∀ q ∈ ps, TpI s.heap (.ref q.1) q.2 := fun q hq => by
    obtain ⟨_, us, rt, o, e1, e2, n, e3⟩ := (show ObjOk X.prog X.w H s.heap q.1 (.tup (q.2.map V.int)) from I.hok q.1 _ (ty q hq))
    exact ⟨q.1, o, us, n, rfl, e1, e2, e3, intsAre_of rt⟩
  refine sorted_tpO (I.ok.hd hc) pl.isList tv hL tl nd (by rw [List.length_map] at hz; exact hz) fun qs hpm ho => ?_
  obtain ⟨e, he⟩ := sortedAll_at s.heap (ps.map fun q => Value.ref q.1) (qs.map fun q => Value.ref q.1).toArray
  have fr : H (s.heap.objs.size + 1) = none := I.hok.fresh (Nat.le_succ _)
  have lz := hpm.length_eq
  have I2 := I.laid (a := s.heap.objs.size + 1) (o := .lst (qs.map fun q => .ref q.1)) (t' := s.toks) (fun b u e => sortedAll_old e) (Nat.le_succ _) (show ObjOk X.prog X.w _ (sortedAll s.heap (ps.map fun q => Value.ref q.1) (qs.map fun q => Value.ref q.1).toArray) _ (.lst (qs.map fun q => .ref q.1)) from ⟨by rw [List.length_map, lz]; rw [List.length_map] at hz; exact hz, _, e, refs_vals qs, he⟩)
  exact ⟨.ref (s.heap.objs.size + 1), _, I2, rfl, q _ _ _ fr (same_new fr _) upd_same hpm ho⟩
end L2

set_option Elab.async false
set_option linter.all false
set_option maxRecDepth 100000
set_option maxHeartbeats 4000000
/-! our own reading tactic: lazy -/
theorem L2.cps {p : Prop} (h : ∀ G : Prop, (p → G) → G) : p := h p id
theorem L2.exBl {b : Bool} {p : Bool → Prop} : (∃ c, L2.V.bl b = L2.V.bl c ∧ p c) = p b := propext ⟨fun ⟨_, e, h⟩ => (L2.V.bl.inj e) ▸ h, fun h => ⟨_, rfl, h⟩⟩
theorem L2.exIn {b : Int} {p : Int → Prop} : (∃ c, L2.V.int b = L2.V.int c ∧ p c) = p b := propext ⟨fun ⟨_, e, h⟩ => (L2.V.int.inj e) ▸ h, fun h => ⟨_, rfl, h⟩⟩
theorem L2.exIn1 {b : Int} {α : Sort _} {p : Int → α → Prop} : (∃ c x, L2.V.int b = L2.V.int c ∧ p c x) = ∃ x, p b x := propext ⟨fun ⟨_, x, e, h⟩ => ⟨x, (L2.V.int.inj e) ▸ h⟩, fun ⟨x, h⟩ => ⟨_, x, rfl, h⟩⟩
theorem L2.exRf {b : PySem.Addr} {p : PySem.Addr → Prop} : (∃ c, L2.V.ref b = L2.V.ref c ∧ p c) = p b := propext ⟨fun ⟨_, e, h⟩ => (L2.V.ref.inj e) ▸ h, fun h => ⟨_, rfl, h⟩⟩
theorem L2.exRf1 {b : PySem.Addr} {α : Sort _} {p : PySem.Addr → α → Prop} : (∃ c x, L2.V.ref b = L2.V.ref c ∧ p c x) = ∃ x, p b x := propext ⟨fun ⟨_, x, e, h⟩ => ⟨x, (L2.V.ref.inj e) ▸ h⟩, fun ⟨x, h⟩ => ⟨_, x, rfl, h⟩⟩
theorem L2.exRf2 {b : PySem.Addr} {α β : Sort _} {p : PySem.Addr → α → β → Prop} : (∃ c x y, L2.V.ref b = L2.V.ref c ∧ p c x y) = ∃ x y, p b x y := propext ⟨fun ⟨_, x, y, e, h⟩ => ⟨x, y, (L2.V.ref.inj e) ▸ h⟩, fun ⟨x, y, h⟩ => ⟨_, x, y, rfl, h⟩⟩
theorem L2.exRf3 {b : PySem.Addr} {α β γ : Sort _} {p : PySem.Addr → α → β → γ → Prop} : (∃ c x y z, L2.V.ref b = L2.V.ref c ∧ p c x y z) = ∃ x y z, p b x y z := propext ⟨fun ⟨_, x, y, z, e, h⟩ => ⟨x, y, z, (L2.V.ref.inj e) ▸ h⟩, fun ⟨x, y, z, h⟩ => ⟨_, x, y, z, rfl, h⟩⟩
theorem L2.exSt {b : PySem.Str} {p : PySem.Str → Prop} : (∃ c, L2.V.str b = L2.V.str c ∧ p c) = p b := propext ⟨fun ⟨_, e, h⟩ => (L2.V.str.inj e) ▸ h, fun h => ⟨_, rfl, h⟩⟩
theorem L2.exSo {α : Type} {b : α} {p : α → Prop} : (∃ c, some b = some c ∧ p c) = p b := propext ⟨fun ⟨_, e, h⟩ => (Option.some.inj e) ▸ h, fun h => ⟨_, rfl, h⟩⟩
theorem L2.qVar {i : Nat} {σ : L2.St} {H : L2.Hp} {Q : L2.VK} {v : L2.V} (h : σ[i]? = some (some v)) : L2.tVar i σ H Q = Q v H := propext ⟨fun ⟨_, e, q⟩ => by rw [h] at e; cases e; exact q, fun q => ⟨_, h, q⟩⟩
theorem L2.and_t {a b : Prop} (h : a = True) : (a ∧ b) = b := by rw [h, true_and]
theorem L2.and_f {a b : Prop} (h : a = False) : (a ∧ b) = False := by rw [h, false_and]
theorem L2.and_r {a b a1 a2 : Prop} (h : a = (a1 ∧ a2)) : (a ∧ b) = (a1 ∧ (a2 ∧ b)) := by rw [h, and_assoc]
theorem L2.and_l {a b a' : Prop} (h : a = a') : (a ∧ b) = (a' ∧ b) := by rw [h]
open Lean Meta Simp in
simproc_decl quickVar (L2.tVar _ _ _ _) := fun e => do
  let_expr L2.tVar i s H Q := e | return .continue
  let l ← mkAppM ``GetElem?.getElem? #[s, i]
  let w ← whnfD l
  let_expr Option.some _ o := w | return .continue
  let o' ← whnfD o
  let_expr Option.some _ v := o' | return .continue
  return .visit { expr := (mkApp2 Q v H).headBeta, proof? := some (mkApp6 (mkConst ``L2.qVar) i s H Q v (← mkEqRefl l)) }
open Lean Meta Simp in
simproc_decl lazyAnd (_ ∧ _) := fun e => do
  let_expr And a b := e | return .continue
  let r ← simp a
  let a' := r.expr
  if a'.isTrue then return .visit { expr := b, proof? := some (mkApp3 (mkConst ``L2.and_t) a b (← r.getProof)) }
  if a'.isFalse then return .done { expr := mkConst ``False, proof? := some (mkApp3 (mkConst ``L2.and_f) a b (← r.getProof)) }
  match_expr a' with
  | And a1 a2 => return .visit { expr := mkAnd a1 (mkAnd a2 b), proof? := some (mkApp5 (mkConst ``L2.and_r) a b a1 a2 (← r.getProof)) }
  | _ =>
    match r.proof? with
    | none => return .done { expr := mkAnd a' b }
    | some h => return .done { expr := mkAnd a' b, proof? := some (mkApp4 (mkConst ``L2.and_l) a b a' h) }
theorem L2.ite_c {α : Sort _} {c c' : Prop} [d : Decidable c] [d' : Decidable c'] (h : c = c') (x y : α) : ite c x y = ite c' x y := by subst h; congr
open Lean Meta Simp in
simproc_decl lazyIte (ite _ _ _) := fun e => do
  let_expr ite α c d x y := e | return .continue
  let r ← simp c
  if r.expr.isTrue || r.expr.isFalse then return .continue
  if r.expr == c then return .done { expr := e }
  let d' ← synthInstance (mkApp (mkConst ``Decidable) r.expr)
  return .done { expr := mkApp5 e.consumeMData.getAppFn α r.expr d' x y, proof? := some (mkAppN (mkConst ``L2.ite_c e.consumeMData.getAppFn.constLevels!) #[α, c, r.expr, d, d', ← r.getProof, x, y]) }
open Lean Meta Simp in
simproc_decl lazyAll (_) := fun e => do
  if e.isForall then return .done { expr := e } else return .continue
def L2.rdPost : String := "L2.rSortO L2.rLtT L2.rIntB L2.rListK L2.rInP L2.tFldG L2.sFldG L2.tMethG L2.tMakeG L2.lookup_n L2.lookup_c L2.putF_n L2.putF_c L2.HO.ins.injEq L2.tDGetDG L2.tUnf L2.rDictP L2.rSortT L2.rMinL L2.rIdxG L2.rPopAtG L2.tRng1 L2.rListRng L2.tRev L2.rIxL L2.tBreak L2.tCont L2.rSum L2.rSort L2.rListG L2.rInsG L2.tDPopG L2.frameN L2.capOf Option.join_some L2.tYes L2.tChain L2.rAll L2.tBM L2.tyV L2.rStarts L2.rInK L2.tFmt L2.tJoin L2.jCons L2.jNil L2.tDefR L2.tRaise L2.rMulS L2.rSlS L2.rJoinS L2.rCatG L2.tTry1 L2.tTry0 L2.tBM0 L2.rPopG L2.rRepG L2.tDGetR L2.gLstG L2.tCallX L2.rIsiX L2.rIsiXT L2.tMs L2.rSetG L2.gSub L2.tSeq L2.tNext L2.tIfS L2.tTest L2.tB L2.tOp L2.tUn L2.rU L2.tVar L2.tC L2.rI0 L2.rI L2.tRet L2.tRetN L2.tDrop L2.tAsg L2.gName L2.gTup L2.gCons L2.gNil L2.tNil L2.tCons L2.tTupG L2.tLstG L2.tDNewG L2.rDictG L2.tAppG L2.sDPutG2 L2.pairsOf L2.tDispG L2.tPairs Option.bind_some L2.tDef L2.tCB L2.tAnd L2.tOr L2.tNot L2.tAndV L2.tOrV L2.tNotV L2.tIf L2.rIxG L2.rIxS L2.rEq L2.rNe L2.scal_ss L2.scal_ii L2.scal_bb L2.scal_nn L2.scal_ns L2.scal_sn L2.scal_ni L2.scal_in L2.flat_s L2.flat_i L2.flat_n L2.flat_b L2.inV_nil L2.inV_cons L2.eqV_ss L2.eqV_ii L2.cx_K L2.rInG L2.gTupG L2.rSlG L2.tSl L2.tPart L2.tNoPart L2.tForT L2.tForL L2.turns L2.upd_same List.all_cons List.all_nil Bool.and_true Bool.true_and Bool.and_self Bool.or_false Bool.or_true Bool.false_or Bool.true_or L2.cutV HT.sIx L2.rIsiG L2.tyG_n L2.tyG_b L2.tyG_i L2.tyG_s L2.tyG_r L2.hoT_l L2.hoT_t L2.hoT_d L2.V.ty.injEq L2.kit_ii L2.kit_it L2.kit_il L2.kit_is L2.kit_ib L2.kit_id L2.kit_ni L2.kit_nt L2.kit_nl L2.kit_ns L2.kit_nb L2.kit_nd L2.kit_ti L2.kit_tt L2.kit_tl L2.kit_ts L2.kit_tb L2.kit_td L2.kit_li L2.kit_lt L2.kit_ll L2.kit_ls L2.kit_lb L2.kit_ld L2.kit_si L2.kit_st L2.kit_sl L2.kit_ss L2.kit_sb L2.kit_sd L2.kit_bi L2.kit_bt L2.kit_bl L2.kit_bs L2.kit_bb L2.kit_bd L2.kit_di L2.kit_dt L2.kit_dl L2.kit_ds L2.kit_db L2.kit_dd L2.mn1 L2.mn2 List.drop_succ_cons List.drop_zero List.take_succ_cons List.take_zero Nat.reduceEqDiff not_false_eq_true L2.tDInG L2.tDNotInG L2.tDGetG L2.keyOf_s L2.keyOf_i List.cons.injEq L2.tDNewK L2.start List.map_cons List.map_nil List.length_cons List.length_nil List.replicate List.cons_append List.nil_append List.getElem?_cons_zero List.getElem?_cons_succ List.set_cons_zero List.set_cons_succ Option.some.injEq L2.V.int.injEq L2.V.str.injEq L2.V.ref.injEq L2.V.bl.injEq L2.HO.tup.injEq L2.HO.lst.injEq L2.HO.dK.injEq reduceCtorEq exists_eq_left' exists_and_left exists_eq_left exists_eq_right L2.CPow L2.CMul L2.CDiv decide_eq_true_eq L2.ofString_inj String.reduceEq decide_true decide_false Bool.false_eq_true if_true if_false if_pos and_true true_and or_false false_or or_true true_or and_false false_and exists_const exists_false Bool.not_true Bool.not_false L2.sz0 L2.sz1 L2.sz2 L2.sz3 L2.sz4 L2.sz5 L2.sz6 L2.atI_0 L2.atI_1 L2.atI_2 L2.atI_3 L2.atI_4 Nat.reduceAdd Nat.reduceSub Nat.zero_add Nat.reduceLeDiff Int.reducePow Int.reduceToNat Int.reduceLT Int.reduceLE Int.reduceNeg L2.na2 L2.na10 Nat.reducePow Nat.reduceLT"
def L2.lzPre : String := "lazyAnd reduceIte lazyIte exists_eq_left exists_eq_left' reduceIte L2.exBl L2.exIn L2.exRf L2.exSt L2.exSo quickVar L2.exIn1 L2.exRf1 L2.exRf2 L2.exRf3"
def L2.rdPre : String := "exists_eq_left exists_eq_left' reduceIte L2.exBl L2.exIn L2.exRf L2.exSt L2.exSo quickVar L2.exIn1 L2.exRf1 L2.exRf2 L2.exRf3"
open Lean in
def L2.rdArgs (pre : String) : MacroM (TSyntaxArray ``Lean.Parser.Tactic.simpLemma) := do
  let p ← (L2.rdPost.splitOn " ").toArray.mapM fun n => `(Lean.Parser.Tactic.simpLemma| $(mkIdent n.toName):ident)
  let a ← (pre.splitOn " ").toArray.mapM fun n => `(Lean.Parser.Tactic.simpLemma| ↓ $(mkIdent n.toName):ident)
  return a ++ p

set_option Elab.async false
set_option linter.all false
set_option maxRecDepth 100000
set_option maxHeartbeats 4000000
/-! our own rules: a method of a thing that is of one of two classes -/
namespace L2
open PySem PySem.Spec PyProof.Rows PySem.W
section
variable {X : Cx} {k k2 n : Nat} {ps ps2 : List Str} {sp sp2 : Sp} {m : Str} {pos apos : Pos} {o e : Expr} {es : List Expr} {t : TA} {ta : TE} {C C2 : Addr}
theorem pe_meth2G {pl : Sem Bool} (G : OkM X.prog X.w X.K X.mg X.base k C m ps sp) (G2 : OkM X.prog X.w X.K X.mg X.base k2 C2 m ps2 sp2) (hr : Room n X.A) (he : PE X o ta) (ha : PA X (e :: es) t) (hk : k ≤ n := by omega) (hk2 : k2 ≤ n := by omega) (hs : (e :: es).all notStar = true := by rfl)
    (ht : eval (.Call (.Attribute o m apos) (e :: es) [] pos) X.env = (do
      let ov ← eval o X.env
      standAt apos.atName
      let (f, first) ← holding [ov] (getMethod ov m pl)
      callWith pos f first (backTo pos (starEach (e :: es) X.env)) (backToKw pos (keywordEach [] X.env))) := by rfl) :
    PE X (.Call (.Attribute o m apos) (e :: es) [] pos) (fun σ H Q => ta σ H fun x H1 => (∃ a dx fs, x = .ref a ∧ H1 a = some (.ins C dx fs) ∧ fs.lookup m = none ∧ t σ H1 fun vs H2 => sp (x :: vs) H2 Q E0) ∨ (∃ a dx fs, x = .ref a ∧ H1 a = some (.ins C2 dx fs) ∧ fs.lookup m = none ∧ t σ H1 fun vs H2 => sp2 (x :: vs) H2 Q E0)) := by
  obtain ⟨⟨f, fd, hm, hb, F⟩, cl⟩ := G
  obtain ⟨⟨f2, fd2, hm2, hb2, F2⟩, cl2⟩ := G2
  intro pins s σ H Q I h
  refine PySem.W.methodCall_KW (pl := pl) (thn (he pins s σ H _ I h) fun u s1 ⟨x, H1, I1, rx, q⟩ => ?_) ht
  have ap : ∀ (sp : Sp) y, (fun vs H1 => sp (y :: (vs ++ [])) H1 Q E0) = fun vs H1 => sp (y :: vs) H1 Q E0 := fun sp y => by funext vs H1; rw [List.append_nil]
  rcases q with ⟨a, dx, fs, ex, ea, l, q⟩ | ⟨a, dx, fs, ex, ea, l, q⟩
  · subst ex
    obtain rfl : u = Value.ref a := rx
    rw [← ap] at q
    refine getmeth_ok I1 ea cl hm l ?_
    refine PySem.W.callWith_K (first := [.ref a]) (h₀ := X.base) I.ok.mod.kin hm.kp (thn (ha pos pins s1 σ H1 _ I1 q) fun us s2 ⟨vs, H2, I2, r, q2⟩ => ⟨I2.kIn, ?_⟩) (star_of (Bool.and_eq_true_iff.mp hs).1) (star_all (Bool.and_eq_true_iff.mp hs).2)
    exact run_fn (dvs := []) (E := E0) (us := .ref a :: us) (vs := .ref a :: vs) F (hr.mono hk) hb .nil pass0 I2 (.cons rfl r) q2
  · subst ex
    obtain rfl : u = Value.ref a := rx
    rw [← ap] at q
    refine getmeth_ok I1 ea cl2 hm2 l ?_
    refine PySem.W.callWith_K (first := [.ref a]) (h₀ := X.base) I.ok.mod.kin hm2.kp (thn (ha pos pins s1 σ H1 _ I1 q) fun us s2 ⟨vs, H2, I2, r, q2⟩ => ⟨I2.kIn, ?_⟩) (star_of (Bool.and_eq_true_iff.mp hs).1) (star_all (Bool.and_eq_true_iff.mp hs).2)
    exact run_fn (dvs := []) (E := E0) (us := .ref a :: us) (vs := .ref a :: vs) F2 (hr.mono hk2) hb2 .nil pass0 I2 (.cons rfl r) q2
theorem pe_meth20G {pl : Sem Bool} (G : OkM X.prog X.w X.K X.mg X.base k C m ps sp) (G2 : OkM X.prog X.w X.K X.mg X.base k2 C2 m ps2 sp2) (hr : Room n X.A) (he : PE X o ta) (hk : k ≤ n := by omega) (hk2 : k2 ≤ n := by omega)
    (ht : eval (.Call (.Attribute o m apos) [] [] pos) X.env = (do
      let ov ← eval o X.env
      standAt apos.atName
      let (f, first) ← holding [ov] (getMethod ov m pl)
      callWith pos f first (backTo pos (starEach [] X.env)) (backToKw pos (keywordEach [] X.env))) := by rfl) :
    PE X (.Call (.Attribute o m apos) [] [] pos) (fun σ H Q => ta σ H fun x H1 => (∃ a dx fs, x = .ref a ∧ H1 a = some (.ins C dx fs) ∧ fs.lookup m = none ∧ sp [x] H1 Q E0) ∨ (∃ a dx fs, x = .ref a ∧ H1 a = some (.ins C2 dx fs) ∧ fs.lookup m = none ∧ sp2 [x] H1 Q E0)) := by
  obtain ⟨⟨f, fd, hm, hb, F⟩, cl⟩ := G
  obtain ⟨⟨f2, fd2, hm2, hb2, F2⟩, cl2⟩ := G2
  intro pins s σ H Q I h
  refine PySem.W.methodCall_KW (pl := pl) (thn (he pins s σ H _ I h) fun u s1 ⟨x, H1, I1, rx, q⟩ => ?_) ht
  rcases q with ⟨a, dx, fs, ex, ea, l, q⟩ | ⟨a, dx, fs, ex, ea, l, q⟩
  · subst ex
    obtain rfl : u = Value.ref a := rx
    refine getmeth_ok I1 ea cl hm l ?_
    exact PySem.W.callWith_K0 (first := [.ref a]) I1.kIn hm.kp (run_fn (dvs := []) (E := E0) (us := [.ref a]) (vs := [.ref a]) F (hr.mono hk) hb .nil pass0 I1 (.cons rfl .nil) q)
  · subst ex
    obtain rfl : u = Value.ref a := rx
    refine getmeth_ok I1 ea cl2 hm2 l ?_
    exact PySem.W.callWith_K0 (first := [.ref a]) I1.kIn hm2.kp (run_fn (dvs := []) (E := E0) (us := [.ref a]) (vs := [.ref a]) F2 (hr.mono hk2) hb2 .nil pass0 I1 (.cons rfl .nil) q)
end
end L2

set_option Elab.async false
set_option linter.all false
set_option maxRecDepth 100000
set_option maxHeartbeats 4000000
/-! our own rules: a comprehension over a range whose items may change the heap -/
namespace L2
open PySem PySem.Spec PyProof.Rows
theorem compM_range {n : Nat} {g : TG} {tc : TT} {te : TE} {cs : St} {H1 : Hp} {Q : VK} (Pv : Addr → Nat → List V → St → Hp → Prop)
    (h0 : ∀ D H', H1 D = none → Same H1 H' → H' D = some (.lst []) → Pv D 0 [] cs H')
    (hs : ∀ D i ys σ1 H', i < n → H' D = some (.lst ys) → ys.length ≤ i → Pv D i ys σ1 H' → g (.int (i : Nat)) σ1 H' fun σ2 H2 => tc σ2 H2 fun b H3 => if b = true then te σ2 H3 fun v H4 => PutM ((List.range n).map fun (k : Nat) => V.int (0 + k)) D (Pv D) i σ2 v H4 else SkipM ((List.range n).map fun (k : Nat) => V.int (0 + k)) D (Pv D) i σ2 H3)
    (hd : ∀ D ys σ1 H', H' D = some (.lst ys) → Pv D n ys σ1 H' → Q (.ref D) H') : CompJ (Itr 0 n) g tc te cs H1 Q := by
  have el : ((List.range n).map fun (k : Nat) => V.int (0 + k)).length = n := by rw [List.length_map, List.length_range]
  intro D hD
  refine ⟨WM ((List.range n).map fun (k : Nat) => V.int (0 + k)) D (Pv D), ⟨_, rfl, Nat.zero_le _, [], upd_same, Nat.le_refl _, h0 D _ hD (same_new hD _) upd_same⟩, ?_⟩
  rintro i m σ1 H ⟨rfl, hi, ys, hy, ly, p⟩
  have O := over_range 0 n
  by_cases hlt : i < n
  · refine .inr ⟨O.go i _ trivial (by rw [el]; exact hlt), fun x H' y => ?_⟩
    obtain ⟨rfl, hx⟩ := O.yld i _ x H' trivial (by rw [el]; exact hlt) y
    have ex : x = .int (i : Nat) := by
      rw [List.getElem?_map, List.getElem?_range hlt] at hx
      simp at hx
      exact hx.symm
    rw [ex]
    exact hs D i ys σ1 H' hlt hy ly p
  · have e : i = n := by rw [el] at hi; omega
    subst e
    exact .inl ⟨O.stop _ _ trivial (by rw [el]; exact Nat.le_refl _), hd D ys σ1 _ hy p⟩
end L2

seal L2.PE L2.PA L2.PS L2.PSs L2.PT L2.PW L2.PG L2.PGs L2.OpR L2.CallR L2.PI L2.PSet L2.PO L2.SlR L2.IxR L2.PPs L2.PC L2.UnR L2.MtR
local macro_rules
  | `(tactic| walk_at "rl") => do
    let a ← L2.rdArgs L2.lzPre
    `(tactic| simp (config := { maxSteps := 3000000 }) only [$a,*, *])
  | `(tactic| walk_at "ro") => do
    let a ← L2.rdArgs (L2.rdPre)
    `(tactic| simp (config := { maxSteps := 3000000 }) only [and_assoc, $a,*, *])
  | `(tactic| walk_at "rz") => do
    let a ← L2.rdArgs (L2.lzPre ++ " lazyAll")
    `(tactic| simp (config := { maxSteps := 3000000 }) only [$a,*, *])
  | `(tactic| walk_at "rd") => `(tactic| first | (walk_at "rl"; try walk_at "ro") | walk_at "ro")

set_option Elab.async false
set_option linter.all false
set_option maxRecDepth 100000
set_option maxHeartbeats 4000000
namespace K17
open PySem L2
def top (i : Nat) : Stmt := PySem.Challenge.pw_rerunyard_k17_whole_taken_in_order.main.body.getD i (.Pass ⟨0, 0, 0, 0⟩)
abbrev s__wall : Stmt := top 0
theorem sc__wall : FnScope ["k"] ["k"] (defScope s__wall) := ⟨rfl, rfl, rfl, by decide +kernel, rfl, by decide +kernel, by decide +kernel⟩
abbrev s_ListAgenda___init__ : Stmt := inClass (top 2) 0
theorem sc_ListAgenda___init__ : FnScope ["self"] ["self"] (defScope s_ListAgenda___init__) := ⟨rfl, rfl, rfl, by decide +kernel, rfl, by decide +kernel, by decide +kernel⟩
abbrev s_ListAgenda_put : Stmt := inClass (top 2) 1
theorem sc_ListAgenda_put : FnScope ["self", "moment", "thing", "at"] ["self", "moment", "thing"] (defScope s_ListAgenda_put) := ⟨rfl, rfl, rfl, by decide +kernel, rfl, by decide +kernel, by decide +kernel⟩
abbrev s_ListAgenda_first : Stmt := inClass (top 2) 2
theorem sc_ListAgenda_first : FnScope ["self"] ["self"] (defScope s_ListAgenda_first) := ⟨rfl, rfl, rfl, by decide +kernel, rfl, by decide +kernel, by decide +kernel⟩
abbrev s_ListAgenda_take : Stmt := inClass (top 2) 3
theorem sc_ListAgenda_take : FnScope ["self"] ["self"] (defScope s_ListAgenda_take) := ⟨rfl, rfl, rfl, by decide +kernel, rfl, by decide +kernel, by decide +kernel⟩
abbrev s_ListAgenda_in_order : Stmt := inClass (top 2) 4
theorem sc_ListAgenda_in_order : FnScope ["self"] ["self"] (defScope s_ListAgenda_in_order) := ⟨rfl, rfl, rfl, by decide +kernel, rfl, by decide +kernel, by decide +kernel⟩
abbrev s_ListAgenda_stand : Stmt := inClass (top 2) 5
theorem sc_ListAgenda_stand : FnScope ["self", "kept"] ["self", "kept"] (defScope s_ListAgenda_stand) := ⟨rfl, rfl, rfl, by decide +kernel, rfl, by decide +kernel, by decide +kernel⟩
abbrev s_HeapAgenda___init__ : Stmt := inClass (top 3) 0
theorem sc_HeapAgenda___init__ : FnScope ["self"] ["self"] (defScope s_HeapAgenda___init__) := ⟨rfl, rfl, rfl, by decide +kernel, rfl, by decide +kernel, by decide +kernel⟩
abbrev s_HeapAgenda_put : Stmt := inClass (top 3) 1
theorem sc_HeapAgenda_put : FnScope ["self", "moment", "thing"] ["self", "moment", "thing"] (defScope s_HeapAgenda_put) := ⟨rfl, rfl, rfl, by decide +kernel, rfl, by decide +kernel, by decide +kernel⟩
abbrev s_HeapAgenda_first : Stmt := inClass (top 3) 2
theorem sc_HeapAgenda_first : FnScope ["self"] ["self"] (defScope s_HeapAgenda_first) := ⟨rfl, rfl, rfl, by decide +kernel, rfl, by decide +kernel, by decide +kernel⟩
abbrev s_HeapAgenda_take : Stmt := inClass (top 3) 3
theorem sc_HeapAgenda_take : FnScope ["self", "moment", "turn", "thing", "last"] ["self"] (defScope s_HeapAgenda_take) := ⟨rfl, rfl, rfl, by decide +kernel, rfl, by decide +kernel, by decide +kernel⟩
abbrev s_HeapAgenda_in_order : Stmt := inClass (top 3) 4
theorem sc_HeapAgenda_in_order : FnScope ["self"] ["self"] (defScope s_HeapAgenda_in_order) := ⟨rfl, rfl, rfl, by decide +kernel, rfl, by decide +kernel, by decide +kernel⟩
abbrev s_HeapAgenda_stand : Stmt := inClass (top 3) 5
theorem sc_HeapAgenda_stand : FnScope ["self", "kept"] ["self", "kept"] (defScope s_HeapAgenda_stand) := ⟨rfl, rfl, rfl, by decide +kernel, rfl, by decide +kernel, by decide +kernel⟩
abbrev s_rise : Stmt := top 4
theorem sc_rise : FnScope ["heap", "at"] ["heap"] (defScope s_rise) := ⟨rfl, rfl, rfl, by decide +kernel, rfl, by decide +kernel, by decide +kernel⟩
abbrev s_sink : Stmt := top 5
theorem sc_sink : FnScope ["heap", "at", "least"] ["heap"] (defScope s_sink) := ⟨rfl, rfl, rfl, by decide +kernel, rfl, by decide +kernel, by decide +kernel⟩
abbrev s_least_of_three : Stmt := top 6
theorem sc_least_of_three : FnScope ["heap", "at", "least", "below"] ["heap", "at"] (defScope s_least_of_three) := ⟨rfl, rfl, rfl, by decide +kernel, rfl, by decide +kernel, by decide +kernel⟩
abbrev s_swap : Stmt := top 7
theorem sc_swap : FnScope ["heap", "one", "other", "kept"] ["heap", "one", "other"] (defScope s_swap) := ⟨rfl, rfl, rfl, by decide +kernel, rfl, by decide +kernel, by decide +kernel⟩
abbrev s__law_next : Stmt := top 9
theorem sc__law_next : FnScope ["deck", "at", "many", "cell", "j", "number"] ["deck"] (defScope s__law_next) := ⟨rfl, rfl, rfl, by decide +kernel, rfl, by decide +kernel, by decide +kernel⟩
abbrev s__law_taken : Stmt := top 10
theorem sc__law_taken : FnScope ["agenda", "many", "asked", "found", "k", "moment", "one"] ["agenda", "many", "asked"] (defScope s__law_taken) := ⟨rfl, rfl, rfl, by decide +kernel, rfl, by decide +kernel, by decide +kernel⟩
abbrev s__law_things : Stmt := top 11
theorem sc__law_things : FnScope ["turns"] ["turns"] (defScope s__law_things) := ⟨rfl, rfl, rfl, by decide +kernel, rfl, by decide +kernel, by decide +kernel⟩
abbrev s_law : Stmt := top 12
theorem sc_law : FnScope ["script", "deck", "many", "most", "asked", "turns", "due", "left", "last", "more", "agenda", "moment", "thing"] ["script"] (defScope s_law) := ⟨rfl, rfl, rfl, by decide +kernel, rfl, by decide +kernel, by decide +kernel⟩
end K17

set_option Elab.async false
set_option linter.all false
set_option maxRecDepth 100000
set_option maxHeartbeats 4000000
namespace K17
open PySem L2
/-! ### heaps of keys -/
abbrev It := Addr × List Int
def kf (ps : List It) (i : Nat) : List Int := (ps.getD i (0, [])).2
def le (a b : List Int) : Prop := HT.lexLt b a = false
theorem le_refl (a : List Int) : le a a := lex_irrefl a
theorem lt_asymm {a b : List Int} (h : HT.lexLt a b = true) : HT.lexLt b a = false := by
  cases z : HT.lexLt b a with
  | false => rfl
  | true => have := lex_trans h z; rw [lex_irrefl] at this; cases this
theorem le_of_lt {a b : List Int} (h : HT.lexLt a b = true) : le a b := lt_asymm h
theorem le_trans {a b c : List Int} (h : le a b) (h' : le b c) : le a c := by
  unfold le at *
  cases z : HT.lexLt c a with
  | false => rfl
  | true =>
    by_cases e : a = b
    · rw [e, h'] at z; cases z
    · rcases lex_total e with y | y
      · rw [lex_trans z y] at h'; cases h'
      · rw [h] at y; cases y
theorem lt_of_le {a b c : List Int} (h : HT.lexLt a b = true) (h' : le b c) : HT.lexLt a c = true := by
  by_cases e : b = c
  · rw [← e]; exact h
  · rcases lex_total e with y | y
    · exact lex_trans h y
    · unfold le at h'; rw [h'] at y; cases y
def sw (ps : List It) (i j : Nat) : List It := (ps.set i (ps.getD j (0, []))).set j (ps.getD i (0, []))
theorem sw_len (ps : List It) (i j : Nat) : (sw ps i j).length = ps.length := by unfold sw; rw [List.length_set, List.length_set]
theorem sw_get {ps : List It} {i j : Nat} (hi : i < ps.length) (hj : j < ps.length) (x : Nat) : (sw ps i j).getD x (0, []) = if x = j then ps.getD i (0, []) else if x = i then ps.getD j (0, []) else ps.getD x (0, []) := by
  unfold sw
  simp only [List.getD_eq_getElem?_getD]
  rw [List.getElem?_set, List.getElem?_set]
  by_cases c : j = x
  · subst c
    rw [if_pos rfl, if_pos (by rw [List.length_set]; exact hj), if_pos rfl]; rfl
  · rw [if_neg c, if_neg (Ne.symm c)]
    by_cases c2 : i = x
    · subst c2
      rw [if_pos rfl, if_pos hi, if_pos rfl]; rfl
    · rw [if_neg c2, if_neg (Ne.symm c2)]
theorem sw_kf {ps : List It} {i j : Nat} (hi : i < ps.length) (hj : j < ps.length) (x : Nat) : kf (sw ps i j) x = if x = j then kf ps i else if x = i then kf ps j else kf ps x := by
  unfold kf
  rw [sw_get hi hj]
  split
  · rfl
  · split <;> rfl
theorem sw_perm {ps : List It} {i j : Nat} (hi : i < ps.length) (hj : j < ps.length) : (sw ps i j).Perm ps := by
  have := List.set_set_perm (as := ps) hi hj
  unfold sw
  simpa [List.getD_eq_getElem?_getD, hi, hj] using this
def HP (ps : List It) : Prop := ∀ i, 0 < i → i < ps.length → le (kf ps ((i - 1) / 2)) (kf ps i)
/-- a heap, but for k and the one above it -/
def RI (ps : List It) (k : Nat) : Prop := (∀ i, 0 < i → i < ps.length → i ≠ k → le (kf ps ((i - 1) / 2)) (kf ps i)) ∧ (0 < k → ∀ c, 0 < c → c < ps.length → (c - 1) / 2 = k → le (kf ps ((k - 1) / 2)) (kf ps c))
theorem RI.step {ps : List It} {k : Nat} (h : RI ps k) (h0 : 0 < k) (hk : k < ps.length) (hl : HT.lexLt (kf ps k) (kf ps ((k - 1) / 2)) = true) : RI (sw ps k ((k - 1) / 2)) ((k - 1) / 2) := by
  have hp : (k - 1) / 2 < ps.length := by omega
  have g := sw_kf (ps := ps) hk hp
  rw [RI, sw_len]
  generalize hpp : (k - 1) / 2 = p at *
  refine ⟨fun i i0 il ip => ?_, fun p0 c c0 cl cp => ?_⟩
  · rw [g, g]
    by_cases ik : i = k
    · subst ik
      rw [hpp, if_pos rfl, if_neg ip, if_pos rfl]
      exact le_of_lt hl
    · rw [if_neg ip, if_neg ik]
      by_cases c1 : (i - 1) / 2 = p
      · rw [if_pos c1]
        have := h.1 i i0 il ik
        rw [c1] at this
        exact le_trans (le_of_lt hl) this
      · rw [if_neg c1]
        by_cases c2 : (i - 1) / 2 = k
        · rw [if_pos c2]
          have := h.2 h0 i i0 il c2
          rw [hpp] at this
          exact this
        · rw [if_neg c2]
          exact h.1 i i0 il ik
  · rw [g, g]
    have n1 : (p - 1) / 2 ≠ p := by omega
    have n2 : (p - 1) / 2 ≠ k := by omega
    rw [if_neg n1, if_neg n2]
    have hg := h.1 p p0 hp (by omega)
    by_cases ck : c = k
    · rw [if_neg (by omega), if_pos ck]
      exact hg
    · rw [if_neg (by omega), if_neg ck]
      have := h.1 c c0 cl ck
      rw [cp] at this
      exact le_trans hg this
theorem RI.done {ps : List It} {k : Nat} (h : RI ps k) (hk : k < ps.length) (hl : k = 0 ∨ le (kf ps ((k - 1) / 2)) (kf ps k)) : HP ps := fun i i0 il => by
  by_cases c : i = k
  · subst c
    rcases hl with z | z
    · omega
    · exact z
  · exact h.1 i i0 il c
/-- one more behind a heap -/
theorem RI.snoc {ps : List It} {q : It} (h : HP ps) : RI (ps ++ [q]) ps.length := by
  have g : ∀ i, i < ps.length → kf (ps ++ [q]) i = kf ps i := fun i hi => by
    unfold kf
    simp only [List.getD_eq_getElem?_getD]
    rw [List.getElem?_append_left hi]
  refine ⟨fun i i0 il ik => ?_, fun k0 c c0 cl cp => ?_⟩
  · rw [List.length_append, List.length_singleton] at il
    rw [g _ (by omega), g _ (by omega)]
    exact h i i0 (by omega)
  · rw [List.length_append, List.length_singleton] at cl
    omega
def lst3 (ps : List It) (k : Nat) : Nat :=
  let a := if 2 * k + 1 < ps.length ∧ HT.lexLt (kf ps (2 * k + 1)) (kf ps k) = true then 2 * k + 1 else k
  if 2 * k + 2 < ps.length ∧ HT.lexLt (kf ps (2 * k + 2)) (kf ps a) = true then 2 * k + 2 else a
theorem lst3_spec {ps : List It} {k : Nat} (hk : k < ps.length) : lst3 ps k < ps.length ∧ (lst3 ps k = k ∨ ((lst3 ps k = 2 * k + 1 ∨ lst3 ps k = 2 * k + 2) ∧ HT.lexLt (kf ps (lst3 ps k)) (kf ps k) = true)) ∧ ∀ c, 0 < c → c < ps.length → (c - 1) / 2 = k → le (kf ps (lst3 ps k)) (kf ps c) := by
  have key : ∀ a, (a = k ∨ (a = 2 * k + 1 ∧ 2 * k + 1 < ps.length ∧ HT.lexLt (kf ps (2 * k + 1)) (kf ps k) = true)) → (2 * k + 1 < ps.length → le (kf ps a) (kf ps (2 * k + 1))) →
      let m := if 2 * k + 2 < ps.length ∧ HT.lexLt (kf ps (2 * k + 2)) (kf ps a) = true then 2 * k + 2 else a
      m < ps.length ∧ (m = k ∨ ((m = 2 * k + 1 ∨ m = 2 * k + 2) ∧ HT.lexLt (kf ps m) (kf ps k) = true)) ∧ ∀ c, 0 < c → c < ps.length → (c - 1) / 2 = k → le (kf ps m) (kf ps c) := by
    intro a ha h1
    have al : a < ps.length := by rcases ha with z | z <;> omega
    have ak : le (kf ps a) (kf ps k) := by
      rcases ha with z | ⟨z, _, y⟩
      · rw [z]; exact le_refl _
      · rw [z]; exact le_of_lt y
    by_cases c : 2 * k + 2 < ps.length ∧ HT.lexLt (kf ps (2 * k + 2)) (kf ps a) = true
    · simp only [if_pos c]
      refine ⟨c.1, .inr ⟨by simp, lt_of_le c.2 ak⟩, fun x x0 xl xk => ?_⟩
      by_cases e : x = 2 * k + 2
      · rw [e]; exact le_refl _
      · have e : x = 2 * k + 1 := by omega
        rw [e]
        exact le_trans (le_of_lt c.2) (h1 (by omega))
    · simp only [if_neg c]
      refine ⟨al, ?_, fun x x0 xl xk => ?_⟩
      · rcases ha with z | ⟨z, _, y⟩
        · exact .inl z
        · exact .inr ⟨.inl z, by rw [z]; exact y⟩
      · by_cases e : x = 2 * k + 2
        · rw [e]
          unfold le
          cases z : HT.lexLt (kf ps (2 * k + 2)) (kf ps a) with
          | false => rfl
          | true => exact absurd ⟨by omega, z⟩ c
        · have e : x = 2 * k + 1 := by omega
          rw [e]
          exact h1 (by omega)
  unfold lst3
  by_cases c : 2 * k + 1 < ps.length ∧ HT.lexLt (kf ps (2 * k + 1)) (kf ps k) = true
  · simp only [if_pos c]
    exact key (2 * k + 1) (.inr ⟨rfl, c⟩) fun _ => le_refl _
  · simp only [if_neg c]
    refine key k (.inl rfl) fun hl => ?_
    unfold le
    cases z : HT.lexLt (kf ps (2 * k + 1)) (kf ps k) with
    | false => rfl
    | true => exact absurd ⟨hl, z⟩ c
def SI (ps : List It) (k : Nat) : Prop := (∀ i, 0 < i → i < ps.length → (i - 1) / 2 ≠ k → le (kf ps ((i - 1) / 2)) (kf ps i)) ∧ (0 < k → ∀ c, 0 < c → c < ps.length → (c - 1) / 2 = k → le (kf ps ((k - 1) / 2)) (kf ps c))
theorem SI.step {ps : List It} {k : Nat} (h : SI ps k) (hk : k < ps.length) (hm : lst3 ps k ≠ k) : SI (sw ps k (lst3 ps k)) (lst3 ps k) ∧ k < lst3 ps k := by
  obtain ⟨ml, mc, mm⟩ := lst3_spec hk
  have mc := mc.resolve_left hm
  generalize lst3 ps k = m at *
  have g := sw_kf (ps := ps) hk ml
  have mp : (m - 1) / 2 = k := by omega
  refine ⟨?_, by omega⟩
  rw [SI, sw_len]
  refine ⟨fun i i0 il ip => ?_, fun m0 c c0 cl cp => ?_⟩
  · rw [g, g, if_neg ip]
    by_cases ik : (i - 1) / 2 = k
    · rw [if_pos ik]
      by_cases im : i = m
      · rw [if_pos im]; exact le_of_lt mc.2
      · rw [if_neg im, if_neg (by omega)]
        exact mm i i0 il ik
    · rw [if_neg ik, if_neg (by omega)]
      by_cases e : i = k
      · rw [if_pos e, e]
        exact h.2 (by omega) m (by omega) ml mp
      · rw [if_neg e]
        exact h.1 i i0 il ik
  · rw [g, g, mp, if_neg (by omega), if_pos rfl, if_neg (by omega), if_neg (by omega)]
    have := h.1 c c0 cl (by omega)
    rw [cp] at this
    exact this
theorem SI.done {ps : List It} {k : Nat} (h : SI ps k) (hk : k < ps.length) (hm : lst3 ps k = k) : HP ps := fun i i0 il => by
  by_cases c : (i - 1) / 2 = k
  · rw [c]
    have := (lst3_spec hk).2.2 i i0 il c
    rw [hm] at this
    exact this
  · exact h.1 i i0 il c
/-- another one at the root -/
theorem SI.root {ps : List It} {q : It} (h : HP ps) : SI (ps.set 0 q) 0 := by
  refine ⟨fun i i0 il ip => ?_, fun k0 => absurd k0 (by omega)⟩
  rw [List.length_set] at il
  have g : ∀ x, x ≠ 0 → kf (ps.set 0 q) x = kf ps x := fun x hx => by
    unfold kf
    simp only [List.getD_eq_getElem?_getD]
    rw [List.getElem?_set_ne (Ne.symm hx)]
  rw [g _ ip, g _ (by omega)]
  exact h i i0 il
theorem HP.min {ps : List It} (h : HP ps) : ∀ i, i < ps.length → le (kf ps 0) (kf ps i) := by
  intro i
  induction i using Nat.strongRecOn with
  | ind i ih =>
    intro il
    by_cases c : i = 0
    · rw [c]; exact le_refl _
    · exact le_trans (ih ((i - 1) / 2) (by omega) (by omega)) (h i (by omega) il)
theorem HP.init {ps : List It} (h : HP ps) : HP ps.dropLast := by
  intro i i0 il
  rw [List.length_dropLast] at il
  have g : ∀ x, x < ps.length - 1 → kf ps.dropLast x = kf ps x := fun x hx => by
    unfold kf
    simp only [List.getD_eq_getElem?_getD]
    rw [List.getElem?_dropLast, if_pos hx]
  rw [g _ (by omega), g _ il]
  exact h i i0 (by omega)
end K17

set_option Elab.async false
set_option linter.all false
set_option maxRecDepth 100000
set_option maxHeartbeats 4000000
namespace K17
open PySem L2
def HL (H : Hp) (l : Addr) (ps : List It) : Prop := H l = some (.lst (ps.map fun q => V.ref q.1)) ∧ ∀ q ∈ ps, H q.1 = some (.tup (q.2.map V.int))
def Onl (l : Addr) (H H' : Hp) : Prop := ∀ c u, c ≠ l → H c = some u → H' c = some u
theorem Onl.trans {l : Addr} {H H' H'' : Hp} (g : Onl l H H') (g' : Onl l H' H'') : Onl l H H'' := fun c u n h => g' c u n (g c u n h)
theorem Onl.refl {l : Addr} {H : Hp} : Onl l H H := fun _ _ _ h => h
theorem Onl.same {l : Addr} {H H' : Hp} (g : Same H H') : Onl l H H' := fun c u _ h => g c u h
theorem Onl.tup {l : Addr} {H H' : Hp} {xs : List V} (g : Onl l H H') (h : H l = some (.lst xs)) {c : Addr} {ys : List V} (hc : H c = some (.tup ys)) : H' c = some (.tup ys) := g c _ (fun z => by rw [z, h] at hc; cases hc) hc
theorem HL.same {H H' : Hp} {l : Addr} {ps : List It} (h : HL H l ps) (g : Same H H') : HL H' l ps := ⟨g _ _ h.1, fun q hq => g _ _ (h.2 q hq)⟩
theorem at_getD {ps : List It} {i : Nat} (hi : i < ps.length) : atI (ps.map fun q => V.ref q.1) (i : Int) = some (.ref (ps.getD i (0, [])).1) := by
  refine atI_nat ?_
  rw [List.getElem?_map, List.getElem?_eq_getElem hi]
  simp [List.getD_eq_getElem?_getD, hi]
theorem ixN_at {n i : Nat} (h : i < n) : ixN n (i : Int) = some i := by
  unfold ixN
  simp
  omega
theorem mem_getD {ps : List It} {i : Nat} (hi : i < ps.length) : ps.getD i (0, []) ∈ ps := by
  rw [List.getD_eq_getElem?_getD, List.getElem?_eq_getElem hi]
  exact List.getElem_mem hi
section
variable {P : Program} {w : World} {K : PySem.W.Frag} {mg : Str → Option Value} {base : Heap}
def spSw : Sp := fun vs H Q _ => ∃ (l : Addr) (ps : List It) (i j : Nat), vs = [.ref l, .int i, .int j] ∧ HL H l ps ∧ i < ps.length ∧ j < ps.length ∧ ∀ H', Onl l H H' → HL H' l (sw ps i j) → Q .non H'
theorem ok_swap (D : DefAt K mg "swap" s_swap ["heap", "one", "other"]) : OkD P w K mg base 1 "swap" ["heap", "one", "other"] spSw := by
  refine D.ok sc_swap (fun vs H Q E h => ?_) (fun f cdv A outer s H vs Q E hr h => ?_)
  · obtain ⟨_, _, _, _, rfl, _⟩ := h; rfl
  obtain ⟨l, ps, i, j, rfl, ⟨h1, h2⟩, hi, hj, q⟩ := h
  have a1 := at_getD hi
  have a2 := at_getD hj
  refine ⟨_, (pss_cons (ps_set (i := 3) sc_swap.nd rfl (Or.inl rfl) (pe_ix ix_g (pv 0) (pv 1) (fun _ _ => rfl)))
  (pss_cons (ps_asg (pe_ix ix_g (pv 0) (pv 2) (fun _ _ => rfl)) (pg_sub (pv 0) (pv 1) set_listG))
  (pss_one (ps_asg (pv 3) (pg_sub (pv 0) (pv 2) set_listG))))), ?_⟩
  walk_at "rz"
  refine ⟨i, ixN_at (by rw [List.length_map]; exact hi), fun H1 m1 => ?_⟩
  have l1 := m1.at_
  walk_at "rz"
  refine ⟨j, ixN_at (by rw [List.length_set, List.length_map]; exact hj), fun H2 m2 => ?_⟩
  walk_at "rz"
  refine q H2 (fun c u n hc => m2.old (m1.old hc n) n) ⟨?_, fun r hr => ?_⟩
  · rw [m2.at_]
    unfold sw
    rw [List.map_set, List.map_set]
  · have hr := (sw_perm hi hj).mem_iff.mp hr
    have n : r.1 ≠ l := fun z => by have := h2 r hr; rw [z, h1] at this; cases this
    exact m2.old (m1.old (h2 r hr) n) n
def sp3 : Sp := fun vs H Q _ => ∃ (l : Addr) (ps : List It) (k : Nat), vs = [.ref l, .int k] ∧ HL H l ps ∧ k < ps.length ∧ ∀ H', Same H H' → Q (.int (lst3 ps k)) H'
theorem ok_three (D : DefAt K mg "least_of_three" s_least_of_three ["heap", "at"]) (hlen : mg "len" = none) : OkD P w K mg base 1 "least_of_three" ["heap", "at"] sp3 := by
  refine D.ok sc_least_of_three (fun vs H Q E h => ?_) (fun f cdv A outer s H vs Q E hr h => ?_)
  · obtain ⟨_, _, _, rfl, _⟩ := h; rfl
  obtain ⟨l, ps, k, rfl, ⟨h1, h2⟩, hk, q⟩ := h
  have hu64 := hr.units
  refine ⟨_, (pss_cons (ps_set (i := 2) sc_least_of_three.nd rfl (Or.inl rfl) (pv 1))
  (pss_cons (ps_forT PassesOwn.never rfl (pe_tupG (pa_c (pe_op op_add (pe_op op_mul pe_int (pv 1)) pe_int) (pa_c (pe_op op_add (pe_op op_mul pe_int (pv 1)) pe_int) pa_nil))) (pg_name (i := 3) sc_least_of_three.nd rfl (Or.inl rfl))
  (pss_one (ps_if (PW.pt (pw_and (pt_cmpR op_lt (pv 3) (pe_cB call_len_seq rfl hlen PySem.boot_len (pa_c (pv 0) pa_nil)) (nomark _)) (pw_and1 (pt_cmpR (op_ltT (Nat.lt_of_le_of_lt (Nat.le_add_right _ 64) hu64)) (pe_ix ix_g (pv 0) (pv 3) (fun _ _ => rfl)) (pe_ix ix_g (pv 0) (pv 2) (fun _ _ => rfl)) (nomark _)))))
  (pss_one (ps_set (i := 2) sc_least_of_three.nd rfl (Or.inl rfl) (pv 3)))
  pss_nil)))
  (pss_one (ps_ret (pv 2))))), ?_⟩
  walk_at "rz"
  intro p H1 hp g1 hp1
  have l1 := g1 _ _ h1
  walk_at "rz"
  refine ⟨_, .inl (SqL.of l1), ?_⟩
  walk_at "rz"
  have ky : ∀ i, i < ps.length → SqT K H1 (ps.getD i (0, [])).1 ((kf ps i).map V.int) := fun i hi => SqT.of (g1 _ _ (h2 _ (mem_getD hi)))
  have lm : (ps.map fun q => V.ref q.1).length = ps.length := List.length_map _
  have e1 : (2 * (k : Int) + 1) = ((2 * k + 1 : Nat) : Int) := by omega
  have e2 : (2 * (k : Int) + 2) = ((2 * k + 2 : Nat) : Int) := by omega
  rw [lm]
  refine ite2 (fun c => ?_) fun c => ?_
  · have c1 : 2 * k + 1 < ps.length := by omega
    have a1 := at_getD c1
    have a2 := at_getD hk
    rw [e1]
    walk_at "rz"
    refine ⟨_, ky _ c1, _, ky _ hk, ?_⟩
    walk_at "rz"
    refine ite2 (fun z0 => ?_) fun z0 => ?_
    · have LX : lst3 ps k = if 2 * k + 2 < ps.length ∧ HT.lexLt (kf ps (2 * k + 2)) (kf ps (2 * k + 1)) = true then 2 * k + 2 else 2 * k + 1 := by
        unfold lst3
        simp only [if_pos (show 2 * k + 1 < ps.length ∧ HT.lexLt (kf ps (2 * k + 1)) (kf ps k) = true from ⟨c1, z0⟩)]
      clear a1 a2
      have Ha : 2 * k + 1 < ps.length := c1
      walk_at "rz"
      refine ⟨_, .inl (SqL.of l1), ?_⟩
      walk_at "rz"
      refine ite2 (fun d => ?_) fun d => ?_
      · have d1 : 2 * k + 2 < ps.length := by omega
        have b1 := at_getD d1
        have b2 := at_getD Ha
        try rw [e2]
        walk_at "rz"
        refine ⟨_, ky _ d1, _, ky _ Ha, ?_⟩
        walk_at "rz"
        refine ite2 (fun z => ?_) fun z => ?_
        · walk_at "rz"
          have := q H1 g1
          rw [LX, if_pos ⟨d1, z⟩] at this
          exact this
        · walk_at "rz"
          have := q H1 g1
          rw [LX, if_neg (fun y => z y.2)] at this
          exact this
      · walk_at "rz"
        have := q H1 g1
        rw [LX, if_neg (fun y => d (by have := y.1; omega))] at this
        exact this
    · have LX : lst3 ps k = if 2 * k + 2 < ps.length ∧ HT.lexLt (kf ps (2 * k + 2)) (kf ps k) = true then 2 * k + 2 else k := by
        unfold lst3
        simp only [if_neg (show ¬ (2 * k + 1 < ps.length ∧ HT.lexLt (kf ps (2 * k + 1)) (kf ps k) = true) from fun y => z0 y.2)]
      clear a1 a2
      have Ha : k < ps.length := hk
      walk_at "rz"
      refine ⟨_, .inl (SqL.of l1), ?_⟩
      walk_at "rz"
      refine ite2 (fun d => ?_) fun d => ?_
      · have d1 : 2 * k + 2 < ps.length := by omega
        have b1 := at_getD d1
        have b2 := at_getD Ha
        try rw [e2]
        walk_at "rz"
        refine ⟨_, ky _ d1, _, ky _ Ha, ?_⟩
        walk_at "rz"
        refine ite2 (fun z => ?_) fun z => ?_
        · walk_at "rz"
          have := q H1 g1
          rw [LX, if_pos ⟨d1, z⟩] at this
          exact this
        · walk_at "rz"
          have := q H1 g1
          rw [LX, if_neg (fun y => z y.2)] at this
          exact this
      · walk_at "rz"
        have := q H1 g1
        rw [LX, if_neg (fun y => d (by have := y.1; omega))] at this
        exact this
  · have LX : lst3 ps k = if 2 * k + 2 < ps.length ∧ HT.lexLt (kf ps (2 * k + 2)) (kf ps k) = true then 2 * k + 2 else k := by
      unfold lst3
      simp only [if_neg (show ¬ (2 * k + 1 < ps.length ∧ HT.lexLt (kf ps (2 * k + 1)) (kf ps k) = true) from fun y => c (by have := y.1; omega))]
    have Ha : k < ps.length := hk
    walk_at "rz"
    refine ⟨_, .inl (SqL.of l1), ?_⟩
    walk_at "rz"
    refine ite2 (fun d => ?_) fun d => ?_
    · have d1 : 2 * k + 2 < ps.length := by omega
      have b1 := at_getD d1
      have b2 := at_getD Ha
      try rw [e2]
      walk_at "rz"
      refine ⟨_, ky _ d1, _, ky _ Ha, ?_⟩
      walk_at "rz"
      refine ite2 (fun z => ?_) fun z => ?_
      · walk_at "rz"
        have := q H1 g1
        rw [LX, if_pos ⟨d1, z⟩] at this
        exact this
      · walk_at "rz"
        have := q H1 g1
        rw [LX, if_neg (fun y => z y.2)] at this
        exact this
    · walk_at "rz"
      have := q H1 g1
      rw [LX, if_neg (fun y => d (by have := y.1; omega))] at this
      exact this
end
end K17

set_option Elab.async false
set_option linter.all false
set_option maxRecDepth 100000
set_option maxHeartbeats 4000000
namespace K17
open PySem L2
section
variable {P : Program} {w : World} {K : PySem.W.Frag} {mg : Str → Option Value} {base : Heap}
def RsI (l : Addr) (ps : List It) (H : Hp) (m : Nat) (σ : St) (H' : Hp) : Prop := ∃ (k : Nat) (ps' : List It), σ = [some (.ref l), some (.int k)] ∧ Onl l H H' ∧ HL H' l ps' ∧ ps'.Perm ps ∧ k < ps'.length ∧ RI ps' k ∧ m = k
def RsZ (l : Addr) (ps : List It) (H : Hp) (σ : St) (H' : Hp) : Prop := ∃ (v : Option V) (ps' : List It), σ = [some (.ref l), v] ∧ Onl l H H' ∧ HL H' l ps' ∧ ps'.Perm ps ∧ HP ps'
def spRise : Sp := fun vs H Q _ => ∃ (l : Addr) (ps : List It), vs = [.ref l] ∧ HL H l ps ∧ 0 < ps.length ∧ RI ps (ps.length - 1) ∧ ∀ H' ps', Onl l H H' → HL H' l ps' → ps'.Perm ps → HP ps' → Q .non H'
theorem ok_rise (D : DefAt K mg "rise" s_rise ["heap"]) (G_swap : OkD P w K mg base 1 "swap" ["heap", "one", "other"] spSw) (hlen : mg "len" = none) : OkD P w K mg base 2 "rise" ["heap"] spRise := by
  refine D.ok sc_rise (fun vs H Q E h => ?_) (fun f cdv A outer s H vs Q E hr h => ?_)
  · obtain ⟨_, _, rfl, _⟩ := h; rfl
  obtain ⟨l, ps, rfl, hl, h0, ri, q⟩ := h
  have hu64 := hr.units
  have lm : (ps.map fun q => V.ref q.1).length = ps.length := List.length_map _
  refine ⟨_, (pss_cons (ps_set (i := 1) sc_rise.nd rfl (Or.inl rfl) (pe_op op_sub (pe_cB call_len_seq rfl hlen PySem.boot_len (pa_c (pv 0) pa_nil)) pe_int))
  (pss_one (ps_up (ps_while PassesOwn.never (PW.pt (pw_and (pt_cmpR op_gt (pv 1) pe_int (nomark _)) (pw_and1 (pt_cmpR (op_ltT (Nat.lt_of_le_of_lt (Nat.le_add_right _ 64) hu64)) (pe_ix ix_g (pv 0) (pv 1) (fun _ _ => rfl)) (pe_ix ix_g (pv 0) (pe_op op_fdiv (pe_op op_sub (pv 1) pe_int) pe_int) (fun _ _ => rfl)) (nomark _)))))
  (pss_cons (ps_expr (pe_def G_swap hr rfl (pa_c (pv 0) (pa_c (pv 1) (pa_c (pe_op op_fdiv (pe_op op_sub (pv 1) pe_int) pe_int) pa_nil)))))
  (pss_one (ps_set (i := 1) sc_rise.nd rfl (Or.inl rfl) (pe_op op_fdiv (pe_op op_sub (pv 1) pe_int) pe_int)))))))), ?_⟩
  walk_at "rz"
  refine ⟨_, .inl (SqL.of hl.1), ?_⟩
  walk_at "rz"
  refine ⟨RsZ l ps H, ?_, ?_⟩
  · refine ⟨RsI l ps H, ⟨ps.length - 1, ?_⟩, ?_⟩
    · unfold RsI
      exact ⟨ps.length - 1, ps, by rw [show ((ps.length : Int) - 1) = ((ps.length - 1 : Nat) : Int) by omega], Onl.refl, hl, List.Perm.refl _, by omega, ri, rfl⟩
    · intro m σ H1 z
      unfold RsI at z
      obtain ⟨k, ps', rfl, o1, hl1, pm, hk, ri1, rfl⟩ := z
      clear lm
      have l1 := hl1.1
      walk_at "rz"
      refine ite2 (fun c => ?_) fun c => ?_
      · have p0 : ((m : Int) - 1) / 2 = (((m - 1) / 2 : Nat) : Int) := by omega
        have hp : (m - 1) / 2 < ps'.length := by omega
        have a1 := at_getD hk
        have a2 := at_getD hp
        walk_at "rz"
        refine ⟨_, SqT.of (hl1.2 _ (mem_getD hk)), _, SqT.of (hl1.2 _ (mem_getD hp)), ?_⟩
        walk_at "rz"
        refine ite2 (fun z => ?_) fun z => ?_
        · refine ⟨fun σ' H' => ∃ m', m' < m ∧ RsI l ps H m' σ' H', fun _ _ y => y, ?_⟩
          walk_at "rz"
          refine ⟨l, ps', m, (m - 1) / 2, rfl, hl1, hk, hp, fun H2 o2 hl2 => ?_⟩
          walk_at "rz"
          refine ⟨(m - 1) / 2, by omega, ?_⟩
          unfold RsI
          exact ⟨(m - 1) / 2, sw ps' m ((m - 1) / 2), (by show [some (V.ref l), some (V.int (((m : Int) - 1) / 2))] = _; rw [p0]), o1.trans o2, hl2, (sw_perm hk hp).trans pm, by rw [sw_len]; exact hp, ri1.step (by omega) hk z, rfl⟩
        · unfold RsZ
          exact ⟨_, ps', rfl, o1, hl1, pm, ri1.done hk (.inr (by unfold le; exact Bool.eq_false_iff.mpr z))⟩
      · unfold RsZ
        exact ⟨_, ps', rfl, o1, hl1, pm, ri1.done hk (.inl (by omega))⟩
  · intro σ H1 z
    unfold RsZ at z
    obtain ⟨v, ps', rfl, o1, hl1, pm, hp⟩ := z
    walk_at "rz"
    exact q H1 ps' o1 hl1 pm hp
def SkI (l : Addr) (ps : List It) (H : Hp) (m : Nat) (σ : St) (H' : Hp) : Prop := ∃ (k : Nat) (ps' : List It), σ = [some (.ref l), some (.int k), some (.int (lst3 ps' k))] ∧ Onl l H H' ∧ HL H' l ps' ∧ ps'.Perm ps ∧ k < ps'.length ∧ SI ps' k ∧ m = ps'.length - k
def spSink : Sp := fun vs H Q _ => ∃ (l : Addr) (ps : List It), vs = [.ref l] ∧ HL H l ps ∧ 0 < ps.length ∧ SI ps 0 ∧ ∀ H' ps', Onl l H H' → HL H' l ps' → ps'.Perm ps → HP ps' → Q .non H'
theorem ok_sink (D : DefAt K mg "sink" s_sink ["heap"]) (G_swap : OkD P w K mg base 1 "swap" ["heap", "one", "other"] spSw) (G_least_of_three : OkD P w K mg base 1 "least_of_three" ["heap", "at"] sp3) : OkD P w K mg base 2 "sink" ["heap"] spSink := by
  refine D.ok sc_sink (fun vs H Q E h => ?_) (fun f cdv A outer s H vs Q E hr h => ?_)
  · obtain ⟨_, _, rfl, _⟩ := h; rfl
  obtain ⟨l, ps, rfl, hl, h0, si, q⟩ := h
  refine ⟨_, (pss_cons (ps_set (i := 1) sc_sink.nd rfl (Or.inl rfl) pe_int)
  (pss_cons (ps_set (i := 2) sc_sink.nd rfl (Or.inl rfl) (pe_def G_least_of_three hr rfl (pa_c (pv 0) (pa_c (pv 1) pa_nil))))
  (pss_one (ps_while PassesOwn.never (pt_cmpR op_ne (pv 2) (pv 1) (nomark _))
  (pss_cons (ps_expr (pe_def G_swap hr rfl (pa_c (pv 0) (pa_c (pv 1) (pa_c (pv 2) pa_nil)))))
  (pss_cons (ps_set (i := 1) sc_sink.nd rfl (Or.inl rfl) (pv 2))
  (pss_one (ps_set (i := 2) sc_sink.nd rfl (Or.inl rfl) (pe_def G_least_of_three hr rfl (pa_c (pv 0) (pa_c (pv 1) pa_nil))))))))))), ?_⟩
  walk_at "rz"
  refine ⟨l, ps, 0, rfl, hl, h0, fun H1 g1 => ?_⟩
  walk_at "rz"
  refine ⟨SkI l ps H, ⟨ps.length - 0, ?_⟩, ?_⟩
  · unfold SkI
    exact ⟨0, ps, rfl, Onl.same g1, hl.same g1, List.Perm.refl _, h0, si, rfl⟩
  · intro m σ H2 z
    unfold SkI at z
    obtain ⟨k, ps', rfl, o1, hl1, pm, hk, si1, rfl⟩ := z
    walk_at "rz"
    have hm := lst3_spec hk
    refine ite2 (fun c => ?_) fun c => ?_
    · have c : lst3 ps' k ≠ k := fun z => by rw [z] at c; simp at c
      have st := si1.step hk c
      refine ⟨fun σ' H' => ∃ m', m' < ps'.length - k ∧ SkI l ps H m' σ' H', fun _ _ y => y, ?_⟩
      walk_at "rz"
      refine ⟨l, ps', k, lst3 ps' k, rfl, hl1, hk, hm.1, fun H3 o3 hl3 => ?_⟩
      walk_at "rz"
      refine ⟨l, _, lst3 ps' k, rfl, hl3, by rw [sw_len]; exact hm.1, fun H4 g4 => ?_⟩
      walk_at "rz"
      refine ⟨ps'.length - lst3 ps' k, by have := st.2; omega, ?_⟩
      unfold SkI
      exact ⟨lst3 ps' k, sw ps' k (lst3 ps' k), rfl, (o1.trans o3).trans (Onl.same g4), hl3.same g4, (sw_perm hk hm.1).trans pm, by rw [sw_len]; exact hm.1, st.1, by rw [sw_len]⟩
    · have c : lst3 ps' k = k := by
        have : ((lst3 ps' k : Int)) = k := by simpa using c
        omega
      exact q H2 ps' o1 hl1 pm (si1.done hk c)
end
end K17

set_option Elab.async false
set_option linter.all false
set_option maxRecDepth 100000
set_option maxHeartbeats 4000000
namespace K17
open PySem L2
/-! ### what is kept: (moment, turn, thing), by turns; and in order -/
structure Kt where
  m : Int
  t : Int
  x : Int
def key3 (e : Kt) : List Int := [e.m, e.t, e.x]
def key2 (e : Kt) : List Int := [e.m, e.x]
def bef (a b : Kt) : Prop := a.m < b.m ∨ (a.m = b.m ∧ a.t < b.t)
def Inc (kt : List Kt) : Prop := kt.Pairwise fun a b => a.t < b.t
def Srt (kt ok : List Kt) : Prop := ok.Perm kt ∧ ok.Pairwise bef
def IsMi (kt : List Kt) (i : Nat) (e : Kt) : Prop := kt[i]? = some e ∧ (∀ (j : Nat) e', kt[j]? = some e' → e.m ≤ e'.m) ∧ (∀ (j : Nat) e', j < i → kt[j]? = some e' → e.m < e'.m)
theorem bef_asymm {a b : Kt} (h : bef a b) : ¬ bef b a := fun h' => by
  rcases h with h | ⟨h, h2⟩ <;> rcases h' with g | ⟨g, g2⟩ <;> omega
theorem bef_lt {a b : Kt} (h : bef a b) : HT.lexLt (key3 a) (key3 b) = true := by
  unfold key3
  rcases h with h | ⟨h, h2⟩
  · rw [HT.lexLt_cons, if_neg (by omega)]; exact decide_eq_true h
  · rw [HT.lexLt_cons, if_pos h, HT.lexLt_cons, if_neg (by omega)]; exact decide_eq_true h2
theorem key3_inj {a b : Kt} (h : key3 a = key3 b) : a = b := by
  cases a; cases b
  unfold key3 at h
  simp at h
  obtain ⟨rfl, rfl, rfl⟩ := h
  rfl
theorem Inc.at {kt : List Kt} (h : Inc kt) {i j : Nat} {a b : Kt} (hi : kt[i]? = some a) (hj : kt[j]? = some b) (hij : i < j) : a.t < b.t := by
  obtain ⟨i1, e1⟩ := List.getElem?_eq_some_iff.mp hi
  obtain ⟨j1, e2⟩ := List.getElem?_eq_some_iff.mp hj
  have := List.pairwise_iff_getElem.mp h i j i1 j1 hij
  rw [e1, e2] at this
  exact this
theorem IsMi.min {kt : List Kt} {i : Nat} {e : Kt} (h : IsMi kt i e) (ic : Inc kt) {e' : Kt} (he : e' ∈ kt) : e = e' ∨ bef e e' := by
  obtain ⟨j, hj⟩ := List.mem_iff_getElem?.mp he
  rcases Nat.lt_trichotomy j i with c | c | c
  · exact .inr (.inl (h.2.2 j e' c hj))
  · subst c
    rw [h.1] at hj
    exact .inl (Option.some.inj hj)
  · have a := h.2.1 j e' hj
    have b := ic.at h.1 hj c
    right
    unfold bef
    omega
theorem er_perm : ∀ {l : List Kt} {i : Nat} (h : i < l.length), (l[i] :: l.eraseIdx i).Perm l
  | a :: l, 0, _ => List.Perm.refl _
  | a :: l, i + 1, h => by
    have := er_perm (l := l) (i := i) (by simpa using h)
    simp only [List.getElem_cons_succ, List.eraseIdx_cons_succ]
    exact (List.Perm.swap _ _ _).trans (this.cons a)
theorem IsMi.perm {kt : List Kt} {i : Nat} {e : Kt} (h : IsMi kt i e) : (e :: kt.eraseIdx i).Perm kt := by
  obtain ⟨i1, e1⟩ := List.getElem?_eq_some_iff.mp h.1
  rw [← e1]
  exact er_perm i1
theorem Srt.take {kt ok : List Kt} {i : Nat} {e : Kt} (s : Srt kt ok) (ic : Inc kt) (h : IsMi kt i e) : ∃ r, ok = e :: r ∧ Srt (kt.eraseIdx i) r := by
  have hm : e ∈ kt := List.mem_of_getElem? h.1
  cases ok with
  | nil => have := s.1.mem_iff.mpr hm; cases this
  | cons o r =>
    have ho : o ∈ kt := s.1.mem_iff.mp List.mem_cons_self
    have pw := List.pairwise_cons.mp s.2
    have eo : e = o := by
      rcases h.min ic ho with z | z
      · exact z
      · rcases List.mem_cons.mp (s.1.mem_iff.mpr hm) with y | y
        · exact y
        · exact absurd (pw.1 e y) (bef_asymm z)
    subst eo
    exact ⟨r, rfl, (s.1.trans h.perm.symm).cons_inv, pw.2⟩
theorem Inc.erase {kt : List Kt} (h : Inc kt) (i : Nat) : Inc (kt.eraseIdx i) := List.Pairwise.sublist (List.eraseIdx_sublist ..) h
theorem lt_uniq : ∀ {l m : List (List Int)}, l.Perm m → l.Pairwise (fun a b => HT.lexLt a b = true) → m.Pairwise (fun a b => HT.lexLt a b = true) → l = m
  | [], m, p, _, _ => (List.nil_perm.mp p).symm
  | a :: l, [], p, _, _ => by have := p.length_eq; simp at this
  | a :: l, b :: m, p, h, h' => by
    have h := List.pairwise_cons.mp h
    have h' := List.pairwise_cons.mp h'
    have e : a = b := by
      rcases List.mem_cons.mp (p.mem_iff.mp List.mem_cons_self) with z | z
      · exact z
      · rcases List.mem_cons.mp (p.mem_iff.mpr (List.mem_cons_self (a := b) (l := m))) with y | y
        · exact y.symm
        · have g1 := h'.1 a z
          have g2 := h.1 b y
          have := lt_asymm g1
          rw [g2] at this; cases this
    subst e
    rw [lt_uniq p.cons_inv h.2 h'.2]
theorem Srt.keys {kt ok : List Kt} (s : Srt kt ok) : (ok.map key3).Pairwise fun a b => HT.lexLt a b = true := by
  rw [List.pairwise_map]
  exact s.2.imp fun h => bef_lt h
theorem map_inj : ∀ {l m : List Kt}, l.map key3 = m.map key3 → l = m
  | [], [], _ => rfl
  | [], _ :: _, h => by cases h
  | _ :: _, [], h => by cases h
  | a :: l, b :: m, h => by
    rw [List.map_cons, List.map_cons] at h
    injection h with h1 h2
    rw [key3_inj h1, map_inj h2]
theorem Srt.uniq {kt ok ok' : List Kt} (s : Srt kt ok) (s' : Srt kt ok') : ok = ok' :=
  map_inj (lt_uniq ((s.1.trans s'.1.symm).map key3) s.keys s'.keys)
/-- one more, later than all: behind those that are not later than it -/
theorem Srt.put {kt ok : List Kt} {e : Kt} {k : Nat} (s : Srt kt ok) (ht : ∀ a ∈ kt, a.t < e.t) (hk : k ≤ ok.length) (h1 : ∀ (j : Nat) a, j < k → ok[j]? = some a → a.m ≤ e.m) (h2 : ∀ (j : Nat) a, k ≤ j → ok[j]? = some a → e.m < a.m) : Srt (kt ++ [e]) (ok.take k ++ [e] ++ ok.drop k) := by
  refine ⟨?_, ?_⟩
  · have : (ok.take k ++ [e] ++ ok.drop k).Perm (ok.take k ++ ok.drop k ++ [e]) := by
      rw [List.append_assoc, List.append_assoc]
      exact List.Perm.append_left _ List.perm_append_comm
    rw [List.take_append_drop] at this
    exact this.trans (s.1.append_right _)
  · have b1 : ∀ a ∈ ok.take k, bef a e := fun a ha => by
      obtain ⟨j, hj⟩ := List.mem_iff_getElem?.mp ha
      have jl : j < k := by
        have := (List.getElem?_eq_some_iff.mp hj).1
        rw [List.length_take] at this; omega
      rw [List.getElem?_take_of_lt jl] at hj
      have a1 := h1 j a jl hj
      have a2 := ht a (s.1.mem_iff.mp (List.mem_of_getElem? hj))
      unfold bef; omega
    have b2 : ∀ a ∈ ok.drop k, bef e a := fun a ha => by
      obtain ⟨j, hj⟩ := List.mem_iff_getElem?.mp ha
      rw [List.getElem?_drop] at hj
      exact .inl (h2 _ a (by omega) hj)
    have b0 := s.2
    rw [← List.take_append_drop k ok, List.pairwise_append] at b0
    rw [List.append_assoc, List.pairwise_append]
    refine ⟨b0.1, List.pairwise_cons.mpr ⟨fun a ha => b2 a ha, b0.2.1⟩, fun a ha b hb => ?_⟩
    rcases List.mem_cons.mp hb with z | z
    · rw [z]; exact b1 a ha
    · exact b0.2.2 a ha b z
theorem Inc.snoc {kt : List Kt} {e : Kt} (h : Inc kt) (ht : ∀ a ∈ kt, a.t < e.t) : Inc (kt ++ [e]) := by
  unfold Inc
  rw [List.pairwise_append]
  exact ⟨h, List.pairwise_singleton _ _, fun a ha b hb => by rw [List.mem_singleton.mp hb]; exact ht a ha⟩
/-- rising keys: each before the next -/
theorem Srt.mono {kt ok : List Kt} (s : Srt kt ok) {i j : Nat} {a b : Kt} (hi : ok[i]? = some a) (hj : ok[j]? = some b) (hij : i ≤ j) : a.m ≤ b.m := by
  by_cases c : i = j
  · subst c; rw [hi] at hj; cases hj; exact Int.le_refl _
  · obtain ⟨i1, e1⟩ := List.getElem?_eq_some_iff.mp hi
    obtain ⟨j1, e2⟩ := List.getElem?_eq_some_iff.mp hj
    have := List.pairwise_iff_getElem.mp s.2 i j i1 j1 (by omega)
    rw [e1, e2] at this
    unfold bef at this; omega
/-- the one at the root of a heap -/
theorem root {kt : List Kt} {ps : List It} {i : Nat} {e : Kt} (hp : HP ps) (pm : (ps.map (·.2)).Perm (kt.map key3)) (ic : Inc kt) (h : IsMi kt i e) : ∃ q r, ps = q :: r ∧ q.2 = key3 e ∧ (r.map (·.2)).Perm ((kt.eraseIdx i).map key3) := by
  have hm : e ∈ kt := List.mem_of_getElem? h.1
  cases ps with
  | nil => have := pm.length_eq; rw [List.length_map, List.length_map] at this; have := List.length_pos_of_mem hm; simp at *; omega
  | cons q r =>
    obtain ⟨e0, h0, k0⟩ := List.mem_map.mp (pm.mem_iff.mp (show q.2 ∈ (q :: r).map (·.2) from List.mem_map_of_mem (f := fun x : It => x.2) List.mem_cons_self))
    have e1 : e = e0 := by
      rcases h.min ic h0 with z | z
      · exact z
      · obtain ⟨q1, hq1, kq1⟩ := List.mem_map.mp (pm.mem_iff.mpr (List.mem_map_of_mem (f := key3) hm))
        obtain ⟨j, hj⟩ := List.mem_iff_getElem?.mp hq1
        have := hp.min j (List.getElem?_eq_some_iff.mp hj).1
        have kj : kf (q :: r) j = key3 e := by unfold kf; rw [List.getD_eq_getElem?_getD, hj]; exact kq1
        have k00 : kf (q :: r) 0 = key3 e0 := by rw [k0]; rfl
        rw [kj, k00] at this
        unfold le at this
        rw [bef_lt z] at this; cases this
    subst e1
    refine ⟨q, r, rfl, k0.symm, ?_⟩
    have := pm.trans (h.perm.map key3).symm
    rw [List.map_cons, List.map_cons, ← k0] at this
    exact this.cons_inv
end K17

set_option Elab.async false
set_option linter.all false
set_option maxRecDepth 100000
set_option maxHeartbeats 4000000
namespace K17
open PySem L2
def LA (CL : Addr) (H : Hp) (a l : Addr) (kt : List Kt) : Prop := ∃ dx ps ok, H a = some (.ins CL dx [("things", .ref l)]) ∧ HL H l ps ∧ Srt kt ok ∧ ps.map (·.2) = ok.map key2
def FrA (a l : Addr) (H H' : Hp) : Prop := ∀ c u, c ≠ a → c ≠ l → H c = some u → H' c = some u
theorem srt_nil : Srt [] [] := ⟨List.Perm.refl _, .nil⟩
theorem LA.fr {CL : Addr} {H H' : Hp} {a l : Addr} {kt : List Kt} (h : LA CL H a l kt) (g : ∀ c u, (c = a ∨ c = l ∨ ∃ xs, u = HO.tup xs) → H c = some u → H' c = some u) : LA CL H' a l kt := by
  obtain ⟨dx, ps, ok, h1, ⟨h2, h3⟩, h4⟩ := h
  exact ⟨dx, ps, ok, g _ _ (.inl rfl) h1, ⟨g _ _ (.inr (.inl rfl)) h2, fun q hq => g _ _ (.inr (.inr ⟨_, rfl⟩)) (h3 q hq)⟩, h4⟩
theorem LA.same {CL : Addr} {H H' : Hp} {a l : Addr} {kt : List Kt} (h : LA CL H a l kt) (g : Same H H') : LA CL H' a l kt := h.fr fun c u _ hc => g c u hc
theorem ps_at {α : Type} {f : α → List Int} {H : Hp} {l : Addr} {ps : List It} {ok : List α} (hl : HL H l ps) (ek : ps.map (·.2) = ok.map f) {i : Nat} {e : α} (he : ok[i]? = some e) : ∃ p, atI (ps.map fun q => V.ref q.1) (i : Int) = some (.ref p) ∧ H p = some (.tup ((f e).map V.int)) ∧ ps[i]? = some (p, f e) := by
  have h := congrArg (fun l => l[i]?) ek
  simp only [List.getElem?_map, he, Option.map_some] at h
  cases z : ps[i]? with
  | none => rw [z] at h; cases h
  | some q =>
    rw [z] at h
    have h : q.2 = f e := Option.some.inj h
    obtain ⟨p, k⟩ := q
    cases h
    refine ⟨p, atI_nat (by rw [List.getElem?_map, z]; rfl), hl.2 _ (List.mem_of_getElem? z), rfl⟩
section
variable {P : Program} {w : World} {K : PySem.W.Frag} {mg : Str → Option Value} {base : Heap}
def spLI (CL : Addr) : Sp := fun vs H Q _ => ∃ (a dx : Addr), vs = [.ref a] ∧ H a = some (.ins CL dx []) ∧ ∀ (l : Addr) (H' : Hp), H l = none → (∀ c u, c ≠ a → H c = some u → H' c = some u) → LA CL H' a l [] → Q .non H'
theorem ok_LI {CL : Addr} (D : MakeAt K mg "ListAgenda" CL "ListAgenda.__init__" s_ListAgenda___init__ ["self"]) (CL_ListAgenda : Cls K CL) (N_ListAgenda_things : NoAttr K CL "things") : OkC P w K mg base 1 "ListAgenda" CL ["self"] (spLI CL) := by
  refine D.ok sc_ListAgenda___init__ (fun vs H Q E h => ?_) (fun f cdv A outer s H vs Q E hr h => ?_)
  · obtain ⟨_, _, rfl, _⟩ := h; rfl
  obtain ⟨a, dx, rfl, ha, q⟩ := h
  refine ⟨_, (pss_one (ps_fldG CL_ListAgenda N_ListAgenda_things (pv 0) (pe_lstG pa_nil))), ?_⟩
  walk_at "rz"
  intro l H1 hl g1 h1
  have a1 := g1 _ _ ha
  walk_at "rz"
  intro H2 m2
  have nl : l ≠ a := (ne_of_none ha hl).symm
  walk_at "rz"
  exact q l H2 hl (fun c u nc hc => m2.old (g1 _ _ hc) nc) ⟨dx, [], [], m2.at_, ⟨m2.old h1 nl, fun q hq => absurd hq List.not_mem_nil⟩, srt_nil, rfl⟩
def LpI (a l : Addr) (m x : Int) (ok : List Kt) (H : Hp) (n : Nat) (σ : St) (H' : Hp) : Prop := ∃ k : Nat, σ = [some (.ref a), some (.int m), some (.int x), some (.int k)] ∧ H' = H ∧ k ≤ ok.length ∧ (∀ (j : Nat) e, k ≤ j → ok[j]? = some e → m < e.m) ∧ n = k
def LpZ (a l : Addr) (m x : Int) (ok : List Kt) (H : Hp) (σ : St) (H' : Hp) : Prop := ∃ k : Nat, σ = [some (.ref a), some (.int m), some (.int x), some (.int k)] ∧ H' = H ∧ k ≤ ok.length ∧ (∀ (j : Nat) e, k ≤ j → ok[j]? = some e → m < e.m) ∧ (∀ (j : Nat) e, j < k → ok[j]? = some e → e.m ≤ m)
def spLPut (CL : Addr) : Sp := fun vs H Q _ => ∃ (a l : Addr) (m x t : Int) (kt : List Kt), vs = [.ref a, .int m, .int x] ∧ LA CL H a l kt ∧ (∀ e ∈ kt, e.t < t) ∧ kt.length ≤ 900 ∧ ∀ H', FrA a l H H' → LA CL H' a l (kt ++ [⟨m, t, x⟩]) → Q .non H'
theorem ok_LPut {CL : Addr} (D : MethAt K CL "put" "ListAgenda.put" s_ListAgenda_put ["self", "moment", "thing"]) (CL_ListAgenda : Cls K CL) (N_ListAgenda_things : NoAttr K CL "things") (hlen : mg "len" = none) : OkM P w K mg base 1 CL "put" ["self", "moment", "thing"] (spLPut CL) := by
  refine D.ok CL_ListAgenda sc_ListAgenda_put (fun vs H Q E h => ?_) (fun f cdv A outer s H vs Q E hr h => ?_)
  · obtain ⟨_, _, _, _, _, _, rfl, _⟩ := h; rfl
  obtain ⟨a, l, m, x, t, kt, rfl, ⟨dx, ps, ok, h1, hl, so, ek⟩, ht, hn, q⟩ := h
  have big : 100000 ≤ sizeLine := by unfold sizeLine; decide
  have lp : ps.length = ok.length := by have := congrArg List.length ek; rw [List.length_map, List.length_map] at this; exact this
  have lm : (ps.map fun q => V.ref q.1).length = ok.length := by rw [List.length_map]; exact lp
  have l1 := hl.1
  refine ⟨_, (pss_cons (ps_set (i := 3) sc_ListAgenda_put.nd rfl (Or.inl rfl) (pe_cB call_len_seq rfl hlen PySem.boot_len (pa_c (pe_fldG CL_ListAgenda N_ListAgenda_things (pv 0)) pa_nil)))
  (pss_cons (ps_up (ps_while PassesOwn.never (PW.pt (pw_and (pt_cmpR op_gt (pv 3) pe_int (nomark _)) (pw_and1 (pt_cmpR op_gt (pe_ix ix_g (pe_ix ix_g (pe_fldG CL_ListAgenda N_ListAgenda_things (pv 0)) (pe_op op_sub (pv 3) pe_int) (fun _ _ => rfl)) pe_int (fun _ _ => rfl)) (pv 1) (nomark _)))))
  (pss_one (ps_set (i := 3) sc_ListAgenda_put.nd rfl (Or.inl rfl) (pe_op op_sub (pv 3) pe_int)))))
  (pss_one (ps_expr (pe_bm PySem.F.plainAttrs_list PySem.F.slot_list_insert PySem.F.type_list_insert mt_insG (pe_fldG CL_ListAgenda N_ListAgenda_things (pv 0)) (pa_c (pv 3) (pa_c (pe_tupG (pa_c (pv 1) (pa_c (pv 2) pa_nil))) pa_nil))))))), ?_⟩
  walk_at "rz"
  refine ⟨_, .inl (SqL.of l1), ?_⟩
  walk_at "rz"
  refine ⟨LpZ a l m x ok H, ?_, ?_⟩
  · refine ⟨LpI a l m x ok H, ⟨ok.length, ?_⟩, ?_⟩
    · unfold LpI
      exact ⟨ok.length, rfl, rfl, Nat.le_refl _, fun j e hj he => absurd (List.getElem?_eq_some_iff.mp he).1 (by omega), rfl⟩
    · intro n σ H1 z
      unfold LpI at z
      obtain ⟨k, rfl, rfl, hk, af, rfl⟩ := z
      walk_at "rz"
      refine ite2 (fun c => ?_) fun c => ?_
      · have p0 : ((n : Int) - 1) = ((n - 1 : Nat) : Int) := by omega
        obtain ⟨e, he⟩ : ∃ e, ok[n - 1]? = some e := ⟨_, List.getElem?_eq_getElem (by omega)⟩
        obtain ⟨p, a1, a2', _⟩ := ps_at hl ek he
        have a2 : H1 p = some (.tup [.int e.m, .int e.x]) := a2'
        clear ek a2'
        walk_at "rz"
        refine ite2 (fun z => ?_) fun z => ?_
        · refine ⟨fun σ' H' => ∃ m', m' < n ∧ LpI a l m x ok H1 m' σ' H', fun _ _ y => y, ?_⟩
          walk_at "rz"
          refine ⟨n - 1, by omega, ?_⟩
          unfold LpI
          refine ⟨n - 1, (by show [some (V.ref a), some (V.int m), some (V.int x), some (V.int ((n : Int) - 1))] = _; rw [p0]), rfl, by omega, fun j e' hj he' => ?_, rfl⟩
          by_cases cj : j = n - 1
          · subst cj; rw [he] at he'; cases he'; exact z
          · exact af j e' (by omega) he'
        · unfold LpZ
          refine ⟨n, rfl, rfl, hk, af, fun j e' hj he' => ?_⟩
          have := so.mono he' he (by omega)
          omega
      · unfold LpZ
        exact ⟨n, rfl, rfl, hk, af, fun j e' hj he' => absurd hj (by omega)⟩
  · intro σ H1 z
    unfold LpZ at z
    obtain ⟨k, rfl, rfl, hk, af, be⟩ := z
    walk_at "rz"
    refine ⟨⟨_, SqL.of l1⟩, ?_⟩
    walk_at "rz"
    intro p H2 hp g2 h2
    have l2 := g2 _ _ l1
    walk_at "rz"
    have lo : ok.length = kt.length := so.1.length_eq
    refine ⟨by omega, by rw [lm]; omega, by rw [lm]; omega, fun H3 m3 => ?_⟩
    walk_at "rz"
    have nal : a ≠ l := fun z => by rw [z, l1] at h1; cases h1
    have npl : p ≠ l := (ne_of_none l1 hp).symm
    have tk : ∀ c xs, H1 c = some (.tup xs) → H3 c = some (.tup xs) := fun c xs hc => m3.old (g2 _ _ hc) (fun z => by rw [z, l1] at hc; cases hc)
    refine q H3 (fun c u n1 n2 hc => m3.old (g2 _ _ hc) n2) ⟨dx, ps.take k ++ [(p, [m, x])] ++ ps.drop k, ok.take k ++ [⟨m, t, x⟩] ++ ok.drop k, m3.old (g2 _ _ h1) nal, ⟨?_, fun r hr => ?_⟩, so.put ht hk be af, ?_⟩
    · rw [m3.at_]
      unfold insL
      simp [List.map_take, List.map_drop]
    · rcases List.mem_append.mp hr with hr | hr
      · rcases List.mem_append.mp hr with hr | hr
        · exact tk _ _ (hl.2 r (List.mem_of_mem_take hr))
        · rw [List.mem_singleton.mp hr]
          exact m3.old h2 npl
      · exact tk _ _ (hl.2 r (List.mem_of_mem_drop hr))
    · rw [List.map_append, List.map_append, List.map_append, List.map_append, List.map_take, List.map_drop, ek, ← List.map_take, ← List.map_drop]
      rfl
end
end K17

set_option Elab.async false
set_option linter.all false
set_option maxRecDepth 100000
set_option maxHeartbeats 4000000
namespace K17
open PySem L2
theorem take_snoc {α : Type} {xs : List α} {i : Nat} {x : α} (h : xs[i]? = some x) : xs.take (i + 1) = xs.take i ++ [x] := by
  obtain ⟨h1, h2⟩ := List.getElem?_eq_some_iff.mp h
  rw [← List.take_append_getElem h1, h2]
/-- as many as there are, with turns behind tn -/
def mkT (tn : Int) : List (Int × Int) → List Kt
  | [] => []
  | (m, x) :: r => ⟨m, tn + 1, x⟩ :: mkT (tn + 1) r
section
variable {P : Program} {w : World} {K : PySem.W.Frag} {mg : Str → Option Value} {base : Heap}
def fst1 (ok : List Kt) : V := match ok with | [] => .non | e :: _ => .int e.m
def spLFst (CL : Addr) : Sp := fun vs H Q _ => ∃ (a l : Addr) (kt : List Kt), vs = [.ref a] ∧ LA CL H a l kt ∧ ∀ ok, Srt kt ok → Q (fst1 ok) H
theorem ok_LFst {CL : Addr} (D : MethAt K CL "first" "ListAgenda.first" s_ListAgenda_first ["self"]) (CL_ListAgenda : Cls K CL) (N_ListAgenda_things : NoAttr K CL "things") : OkM P w K mg base 1 CL "first" ["self"] (spLFst CL) := by
  refine D.ok CL_ListAgenda sc_ListAgenda_first (fun vs H Q E h => ?_) (fun f cdv A outer s H vs Q E hr h => ?_)
  · obtain ⟨_, _, _, rfl, _⟩ := h; rfl
  obtain ⟨a, l, kt, rfl, ⟨dx, ps, ok, h1, hl, so, ek⟩, q⟩ := h
  have q := q ok so
  have l1 := hl.1
  refine ⟨_, (pss_cons (ps_if (pt_not (pt_truth (pe_fldG CL_ListAgenda N_ListAgenda_things (pv 0)) (fun _ => rfl)))
  (pss_one (ps_ret pe_non))
  pss_nil)
  (pss_one (ps_ret (pe_ix ix_g (pe_ix ix_g (pe_fldG CL_ListAgenda N_ListAgenda_things (pv 0)) pe_int (fun _ _ => rfl)) pe_int (fun _ _ => rfl))))), ?_⟩
  walk_at "rz"
  refine ⟨_, .inl ⟨_, SqL.of l1, rfl⟩, ?_⟩
  cases ok with
  | nil =>
    cases ps with
    | cons _ _ => cases ek
    | nil =>
      walk_at "rz"
      exact q
  | cons e r =>
    obtain ⟨p, a1, a2', _⟩ := ps_at hl ek (i := 0) (e := e) rfl
    have a2 : H p = some (.tup [.int e.m, .int e.x]) := a2'
    have a1 : atI (ps.map fun q => V.ref q.1) 0 = some (.ref p) := a1
    have ne : (!(!(ps.map fun q => V.ref q.1).isEmpty)) = false := by
      cases ps with
      | nil => cases ek
      | cons _ _ => rfl
    clear ek a2'
    walk_at "rz"
    exact q
def spLTake (CL : Addr) : Sp := fun vs H Q _ => ∃ (a l : Addr) (kt : List Kt) (i : Nat) (e : Kt), vs = [.ref a] ∧ LA CL H a l kt ∧ Inc kt ∧ IsMi kt i e ∧ kt.length ≤ 900 ∧ ∀ H' p, FrA a l H H' → LA CL H' a l (kt.eraseIdx i) → H' p = some (.tup [.int e.m, .int e.x]) → Q (.ref p) H'
theorem ok_LTake {CL : Addr} (D : MethAt K CL "take" "ListAgenda.take" s_ListAgenda_take ["self"]) (CL_ListAgenda : Cls K CL) (N_ListAgenda_things : NoAttr K CL "things") : OkM P w K mg base 1 CL "take" ["self"] (spLTake CL) := by
  refine D.ok CL_ListAgenda sc_ListAgenda_take (fun vs H Q E h => ?_) (fun f cdv A outer s H vs Q E hr h => ?_)
  · obtain ⟨_, _, _, _, _, rfl, _⟩ := h; rfl
  obtain ⟨a, l, kt, i, e, rfl, ⟨dx, ps, ok, h1, hl, so, ek⟩, ic, im, hn, q⟩ := h
  have lo : ok.length = kt.length := so.1.length_eq
  have lp : ps.length = ok.length := by have := congrArg List.length ek; rw [List.length_map, List.length_map] at this; exact this
  obtain ⟨r, rfl, sr⟩ := so.take ic im
  have l1 := hl.1
  refine ⟨_, (pss_one (ps_ret (pe_bm PySem.F.plainAttrs_list PySem.F.slot_list_pop PySem.F.type_list_pop mt_popAtG (pe_fldG CL_ListAgenda N_ListAgenda_things (pv 0)) (pa_c pe_int pa_nil)))), ?_⟩
  cases ps with
  | nil => cases ek
  | cons q0 qs =>
    have ek : q0.2 :: qs.map (·.2) = key2 e :: r.map key2 := ek
    injection ek with e1 e2
    simp only [List.length_cons] at lp lo
    walk_at "rz"
    refine ⟨⟨_, SqL.of l1⟩, ?_⟩
    walk_at "rz"
    have nal : a ≠ l := fun z => by rw [z, l1] at h1; cases h1
    have tk : ∀ {H1 : Hp} {xs : List V} {o : HO}, Mu H l o H1 → ∀ c, H c = some (.tup xs) → H1 c = some (.tup xs) := fun m1 c hc => m1.old hc (fun z => by rw [z, l1] at hc; cases hc)
    refine ⟨by omega, _, by rw [List.length_cons, List.length_map]; omega, rfl, fun H1 m1 => ?_⟩
    exact q H1 q0.1 (fun c u n1 n2 hc => m1.old hc n2) ⟨dx, qs, r, m1.old h1 nal, ⟨m1.at_, fun p hp => tk m1 _ (hl.2 p (List.mem_cons_of_mem _ hp))⟩, sr, e2⟩ (tk m1 _ (by have := hl.2 q0 List.mem_cons_self; rw [e1] at this; exact this))
def spLOrd (CL : Addr) : Sp := fun vs H Q _ => ∃ (a l : Addr) (kt : List Kt), vs = [.ref a] ∧ LA CL H a l kt ∧ ∀ r H' ps' ok, Srt kt ok → H r = none → Same H H' → HL H' r ps' → ps'.map (·.2) = ok.map key2 → Q (.ref r) H'
theorem ok_LOrd {CL : Addr} (D : MethAt K CL "in_order" "ListAgenda.in_order" s_ListAgenda_in_order ["self"]) (CL_ListAgenda : Cls K CL) (N_ListAgenda_things : NoAttr K CL "things") (hlist : mg "list" = none) : OkM P w K mg base 1 CL "in_order" ["self"] (spLOrd CL) := by
  refine D.ok CL_ListAgenda sc_ListAgenda_in_order (fun vs H Q E h => ?_) (fun f cdv A outer s H vs Q E hr h => ?_)
  · obtain ⟨_, _, _, rfl, _⟩ := h; rfl
  obtain ⟨a, l, kt, rfl, ⟨dx, ps, ok, h1, hl, so, ek⟩, q⟩ := h
  have l1 := hl.1
  refine ⟨_, (pss_one (ps_ret (pe_cTy call_listG rfl hlist (by decide +kernel) (pa_c (pe_fldG CL_ListAgenda N_ListAgenda_things (pv 0)) pa_nil)))), ?_⟩
  walk_at "rz"
  intro r H1 hr1 g1 h2
  exact q r H1 ps ok so hr1 g1 ⟨h2, fun p hp => g1 _ _ (hl.2 p hp)⟩ ek
theorem mkT_snoc : ∀ (l : List (Int × Int)) (tn m x : Int), mkT tn (l ++ [(m, x)]) = mkT tn l ++ [⟨m, tn + l.length + 1, x⟩]
  | [], tn, m, x => by simp [mkT]
  | (m', x') :: l, tn, m, x => by
    rw [List.cons_append, mkT, mkT, mkT_snoc l, List.cons_append, List.length_cons]
    congr 4
    omega
theorem mkT_t : ∀ (l : List (Int × Int)) (tn : Int), ∀ e ∈ mkT tn l, tn < e.t ∧ e.t ≤ tn + l.length
  | [], tn, e, h => by cases h
  | (m, x) :: l, tn, e, h => by
    rw [mkT] at h
    rw [List.length_cons]
    rcases List.mem_cons.mp h with z | z
    · subst z; dsimp only; omega
    · have := mkT_t l (tn + 1) e z; omega
theorem mkT_len : ∀ (l : List (Int × Int)) (tn : Int), (mkT tn l).length = l.length
  | [], _ => rfl
  | (m, x) :: l, tn => by rw [mkT, List.length_cons, List.length_cons, mkT_len l]
theorem mkT_inc : ∀ (l : List (Int × Int)) (tn : Int), Inc (mkT tn l)
  | [], _ => .nil
  | (m, x) :: l, tn => by
    rw [mkT]
    exact List.pairwise_cons.mpr ⟨fun e he => (mkT_t l (tn + 1) e he).1, mkT_inc l (tn + 1)⟩
theorem mkT_map : ∀ (l : List (Int × Int)) (tn : Int), (mkT tn l).map key2 = l.map fun p => [p.1, p.2]
  | [], _ => rfl
  | (m, x) :: l, tn => by rw [mkT, List.map_cons, List.map_cons, mkT_map l]; rfl
end
end K17

set_option Elab.async false
set_option linter.all false
set_option maxRecDepth 100000
set_option maxHeartbeats 4000000
namespace K17
open PySem L2
def HA (CH : Addr) (H : Hp) (b l : Addr) (tn : Int) (kt : List Kt) : Prop := ∃ dx ps, H b = some (.ins CH dx [("heap", .ref l), ("turn", .int tn)]) ∧ HL H l ps ∧ (ps.map (·.2)).Perm (kt.map key3) ∧ HP ps ∧ ∀ e ∈ kt, e.t ≤ tn
theorem HA.fr {CH : Addr} {H H' : Hp} {b l : Addr} {tn : Int} {kt : List Kt} (h : HA CH H b l tn kt) (g : ∀ c u, (c = b ∨ c = l ∨ ∃ xs, u = HO.tup xs) → H c = some u → H' c = some u) : HA CH H' b l tn kt := by
  obtain ⟨dx, ps, h1, ⟨h2, h3⟩, h4⟩ := h
  exact ⟨dx, ps, g _ _ (.inl rfl) h1, ⟨g _ _ (.inr (.inl rfl)) h2, fun q hq => g _ _ (.inr (.inr ⟨_, rfl⟩)) (h3 q hq)⟩, h4⟩
theorem HA.same {CH : Addr} {H H' : Hp} {b l : Addr} {tn : Int} {kt : List Kt} (h : HA CH H b l tn kt) (g : Same H H') : HA CH H' b l tn kt := h.fr fun c u _ hc => g c u hc
theorem HP.nil : HP [] := fun i _ h => absurd h (by simp)
theorem root2 {kt ok : List Kt} {ps : List It} {e : Kt} {r : List Kt} (hp : HP ps) (pm : (ps.map (·.2)).Perm (kt.map key3)) (so : Srt kt ok) (h : ok = e :: r) : ∃ q r, ps = q :: r ∧ q.2 = key3 e := by
  subst h
  have hm : e ∈ kt := so.1.mem_iff.mp List.mem_cons_self
  cases ps with
  | nil => have := pm.length_eq; rw [List.length_map, List.length_map] at this; have := List.length_pos_of_mem hm; simp at *; omega
  | cons q r' =>
    obtain ⟨e0, h0, k0⟩ := List.mem_map.mp (pm.mem_iff.mp (show q.2 ∈ (q :: r').map (·.2) from List.mem_map_of_mem (f := fun x : It => x.2) List.mem_cons_self))
    refine ⟨q, r', rfl, ?_⟩
    rcases List.mem_cons.mp (so.1.mem_iff.mpr h0) with z | z
    · rw [← z]; exact k0.symm
    · have bf := (List.pairwise_cons.mp so.2).1 e0 z
      obtain ⟨q1, hq1, kq1⟩ := List.mem_map.mp (pm.mem_iff.mpr (List.mem_map_of_mem (f := key3) hm))
      obtain ⟨j, hj⟩ := List.mem_iff_getElem?.mp hq1
      have := hp.min j (List.getElem?_eq_some_iff.mp hj).1
      have kj : kf (q :: r') j = key3 e := by unfold kf; rw [List.getD_eq_getElem?_getD, hj]; exact kq1
      have k00 : kf (q :: r') 0 = key3 e0 := by rw [k0]; rfl
      rw [kj, k00] at this
      unfold le at this
      rw [bef_lt bf] at this; cases this
section
variable {P : Program} {w : World} {K : PySem.W.Frag} {mg : Str → Option Value} {base : Heap}
def spHI (CH : Addr) : Sp := fun vs H Q _ => ∃ (b dx : Addr), vs = [.ref b] ∧ H b = some (.ins CH dx []) ∧ ∀ (l : Addr) (H' : Hp), H l = none → (∀ c u, c ≠ b → H c = some u → H' c = some u) → HA CH H' b l 0 [] → Q .non H'
theorem ok_HI {CH : Addr} (D : MakeAt K mg "HeapAgenda" CH "HeapAgenda.__init__" s_HeapAgenda___init__ ["self"]) (CL_HeapAgenda : Cls K CH) (N_HeapAgenda_heap : NoAttr K CH "heap") (N_HeapAgenda_turn : NoAttr K CH "turn") : OkC P w K mg base 1 "HeapAgenda" CH ["self"] (spHI CH) := by
  refine D.ok sc_HeapAgenda___init__ (fun vs H Q E h => ?_) (fun f cdv A outer s H vs Q E hr h => ?_)
  · obtain ⟨_, _, rfl, _⟩ := h; rfl
  obtain ⟨a, dx, rfl, ha, q⟩ := h
  refine ⟨_, (pss_cons (ps_fldG CL_HeapAgenda N_HeapAgenda_heap (pv 0) (pe_lstG pa_nil))
  (pss_one (ps_fldG CL_HeapAgenda N_HeapAgenda_turn (pv 0) pe_int))), ?_⟩
  walk_at "rz"
  intro l H1 hl g1 h1
  have a1 := g1 _ _ ha
  walk_at "rz"
  intro H2 m2
  have nl : l ≠ a := (ne_of_none ha hl).symm
  have a2 := m2.at_
  walk_at "rz"
  intro H3 m3
  walk_at "rz"
  exact q l H3 hl (fun c u nc hc => m3.old (m2.old (g1 _ _ hc) nc) nc) ⟨dx, [], m3.at_, ⟨m3.old (m2.old h1 nl) nl, fun q hq => absurd hq List.not_mem_nil⟩, List.Perm.refl _, HP.nil, fun e he => absurd he List.not_mem_nil⟩
def spHPut (CH : Addr) : Sp := fun vs H Q _ => ∃ (b l : Addr) (m x tn : Int) (kt : List Kt), vs = [.ref b, .int m, .int x] ∧ HA CH H b l tn kt ∧ kt.length ≤ 900 ∧ ∀ H', FrA b l H H' → HA CH H' b l (tn + 1) (kt ++ [⟨m, tn + 1, x⟩]) → Q .non H'
theorem ok_HPut {CH : Addr} (D : MethAt K CH "put" "HeapAgenda.put" s_HeapAgenda_put ["self", "moment", "thing"]) (CL_HeapAgenda : Cls K CH) (N_HeapAgenda_heap : NoAttr K CH "heap") (N_HeapAgenda_turn : NoAttr K CH "turn") (G_rise : OkD P w K mg base 2 "rise" ["heap"] spRise) : OkM P w K mg base 3 CH "put" ["self", "moment", "thing"] (spHPut CH) := by
  refine D.ok CL_HeapAgenda sc_HeapAgenda_put (fun vs H Q E h => ?_) (fun f cdv A outer s H vs Q E hr h => ?_)
  · obtain ⟨_, _, _, _, _, _, rfl, _⟩ := h; rfl
  obtain ⟨b, l, m, x, tn, kt, rfl, ⟨dx, ps, h1, hl, pm, hp, ht⟩, hn, q⟩ := h
  have big : 100000 ≤ sizeLine := by unfold sizeLine; decide
  have lp : ps.length = kt.length := by have := pm.length_eq; rw [List.length_map, List.length_map] at this; exact this
  have l1 := hl.1
  have nlb : l ≠ b := fun z => by rw [z, h1] at l1; cases l1
  have tb : ∀ c xs, H c = some (.tup xs) → c ≠ b ∧ c ≠ l := fun c xs hc => ⟨fun z => (by rw [z, h1] at hc; cases hc), fun z => (by rw [z, l1] at hc; cases hc)⟩
  refine ⟨_, (pss_cons (ps_fldG CL_HeapAgenda N_HeapAgenda_turn (pv 0) (pe_op op_add (pe_fldG CL_HeapAgenda N_HeapAgenda_turn (pv 0)) pe_int))
  (pss_cons (ps_expr (pe_appG (pe_fldG CL_HeapAgenda N_HeapAgenda_heap (pv 0)) (pe_tupG (pa_c (pv 1) (pa_c (pe_fldG CL_HeapAgenda N_HeapAgenda_turn (pv 0)) (pa_c (pv 2) pa_nil))))))
  (pss_one (ps_expr (pe_def G_rise hr rfl (pa_c (pe_fldG CL_HeapAgenda N_HeapAgenda_heap (pv 0)) pa_nil)))))), ?_⟩
  walk_at "rz"
  intro H1 m1
  have b1 := m1.at_
  have l2 := m1.old l1 nlb
  walk_at "rz"
  intro p H2 hp2 g2 h2
  have l3 := g2 _ _ l2
  have b2 := g2 _ _ b1
  clear l2 b1 h1 l1
  walk_at "rz"
  refine ⟨by rw [List.length_map]; omega, fun H3 m3 => ?_⟩
  have npl : p ≠ l := fun z => by rw [z, m1.old hl.1 nlb] at hp2; cases hp2
  have b3 := m3.old b2 (Ne.symm nlb)
  clear l3 b2
  walk_at "rz"
  have tk : ∀ c xs, H c = some (.tup xs) → H3 c = some (.tup xs) := fun c xs hc => m3.old (g2 _ _ (m1.old hc (tb c xs hc).1)) (tb c xs hc).2
  have hl3 : HL H3 l (ps ++ [(p, [m, tn + 1, x])]) := by
    refine ⟨by rw [m3.at_, List.map_append]; rfl, fun r hr => ?_⟩
    rcases List.mem_append.mp hr with hr | hr
    · exact tk _ _ (hl.2 r hr)
    · rw [List.mem_singleton.mp hr]
      exact m3.old h2 npl
  refine ⟨l, ps ++ [(p, [m, tn + 1, x])], rfl, hl3, by simp, ?_, fun H4 ps' o4 hl4 pm4 hp4 => ?_⟩
  · have := RI.snoc (q := (p, [m, tn + 1, x])) hp
    rw [show (ps ++ [(p, [m, tn + 1, x])]).length - 1 = ps.length by simp]
    exact this
  · walk_at "rz"
    refine q H4 (fun c u n1 n2 hc => o4 c u n2 (m3.old (g2 _ _ (m1.old hc n1)) n2)) ⟨dx, ps', o4 _ _ (Ne.symm nlb) b3, hl4, ?_, hp4, fun e he => ?_⟩
    · have := pm4.map (fun x : It => x.2)
      rw [List.map_append] at this
      refine this.trans ?_
      rw [List.map_append]
      exact pm.append_right _
    · rcases List.mem_append.mp he with he | he
      · have := ht e he; omega
      · rw [List.mem_singleton.mp he]; exact Int.le_refl _
def spHFst (CH : Addr) : Sp := fun vs H Q _ => ∃ (b l : Addr) (tn : Int) (kt ok : List Kt), vs = [.ref b] ∧ HA CH H b l tn kt ∧ Srt kt ok ∧ Q (fst1 ok) H
theorem ok_HFst {CH : Addr} (D : MethAt K CH "first" "HeapAgenda.first" s_HeapAgenda_first ["self"]) (CL_HeapAgenda : Cls K CH) (N_HeapAgenda_heap : NoAttr K CH "heap") : OkM P w K mg base 1 CH "first" ["self"] (spHFst CH) := by
  refine D.ok CL_HeapAgenda sc_HeapAgenda_first (fun vs H Q E h => ?_) (fun f cdv A outer s H vs Q E hr h => ?_)
  · obtain ⟨_, _, _, _, _, rfl, _⟩ := h; rfl
  obtain ⟨b, l, tn, kt, ok, rfl, ⟨dx, ps, h1, hl, pm, hp, ht⟩, so, q⟩ := h
  have l1 := hl.1
  refine ⟨_, (pss_cons (ps_if (pt_not (pt_truth (pe_fldG CL_HeapAgenda N_HeapAgenda_heap (pv 0)) (fun _ => rfl)))
  (pss_one (ps_ret pe_non))
  pss_nil)
  (pss_one (ps_ret (pe_ix ix_g (pe_ix ix_g (pe_fldG CL_HeapAgenda N_HeapAgenda_heap (pv 0)) pe_int (fun _ _ => rfl)) pe_int (fun _ _ => rfl))))), ?_⟩
  walk_at "rz"
  refine ⟨_, .inl ⟨_, SqL.of l1, rfl⟩, ?_⟩
  cases ok with
  | nil =>
    have e0 : kt = [] := List.nil_perm.mp so.1
    subst e0
    cases ps with
    | cons _ _ => have := pm.length_eq; cases this
    | nil =>
      walk_at "rz"
      exact q
  | cons e r =>
    obtain ⟨q0, r0, rfl, hq0⟩ := root2 hp pm so rfl
    have a2 : H q0.1 = some (.tup [.int e.m, .int e.t, .int e.x]) := by have := hl.2 q0 List.mem_cons_self; rw [hq0] at this; exact this
    clear pm hq0
    rw [if_neg (by simp)]
    walk_at "rz"
    exact q
def spHTake (CH : Addr) : Sp := fun vs H Q _ => ∃ (b l : Addr) (tn : Int) (kt : List Kt) (i : Nat) (e : Kt), vs = [.ref b] ∧ HA CH H b l tn kt ∧ Inc kt ∧ IsMi kt i e ∧ kt.length ≤ 900 ∧ ∀ H' p, FrA b l H H' → HA CH H' b l tn (kt.eraseIdx i) → H' p = some (.tup [.int e.m, .int e.x]) → Q (.ref p) H'
theorem ok_HTake {CH : Addr} (D : MethAt K CH "take" "HeapAgenda.take" s_HeapAgenda_take ["self"]) (CL_HeapAgenda : Cls K CH) (N_HeapAgenda_heap : NoAttr K CH "heap") (G_sink : OkD P w K mg base 2 "sink" ["heap"] spSink) : OkM P w K mg base 3 CH "take" ["self"] (spHTake CH) := by
  refine D.ok CL_HeapAgenda sc_HeapAgenda_take (fun vs H Q E h => ?_) (fun f cdv A outer s H vs Q E hr h => ?_)
  · obtain ⟨_, _, _, _, _, _, rfl, _⟩ := h; rfl
  obtain ⟨b, l, tn, kt, i, e, rfl, ⟨dx, ps, h1, hl, pm, hp, ht⟩, ic, im, hn, q⟩ := h
  have big : 100000 ≤ sizeLine := by unfold sizeLine; decide
  have lp : ps.length = kt.length := by have := pm.length_eq; rw [List.length_map, List.length_map] at this; exact this
  obtain ⟨q0, r0, e0, hq0, pr⟩ := root hp pm ic im
  have a2 : H q0.1 = some (.tup [.int e.m, .int e.t, .int e.x]) := by have := hl.2 q0 (by rw [e0]; exact List.mem_cons_self); rw [hq0] at this; exact this
  have nb : b ≠ l := fun z => by have := hl.1; rw [← z, h1] at this; cases this
  have tl : ∀ c xs, H c = some (.tup xs) → c ≠ l := fun c xs hc z => by have := hl.1; rw [← z, hc] at this; cases this
  obtain ⟨ini, z, ez⟩ : ∃ ini z, ps = ini ++ [z] := by
    refine ⟨ps.dropLast, ps.getLast (by rw [e0]; simp), (List.dropLast_concat_getLast _).symm⟩
  have l1 : H l = some (.lst ((ini.map fun q => V.ref q.1) ++ [.ref z.1])) := by rw [hl.1, ez, List.map_append]; rfl
  have at0 : atI ((ini.map fun q => V.ref q.1) ++ [V.ref z.1]) 0 = some (.ref q0.1) := by
    have : (ini.map fun q => V.ref q.1) ++ [V.ref z.1] = (q0 :: r0).map fun q => V.ref q.1 := by rw [← e0, ez, List.map_append]; rfl
    rw [this]; exact atI_0
  have era : ∀ e' ∈ kt.eraseIdx i, e'.t ≤ tn := fun e' he' => ht e' (List.mem_of_mem_eraseIdx he')
  refine ⟨_, (pss_cons (ps_asg (pe_ix ix_g (pe_fldG CL_HeapAgenda N_HeapAgenda_heap (pv 0)) pe_int (fun _ _ => rfl)) (pg_tupG 3 rfl (pgs_cons (pg_name (i := 1) sc_HeapAgenda_take.nd rfl (Or.inl rfl)) (pgs_cons (pg_name (i := 2) sc_HeapAgenda_take.nd rfl (Or.inl rfl)) (pgs_cons (pg_name (i := 3) sc_HeapAgenda_take.nd rfl (Or.inl rfl)) pgs_nil)))))
  (pss_cons (ps_set (i := 4) sc_HeapAgenda_take.nd rfl (Or.inl rfl) (pe_bm0 PySem.F.plainAttrs_list PySem.F.slot_list_pop PySem.F.type_list_pop mt_popG (pe_fldG CL_HeapAgenda N_HeapAgenda_heap (pv 0))))
  (pss_cons (ps_if (pt_truth (pe_fldG CL_HeapAgenda N_HeapAgenda_heap (pv 0)) (fun _ => rfl))
  (pss_cons (ps_asg (pv 4) (pg_sub (pe_fldG CL_HeapAgenda N_HeapAgenda_heap (pv 0)) pe_int set_listG))
  (pss_one (ps_expr (pe_def G_sink hr rfl (pa_c (pe_fldG CL_HeapAgenda N_HeapAgenda_heap (pv 0)) pa_nil)))))
  pss_nil)
  (pss_one (ps_ret (pe_tupG (pa_c (pv 1) (pa_c (pv 3) pa_nil)))))))), ?_⟩
  walk_at "rz"
  refine ⟨⟨_, SqL.of l1⟩, ?_⟩
  walk_at "rz"
  refine ⟨_, _, rfl, fun H1 m1 => ?_⟩
  have b1 := m1.old h1 nb
  have l2 := m1.at_
  have tk1 : ∀ c xs, H c = some (.tup xs) → H1 c = some (.tup xs) := fun c xs hc => m1.old hc (tl c xs hc)
  clear l1 at0 a2
  walk_at "rz"
  refine ⟨_, .inl ⟨_, SqL.of l2, rfl⟩, ?_⟩
  cases ini with
  | nil =>
    rw [if_neg (by simp)]
    walk_at "rz"
    intro p H2 hp2 g2 h2
    have er : r0 = [] := by
      rw [ez] at e0
      injection e0 with x1 x2
      exact x2.symm
    subst er
    exact q H2 p (fun c u n1 n2 hc => g2 _ _ (m1.old hc n2)) ⟨dx, [], g2 _ _ b1, ⟨g2 _ _ l2, fun q hq => absurd hq List.not_mem_nil⟩, pr, HP.nil, era⟩ h2
  | cons y ini' =>
    have ey : q0 = y ∧ r0 = ini' ++ [z] := by
      rw [ez] at e0
      injection e0 with x1 x2
      exact ⟨x1.symm, x2.symm⟩
    obtain ⟨rfl, rfl⟩ := ey
    rw [if_pos (by simp)]
    walk_at "rz"
    refine ⟨0, ixN_at (i := 0) (Nat.succ_pos _), fun H2 m2 => ?_⟩
    have b2 := m2.old b1 nb
    have l3 := m2.at_
    have tk2 : ∀ c xs, H c = some (.tup xs) → H2 c = some (.tup xs) := fun c xs hc => m2.old (tk1 c xs hc) (tl c xs hc)
    clear b1 l2
    walk_at "rz"
    have hpi : HP (q0 :: ini') := by
      have := hp.init
      rw [ez, List.dropLast_concat] at this
      exact this
    have hm : ∀ r ∈ z :: ini', r ∈ ps := fun r hr => by
      rw [ez]
      rcases List.mem_cons.mp hr with y | y
      · rw [y]; simp
      · simp [y]
    refine ⟨l, z :: ini', rfl, ⟨l3, fun r hr => tk2 _ _ (hl.2 r (hm r hr))⟩, by simp, SI.root (q := z) hpi, fun H3 ps' o3 hl3 pm3 hp3 => ?_⟩
    walk_at "rz"
    intro p H4 hp4 g4 h4
    refine q H4 p (fun c u n1 n2 hc => g4 _ _ (o3 c u n2 (m2.old (m1.old hc n2) n2))) ⟨dx, ps', g4 _ _ (o3 _ _ nb b2), hl3.same g4, ?_, hp3, era⟩ h4
    refine ((pm3.map (fun x : It => x.2)).trans ?_).trans pr
    rw [List.map_cons, List.map_append]
    exact List.perm_append_comm (l₁ := [z.2])
theorem lift_perm {α β : Type} {f : α → β} : ∀ {m : List β} {l : List α}, m.Perm (l.map f) → ∃ l' : List α, l'.Perm l ∧ l'.map f = m := by
  intro m l p
  generalize hx : l.map f = x at p
  induction p generalizing l with
  | nil => exact ⟨[], by rw [List.map_eq_nil_iff.mp hx], rfl⟩
  | cons a _ ih =>
    cases l with
    | nil => cases hx
    | cons b l =>
      rw [List.map_cons] at hx
      injection hx with h1 h2
      obtain ⟨l', p', e⟩ := ih h2
      exact ⟨b :: l', p'.cons b, by rw [List.map_cons, e, h1]⟩
  | swap a b r =>
    cases l with
    | nil => cases hx
    | cons c l =>
      cases l with
      | nil => simp at hx
      | cons d l =>
        simp only [List.map_cons] at hx
        injection hx with h1 h2
        injection h2 with h2 h3
        exact ⟨d :: c :: l, List.Perm.swap _ _ _, by simp only [List.map_cons]; rw [h1, h2, h3]⟩
  | trans _ _ ih1 ih2 =>
    obtain ⟨l2, p2, e2⟩ := ih2 hx
    obtain ⟨l1, p1, e1⟩ := ih1 e2
    exact ⟨l1, p1.trans p2, e1⟩
theorem lt_bef {a b : Kt} (h : HT.lexLt (key3 a) (key3 b) = true) (n : a.t ≠ b.t) : bef a b := by
  unfold key3 at h
  rw [HT.lexLt_cons] at h
  by_cases c : a.m = b.m
  · rw [if_pos c, HT.lexLt_cons, if_neg n] at h
    exact .inr ⟨c, of_decide_eq_true h⟩
  · rw [if_neg c] at h
    exact .inl (of_decide_eq_true h)
/-- sorted by its keys -/
theorem srt_of {kt : List Kt} {ks : List (List Int)} (ic : Inc kt) (p : ks.Perm (kt.map key3)) (h : ks.Pairwise fun a b => HT.lexLt a b = true) : ∃ ok, Srt kt ok ∧ ok.map key3 = ks := by
  obtain ⟨ok, po, e⟩ := lift_perm p
  refine ⟨ok, ⟨po, ?_⟩, e⟩
  subst e
  rw [List.pairwise_map] at h
  have d : ok.Pairwise fun a b => a.t ≠ b.t := (po.pairwise_iff (fun {a b} h => Ne.symm h)).mpr (ic.imp fun h => Int.ne_of_lt h)
  exact (h.and d).imp fun x => lt_bef x.1 x.2
end
end K17

set_option Elab.async false
set_option linter.all false
set_option maxRecDepth 100000
set_option maxHeartbeats 4000000
namespace K17
open PySem L2
theorem sn_hi : SN ≤ 900 := by decide
theorem sn_lo : 5 ≤ SN := by decide
section
variable {P : Program} {w : World} {K : PySem.W.Frag} {mg : Str → Option Value} {base : Heap}
/-- new tuples in a new list -/
def OdP (ks : List (List Int)) (n : Nat) (i : Nat) (ys : List V) (σ1 : St) (H' : Hp) : Prop := ∃ ps' : List It, ys = ps'.map (fun q => V.ref q.1) ∧ (∀ q ∈ ps', H' q.1 = some (.tup (q.2.map V.int))) ∧ ps'.map (·.2) = ks.take i ∧ σ1.length = n
theorem OdP.put {ks : List (List Int)} {n i : Nat} {ys : List V} {σ1 σ2 : St} {H1 H4 H5 : Hp} {D p : Addr} {k : List Int} (h : OdP ks n i ys σ1 H1) (hD : H1 D = some (.lst ys)) (g : Same H1 H4) (mu : Mu H4 D (.lst (ys ++ [.ref p])) H5) (hp : H4 p = some (.tup (k.map V.int))) (ek : ks[i]? = some k) (hs : σ2.length = n) : OdP ks n (i + 1) (ys ++ [.ref p]) σ2 H5 := by
  obtain ⟨ps', rfl, h2, h3, _⟩ := h
  have np : p ≠ D := fun z => by rw [z, g _ _ hD] at hp; cases hp
  refine ⟨ps' ++ [(p, k)], by rw [List.map_append]; rfl, fun q hq => ?_, by rw [List.map_append, h3, take_snoc ek]; rfl, hs⟩
  rcases List.mem_append.mp hq with hq | hq
  · exact mu.old (g _ _ (h2 q hq)) (fun z => by have := h2 q hq; rw [z, hD] at this; cases this)
  · rw [List.mem_singleton.mp hq]; exact mu.old hp np
theorem OdP.mono {ks : List (List Int)} {n i : Nat} {ys : List V} {σ1 : St} {H1 H2 : Hp} (h : OdP ks n i ys σ1 H1) (g : Same H1 H2) : OdP ks n i ys σ1 H2 := by
  obtain ⟨ps', h1, h2, h3, h4⟩ := h
  exact ⟨ps', h1, fun q hq => g _ _ (h2 q hq), h3, h4⟩
def spHOrd (CH : Addr) : Sp := fun vs H Q _ => ∃ (b l : Addr) (tn : Int) (kt : List Kt), vs = [.ref b] ∧ HA CH H b l tn kt ∧ Inc kt ∧ kt.length < SN ∧ ∀ r H' ps' ok, Srt kt ok → H r = none → Same H H' → HL H' r ps' → ps'.map (·.2) = ok.map key2 → Q (.ref r) H'
theorem ok_HOrd {CH : Addr} (D : MethAt K CH "in_order" "HeapAgenda.in_order" s_HeapAgenda_in_order ["self"]) (CL_HeapAgenda : Cls K CH) (N_HeapAgenda_heap : NoAttr K CH "heap") (hsorted : mg "sorted" = none) : OkM P w K mg base 1 CH "in_order" ["self"] (spHOrd CH) := by
  refine D.ok CL_HeapAgenda sc_HeapAgenda_in_order (fun vs H Q E h => ?_) (fun f cdv A outer s H vs Q E hr h => ?_)
  · obtain ⟨_, _, _, _, rfl, _⟩ := h; rfl
  obtain ⟨b, l, tn, kt, rfl, ⟨dx, ps, h1, hl, pm, hp, ht⟩, ic, h64, q⟩ := h
  have big : 100000 ≤ sizeLine := by unfold sizeLine; decide
  have snh := sn_hi
  have lp : ps.length = kt.length := by have := pm.length_eq; rw [List.length_map, List.length_map] at this; exact this
  have l1 := hl.1
  have l3 : ∀ r ∈ ps, r.2.length = 3 := fun r hr => by
    obtain ⟨e, _, he⟩ := List.mem_map.mp (pm.mem_iff.mp (List.mem_map_of_mem (f := fun x : It => x.2) hr))
    rw [← he]; rfl
  have nd : ps.Pairwise fun a b => a.2 ≠ b.2 := by
    have d : (kt.map key3).Pairwise fun a b => a ≠ b := by
      rw [List.pairwise_map]
      exact ic.imp fun {a b} h z => by rw [key3_inj z] at h; omega
    have := (pm.pairwise_iff (fun {a b} h => Ne.symm h)).mpr d
    rwa [List.pairwise_map] at this
  refine ⟨_, (pss_one (ps_ret (pe_compN (comp_scopeN 3 (N := ["moment", "turn", "thing"]) (cap := []) rfl rfl rfl rfl (by decide +kernel) rfl rfl rfl) rfl (pi_list (pe_cB (call_sortedO rfl) rfl hsorted (by decide +kernel) (pa_c (pe_fldG CL_HeapAgenda N_HeapAgenda_heap (pv 0)) pa_nil))) (fun _ _ _ _ => (pg_tupG 3 rfl (pgs_cons (pg_name (i := 0) (show List.Nodup (α := Str) ["moment", "turn", "thing"] by decide +kernel) rfl (Or.inl (lookup_relabel_local rfl)) (Or.inr (lookup_relabel_local rfl))) (pgs_cons (pg_name (i := 1) (show List.Nodup (α := Str) ["moment", "turn", "thing"] by decide +kernel) rfl (Or.inl (lookup_relabel_local rfl)) (Or.inr (lookup_relabel_local rfl))) (pgs_cons (pg_name (i := 2) (show List.Nodup (α := Str) ["moment", "turn", "thing"] by decide +kernel) rfl (Or.inl (lookup_relabel_local rfl)) (Or.inr (lookup_relabel_local rfl))) pgs_nil))))) (fun _ _ _ _ => pts_nil) (fun _ _ _ _ => (pe_tupG (pa_c (pv 0) (pa_c (pv 2) pa_nil))))))), ?_⟩
  walk_at "rz"
  refine tcomp_in ?_
  simp only [iList]
  walk_at "rz"
  refine ⟨ps, rfl, 3, hl.2, by decide, l3, nd, by omega, fun S H1 qs hS g1 hS1 pq po => ?_⟩
  obtain ⟨ok, so, eo⟩ := srt_of ic ((pq.map (fun x : It => x.2)).trans pm) (by rw [List.pairwise_map]; exact po)
  have lo : ok.length = kt.length := so.1.length_eq
  have hlS : HL H1 S qs := ⟨hS1, fun r hr => g1 _ _ (hl.2 r (pq.mem_iff.mp hr))⟩
  have lq := pq.length_eq
  clear l1
  walk_at "rz"
  refine ⟨⟨_, SqL.of hS1⟩, compJ_list hS1 (by rw [List.length_map, lq]; omega) (OdP (ok.map key2) 3) (fun H' _ => ⟨[], rfl, fun q hq => absurd hq List.not_mem_nil, rfl, rfl⟩) ?_ ?_⟩
  · rintro D i x ys σ1 H' hx at1 pv
    have il : i < ok.length := by have := (List.getElem?_eq_some_iff.mp hx).1; rw [List.length_map, lq] at this; omega
    obtain ⟨e, he⟩ : ∃ e, ok[i]? = some e := ⟨_, List.getElem?_eq_getElem il⟩
    obtain ⟨p, p1, p2', p3⟩ := ps_at hlS eo.symm he
    rw [List.getElem?_map, p3] at hx
    cases hx
    have p2 : H' p = some (.tup [.int e.m, .int e.t, .int e.x]) := at1.same _ _ p2'
    obtain ⟨v0, v1, v2, rfl⟩ : ∃ v0 v1 v2, σ1 = [v0, v1, v2] := by
      obtain ⟨_, _, _, _, h⟩ := pv
      match σ1, h with
      | [v0, v1, v2], _ => exact ⟨v0, v1, v2, rfl⟩
    clear p2' p1 p3 hS1 eo
    walk_at "rz"
    intro p5 H4 hp5 g4 h4
    exact at1.put g4 fun H5 mu => pv.put (k := key2 e) at1.lst g4 mu h4 (by rw [List.getElem?_map, he]; rfl) rfl
  · rintro D ys σ1 H' hD g2 hy hle ⟨ps', rfl, h2, h3, _⟩
    rw [List.length_map, lq, lp, ← lo, List.take_of_length_le (by rw [List.length_map]; exact Nat.le_refl _)] at h3
    exact q D H' ps' ok so (g1.free hD) (g1.trans g2) ⟨hy, h2⟩ h3
end
end K17

set_option Elab.async false
set_option linter.all false
set_option maxRecDepth 100000
set_option maxHeartbeats 4000000
namespace K17
open PySem L2
def FrG (cs : List Addr) (H H' : Hp) : Prop := ∀ c u, c ∉ cs → H c = some u → H' c = some u
theorem FrG.refl {cs : List Addr} {H : Hp} : FrG cs H H := fun _ _ _ h => h
theorem FrG.trans {cs : List Addr} {H H' H'' : Hp} (f : FrG cs H H') (f' : FrG cs H' H'') : FrG cs H H'' := fun c u n h => f' c u n (f c u n h)
theorem FrG.same {cs : List Addr} {H H' H'' : Hp} (f : FrG cs H H') (f' : Same H' H'') : FrG cs H H'' := fun c u n h => f' c u (f c u n h)
theorem FrG.of {cs : List Addr} {H H' : Hp} (f : Same H H') : FrG cs H H' := fun c u _ h => f c u h
theorem FrG.old {cs : List Addr} {H H' : Hp} (f : FrG cs H H') {c : Addr} {u : HO} (h : H c = some u) (n : c ∉ cs) : H' c = some u := f c u n h
/-- the deck: the cells and where one is -/
def Dk (H : Hp) (dk sp : Addr) (k : Int) : Prop := ∃ (ns : List Int) (at_ : Int), H dk = some (.lst [.ref sp, .int at_]) ∧ H sp = some (.lst (ns.map V.int)) ∧ (0 ≤ at_ ∧ at_ ≤ k) ∧ ns.length ≤ 63
theorem Dk.mono {H : Hp} {dk sp : Addr} {k k' : Int} (h : Dk H dk sp k) (l : k ≤ k') : Dk H dk sp k' := by
  obtain ⟨ns, a, h1, h2, ⟨h3, h4⟩, h5⟩ := h
  exact ⟨ns, a, h1, h2, ⟨h3, by omega⟩, h5⟩
theorem Dk.same {H H' : Hp} {dk sp : Addr} {k : Int} (g : Same H H') (h : Dk H dk sp k) : Dk H' dk sp k := by
  obtain ⟨ns, a, h1, h2, h3⟩ := h
  exact ⟨ns, a, g _ _ h1, g _ _ h2, h3⟩
theorem shaped_ints (ns : List Int) : SeqAt.shaped (.list (ns.map PyData.int)) = true := by
  unfold SeqAt.shaped
  have e : ∀ ns : List Int, PyData.canLayAll0 (ns.map PyData.int) = true := fun ns => by
    induction ns with
    | nil => rfl
    | cons n ns ih => rw [List.map_cons, PyData.canLayAll0, ih]; rfl
  have d : ∀ ns : List Int, PyData.depthAll (ns.map PyData.int) ≤ 1 := fun ns => by
    induction ns with
    | nil => simp [PyData.depthAll]
    | cons n ns ih => simp only [List.map_cons, PyData.depthAll, PyData.depth] at ih ⊢; omega
  have e1 : PyData.canLay0 (.list (ns.map PyData.int)) = true := by
    simp only [PyData.canLay0]
    exact e ns
  have d1 := d ns
  rw [e1, Bool.true_and, decide_eq_true_eq]
  simp only [PyData.depth]
  omega
theorem rp_ints {K : PySem.W.Frag} {H : Hp} : ∀ ns : List Int, RpL K H (ns.map V.int) (ns.map PyData.int)
  | [] => .nil
  | n :: ns => .cons (.int n) (rp_ints ns)
theorem eqv_nil {ds : List PyData} : PyData.eqv (.list ds) (.list []) = ds.isEmpty := by
  cases ds with
  | nil => decide
  | cons d ds => simp [PyData.eqv, PyData.eqvAll]
theorem ne_nil {K : PySem.W.Frag} {H : Hp} {a p : Addr} {xs : List V} {ds : List PyData} {Kx : VK} (ha : H a = some (.lst xs)) (r : RpL K H xs ds) (sh : SeqAt.shaped (.list ds) = true) (hp : H p = some (.lst [])) (k : Kx (.bl (!xs.isEmpty)) H) : rNeD K (.ref a) (.ref p) H Kx := by
  refine ⟨.list ds, .list [], .lst ha r, .lst hp .nil, sh, by decide, ?_⟩
  rw [eqv_nil]
  have : ds.isEmpty = xs.isEmpty := by cases r <;> rfl
  rw [this]
  exact k
section
variable {P : Program} {w : World} {K : PySem.W.Frag} {mg : Str → Option Value} {base : Heap}
def spNx : Sp := fun vs H Q _ => ∃ (dk sp : Addr) (k : Int), vs = [.ref dk] ∧ Dk H dk sp k ∧ k ≤ 1000000 ∧ ∀ (m : Int) (H' : Hp), 0 ≤ m → m < 2147483648 → FrG [dk] H H' → Dk H' dk sp (k + 1) → Q (.int m) H'
theorem ok_nx (D : DefAt K mg "_law_next" s__law_next ["deck"]) (hlen : mg "len" = none) (hmax : mg "max" = none) (hmin : mg "min" = none) (hrange : mg "range" = none) : OkD P w K mg base 1 "_law_next" ["deck"] spNx := by
  refine D.ok sc__law_next (fun vs H Q E h => ?_) (fun f cdv A outer s H vs Q E hr h => ?_)
  · obtain ⟨_, _, _, rfl, _⟩ := h; rfl
  obtain ⟨dk, sp, k, rfl, ⟨ns, at_, h1, h2, ⟨h0, h01⟩, h63⟩, hk, q⟩ := h
  have hu := hu_of hr
  have hu64 := hr.units
  have big : 100000 ≤ sizeLine := by unfold sizeLine; decide
  have nsd : sp ≠ dk := fun z => by
    rw [z, h1] at h2
    have h3 := HO.lst.inj (Option.some.inj h2)
    cases ns with
    | nil => cases h3
    | cons n ns => rw [List.map_cons] at h3; cases h3
  refine ⟨_, (pss_cons (ps_set (i := 1) sc__law_next.nd rfl (Or.inl rfl) (pe_ix ix_g (pv 0) pe_int (fun _ _ => rfl)))
  (pss_cons (ps_asg (pe_op op_add (pv 1) pe_int) (pg_sub (pv 0) pe_int set_listG))
  (pss_cons (ps_set (i := 2) sc__law_next.nd rfl (Or.inl rfl) (pe_cB (call_max2 rfl) rfl hmax (by decide +kernel) (pa_c pe_int (pa_c (pe_cB call_len_seq rfl hlen PySem.boot_len (pa_c (pe_ix ix_g (pv 0) pe_int (fun _ _ => rfl)) pa_nil)) pa_nil))))
  (pss_cons (ps_set (i := 3) sc__law_next.nd rfl (Or.inl rfl) pe_int)
  (pss_cons (ps_if (pt_cmpR (op_neD hu64) (pe_ix ix_g (pv 0) pe_int (fun _ _ => rfl)) (pe_lstG pa_nil) (nomark _))
  (pss_one (ps_set (i := 3) sc__law_next.nd rfl (Or.inl rfl) (pe_ix ix_g (pe_ix ix_g (pv 0) pe_int (fun _ _ => rfl)) (pe_op op_mod (pv 1) (pv 2)) (fun _ _ => rfl))))
  pss_nil)
  (pss_cons (ps_if (pt_cmpR op_ge (pv 3) (pe_op op_pow pe_int pe_int) (nomark _))
  (pss_cons (ps_for PassesOwn.never rfl (pi_range1 rfl hrange (pa_c (pe_cB (call_min2 rfl) rfl hmin (by decide +kernel) (pa_c pe_int (pa_c (pe_op op_fdiv (pv 1) (pv 2)) pa_nil))) pa_nil)) (pg_name (i := 4) sc__law_next.nd rfl (Or.inl rfl))
  (pss_one (ps_set (i := 3) sc__law_next.nd rfl (Or.inl rfl) (pe_op op_fdiv (pv 3) pe_int))))
  (pss_one (ps_ret (pe_op op_mod (pv 3) pe_int))))
  pss_nil)
  (pss_cons (ps_set (i := 5) sc__law_next.nd rfl (Or.inl rfl) (pe_op op_mod (pe_op op_add (pe_op op_add (pe_op op_mod (pv 3) pe_int) (pe_op op_mul (pe_op op_mul pe_int (pe_op op_add (pv 1) pe_int)) (pe_op op_add (pv 1) pe_int))) pe_int) pe_int))
  (pss_cons (ps_set (i := 5) sc__law_next.nd rfl (Or.inl rfl) (pe_op op_mod (pe_op op_mul (pv 5) (pv 5)) pe_int))
  (pss_cons (ps_set (i := 5) sc__law_next.nd rfl (Or.inl rfl) (pe_op op_mod (pe_op op_add (pe_op op_add (pe_op op_mul (pv 5) pe_int) (pe_op op_mul pe_int (pv 1))) pe_int) pe_int))
  (pss_one (ps_ret (pe_op op_fdiv (pe_op op_mod (pe_op op_mul (pv 5) (pv 5)) pe_int) pe_int)))))))))))), ?_⟩
  walk_at "rz"
  refine ⟨1, rfl, fun H1 m1 => ?_⟩
  have d1 : H1 dk = some (.lst [.ref sp, .int (at_ + 1)]) := m1.at_
  have s1 := m1.old h2 nsd
  have fin : ∀ (m : Int) (H' : Hp), 0 ≤ m → m < 2147483648 → Same H1 H' → Q (.int m) H' := fun m H' hm hm2 g => q m H' hm hm2 (fun c u nc hc => g _ _ (m1.old hc (fun z => nc (by rw [z]; exact List.mem_singleton_self _)))) ⟨ns, at_ + 1, g _ _ d1, g _ _ s1, ⟨by omega, by omega⟩, h63⟩
  clear h1 h2
  walk_at "rz"
  refine ⟨_, .inl (SqL.of s1), ?_⟩
  walk_at "rz"
  intro p2 H2 hp2 g2 h2
  refine ne_nil (g2 _ _ s1) (rp_ints ns) (shaped_ints ns) h2 ?_
  have d2 := g2 _ _ d1
  have s2 := g2 _ _ s1
  clear d1 s1
  walk_at "rz"
  have num : ∀ i : Int, ∃ y : Int, (((i % 2147483629 + 51437 * (at_ + 1) * (at_ + 3) + 1409) % 2147483629) = y) ∧ 0 ≤ y ∧ y < 2147483629 := fun i => ⟨_, rfl, Int.emod_nonneg _ (by decide), Int.emod_lt_of_pos _ (by decide)⟩
  have num2 : ∀ z : Int, ∃ y : Int, z % 2147483579 = y ∧ 0 ≤ y ∧ y < 2147483579 := fun i => ⟨_, rfl, Int.emod_nonneg _ (by decide), Int.emod_lt_of_pos _ (by decide)⟩
  refine ite2 (fun c => ?_) fun c => ?_
  · walk_at "rz"
    have c0 : 0 < ns.length := by
      cases ns with
      | nil => simp at c
      | cons n ns => simp
    have lm : (ns.map V.int).length = ns.length := List.length_map _
    rw [lm]
    generalize hm : (if (ns.length : Int) > 1 then (ns.length : Int) else 1) = many
    have m0 : 0 < many ∧ many ≤ ns.length := by rw [← hm]; split <;> omega
    have r0 := Int.emod_nonneg at_ (show many ≠ 0 by omega)
    have r1 := Int.emod_lt_of_pos at_ m0.1
    obtain ⟨v, ev, vm, _⟩ := atI_in (xs := ns.map V.int) r0 (by rw [lm]; omega)
    obtain ⟨i, _, rfl⟩ := List.mem_map.mp vm
    refine ⟨m0.1, ?_⟩
    walk_at "rz"
    refine ite2 (fun c2 => ?_) fun c2 => ?_
    · walk_at "rz"
      refine tfor_in ?_
      simp only [iRng1]
      walk_at "rd"
      have q0 : 0 ≤ at_ / many := Int.ediv_nonneg h0 (by omega)
      refine ⟨by omega, by split <;> omega, by split <;> omega, for_range (fun _ σ H' => H' = H2 ∧ ∃ (c' : Int) (v4 : Option V), σ = [some (.ref dk), some (.int at_), some (.int many), some (.int c'), v4, none]) ⟨rfl, i, _, rfl⟩ ?_ ?_⟩
      · rintro i σ H' hi ⟨rfl, c', v4, rfl⟩
        walk_at "rd"
        try exact ⟨_, rfl⟩
      · rintro σ H' ⟨rfl, c', v4, rfl⟩
        walk_at "rd"
        exact fin _ _ (Int.emod_nonneg _ (by decide)) (Int.lt_trans (Int.emod_lt_of_pos _ (by decide)) (by decide)) g2
    · walk_at "rd"
      refine ⟨.inl ⟨by omega, by omega⟩, ?_⟩
      obtain ⟨y, ey, y0, y1⟩ := num i
      rw [ey]
      refine ⟨.inl ⟨by omega, by omega⟩, ?_⟩
      obtain ⟨y2, ey2, y20, y21⟩ := num2 (y * y % 2147483587 * 69621 + 401 * at_ + 7)
      rw [ey2]
      have w1 := Int.emod_nonneg (y2 * y2) (show (2147483563 : Int) ≠ 0 by decide)
      have w2 := Int.emod_lt_of_pos (y2 * y2) (show (0 : Int) < 2147483563 by decide)
      exact ⟨.inl ⟨by omega, by omega⟩, fin _ _ (by omega) (by omega) g2⟩
  · walk_at "rd"
    refine ⟨.inl ⟨by omega, by omega⟩, ?_⟩
    obtain ⟨y, ey, y0, y1⟩ := num 0
    rw [ey]
    refine ⟨.inl ⟨by omega, by omega⟩, ?_⟩
    obtain ⟨y2, ey2, y20, y21⟩ := num2 (y * y % 2147483587 * 69621 + 401 * at_ + 7)
    rw [ey2]
    have w1 := Int.emod_nonneg (y2 * y2) (show (2147483563 : Int) ≠ 0 by decide)
    have w2 := Int.emod_lt_of_pos (y2 * y2) (show (0 : Int) < 2147483563 by decide)
    exact ⟨.inl ⟨by omega, by omega⟩, fin _ _ (by omega) (by omega) g2⟩
theorem Dk.off {H : Hp} {dk sp : Addr} {k : Int} (h : Dk H dk sp k) {c : Addr} (hc : H c = none) : c ∉ [dk] := fun z => by
  obtain ⟨_, _, h1, _⟩ := h
  rw [List.mem_singleton.mp z, h1] at hc; cases hc
end
end K17

set_option Elab.async false
set_option linter.all false
set_option maxRecDepth 100000
set_option maxHeartbeats 4000000
namespace K17
open PySem L2
/-! ### what lists of tuples are as data -/
def kD (k : List Int) : PyData := .tuple (k.map PyData.int)
def kD2 (e : Kt) : PyData := kD (key2 e)
theorem sh_of {ds : List PyData} (h : PyData.canLayAll0 ds = true) (h2 : PyData.depthAll ds ≤ 5) : SeqAt.shaped (.list ds) = true := by
  unfold SeqAt.shaped
  have e1 : PyData.canLay0 (.list ds) = true := by simp only [PyData.canLay0]; exact h
  rw [e1, Bool.true_and, decide_eq_true_eq]
  simp only [PyData.depth]
  omega
theorem sh_kD (ok : List Kt) : SeqAt.shaped (.list (ok.map kD2)) = true := by
  refine sh_of ?_ ?_
  · induction ok with
    | nil => rfl
    | cons e ok ih =>
      simp only [List.map_cons, kD2, kD, key2, List.map_nil, PyData.canLayAll0, PyData.canLay0, Bool.and_true, Bool.true_and] at ih ⊢
      exact ih
  · induction ok with
    | nil => simp [PyData.depthAll]
    | cons e ok ih =>
      simp only [List.map_cons, kD2, kD, key2, List.map_nil, PyData.depthAll, PyData.depth] at ih ⊢
      omega
theorem sh_kD1 (e : Kt) : SeqAt.shaped (kD2 e) = true := by
  unfold SeqAt.shaped kD2 kD key2
  simp only [List.map_cons, List.map_nil, PyData.canLay0, PyData.canLayAll0, PyData.depth, PyData.depthAll]
  decide
theorem eqv_sh {d : PyData} (h : SeqAt.shaped d = true) : PyData.eqv d d = true := by
  unfold SeqAt.shaped at h
  rw [Bool.and_eq_true] at h
  exact PySem.SeqAt.eqv_refl d h.1
theorem rp_pair {K : PySem.W.Frag} {H : Hp} {p : Addr} {e : Kt} (h : H p = some (.tup [.int e.m, .int e.x])) : Rp K H (.ref p) (kD2 e) := .tup h (.cons (.int _) (.cons (.int _) .nil))
theorem rp_list {K : PySem.W.Frag} {H : Hp} : ∀ {ps : List It} {ok : List Kt}, (∀ q ∈ ps, H q.1 = some (.tup (q.2.map V.int))) → ps.map (·.2) = ok.map key2 → RpL K H (ps.map fun q => V.ref q.1) (ok.map kD2)
  | [], [], _, _ => .nil
  | [], _ :: _, _, h => by cases h
  | _ :: _, [], _, h => by cases h
  | q :: ps, e :: ok, h, h' => by
    rw [List.map_cons, List.map_cons] at h'
    injection h' with h1 h2
    refine .cons (rp_pair ?_) (rp_list (fun r hr => h r (List.mem_cons_of_mem _ hr)) h2)
    have := h q List.mem_cons_self
    rw [h1] at this
    exact this
theorem HL.rp {K : PySem.W.Frag} {H : Hp} {l : Addr} {ps : List It} {ok : List Kt} (h : HL H l ps) (e : ps.map (·.2) = ok.map key2) : Rp K H (.ref l) (.list (ok.map kD2)) := .lst h.1 (rp_list h.2 e)
def AG (CL CH : Addr) (H : Hp) (a l : Addr) (kt : List Kt) : Prop := LA CL H a l kt ∨ ∃ tn, HA CH H a l tn kt
theorem AG.same {CL CH : Addr} {H H' : Hp} {a l : Addr} {kt : List Kt} (h : AG CL CH H a l kt) (g : Same H H') : AG CL CH H' a l kt := h.imp (fun h => h.same g) fun ⟨tn, h⟩ => ⟨tn, h.same g⟩
theorem FrG.up {cs cs' : List Addr} {H H' : Hp} (f : FrG cs H H') (h : ∀ c ∈ cs, c ∈ cs') : FrG cs' H H' := fun c u n hc => f c u (fun z => n (h c z)) hc
theorem Dk.fr {H H' : Hp} {dk sp : Addr} {k : Int} {cs : List Addr} (h : Dk H dk sp k) (f : FrG cs H H') (n1 : dk ∉ cs) (n2 : sp ∉ cs) : Dk H' dk sp k := by
  obtain ⟨ns, a, h1, h2, h3⟩ := h
  exact ⟨ns, a, f _ _ n1 h1, f _ _ n2 h2, h3⟩
def NT (H : Hp) (cs : List Addr) : Prop := ∀ c ∈ cs, ∀ xs, H c ≠ some (.tup xs)
theorem NT.k {H H' : Hp} {cs : List Addr} (n : NT H cs) (f : FrG cs H H') {c : Addr} {xs : List V} (h : H c = some (.tup xs)) : H' c = some (.tup xs) := f c _ (fun z => n c z xs h) h
theorem Dk.nt {H : Hp} {dk sp : Addr} {k : Int} (h : Dk H dk sp k) : NT H [dk] := fun c hc xs z => by
  obtain ⟨_, _, h1, _⟩ := h
  rw [List.mem_singleton.mp hc, h1] at z; cases z
theorem LA.nt {CL : Addr} {H : Hp} {a l : Addr} {kt : List Kt} (h : LA CL H a l kt) : NT H [a, l] := fun c hc xs z => by
  obtain ⟨_, _, _, h1, h2, _⟩ := h
  rcases List.mem_cons.mp hc with e | hc
  · rw [e, h1] at z; cases z
  · rw [List.mem_singleton.mp hc, h2.1] at z; cases z
theorem HA.nt {CH : Addr} {H : Hp} {b l : Addr} {tn : Int} {kt : List Kt} (h : HA CH H b l tn kt) : NT H [b, l] := fun c hc xs z => by
  obtain ⟨_, _, h1, h2, _⟩ := h
  rcases List.mem_cons.mp hc with e | hc
  · rw [e, h1] at z; cases z
  · rw [List.mem_singleton.mp hc, h2.1] at z; cases z
theorem HL.nt {H : Hp} {l : Addr} {ps : List It} (h : HL H l ps) : NT H [l] := fun c hc xs z => by
  rw [List.mem_singleton.mp hc, h.1] at z; cases z
theorem LA.frG {CL : Addr} {H H' : Hp} {a l : Addr} {kt : List Kt} {cs : List Addr} (h : LA CL H a l kt) (f : FrG cs H H') (n : NT H cs) (n1 : a ∉ cs) (n2 : l ∉ cs) : LA CL H' a l kt := h.fr fun c u hc hu => f c u (fun z => by
  rcases hc with rfl | rfl | ⟨xs, rfl⟩
  · exact n1 z
  · exact n2 z
  · exact n c z xs hu) hu
theorem HA.frG {CH : Addr} {H H' : Hp} {b l : Addr} {tn : Int} {kt : List Kt} {cs : List Addr} (h : HA CH H b l tn kt) (f : FrG cs H H') (n : NT H cs) (n1 : b ∉ cs) (n2 : l ∉ cs) : HA CH H' b l tn kt := h.fr fun c u hc hu => f c u (fun z => by
  rcases hc with rfl | rfl | ⟨xs, rfl⟩
  · exact n1 z
  · exact n2 z
  · exact n c z xs hu) hu
theorem HL.frG {H H' : Hp} {l : Addr} {ps : List It} {cs : List Addr} (h : HL H l ps) (f : FrG cs H H') (n : NT H cs) (n1 : l ∉ cs) : HL H' l ps := ⟨f _ _ n1 h.1, fun q hq => n.k f (h.2 q hq)⟩
theorem FrA.g {a l : Addr} {H H' : Hp} (f : FrA a l H H') : FrG [a, l] H H' := fun c u n hc => f c u (fun z => n (by rw [z]; simp)) (fun z => n (by rw [z]; simp)) hc
theorem Onl.g {l : Addr} {H H' : Hp} (f : Onl l H H') : FrG [l] H H' := fun c u n hc => f c u (fun z => n (by rw [z]; simp)) hc
def pr2 (p : Int × Int) : List Int := [p.1, p.2]
end K17

set_option Elab.async false
set_option linter.all false
set_option maxRecDepth 100000
set_option maxHeartbeats 4000000
namespace K17
open PySem L2
def prO (e : Kt) : Int × Int := (e.m, e.x)
theorem key2_pr (ok : List Kt) : ok.map key2 = (ok.map prO).map pr2 := by rw [List.map_map]; rfl
/-- an agenda (of the first kind where c) that keeps O, in order -/
def AO (CL CH : Addr) (H : Hp) (c : Bool) (a l : Addr) (O : List (Int × Int)) : Prop := ∃ kt ok, ((c = true ∧ LA CL H a l kt) ∨ (c = false ∧ ∃ tn, HA CH H a l tn kt)) ∧ Inc kt ∧ Srt kt ok ∧ ok.map prO = O
def SO (O : List (Int × Int)) : Prop := O.Pairwise fun p q => p.1 ≤ q.1
def insO (O : List (Int × Int)) (m x : Int) : List (Int × Int) := O.takeWhile (fun p => decide (p.1 ≤ m)) ++ (m, x) :: O.dropWhile (fun p => decide (p.1 ≤ m))
theorem insO_len (O : List (Int × Int)) (m x : Int) : (insO O m x).length = O.length + 1 := by
  unfold insO
  have := congrArg List.length (List.takeWhile_append_dropWhile (p := fun p : Int × Int => decide (p.1 ≤ m)) (l := O))
  rw [List.length_append] at this
  rw [List.length_append, List.length_cons]
  omega
theorem srt_so {kt ok : List Kt} (s : Srt kt ok) : SO (ok.map prO) := by
  unfold SO
  rw [List.pairwise_map]
  exact s.2.imp fun h => by rcases h with h | h <;> (unfold prO; dsimp only; omega)
theorem AO.so {CL CH : Addr} {H : Hp} {c : Bool} {a l : Addr} {O : List (Int × Int)} (h : AO CL CH H c a l O) : SO O := by
  obtain ⟨kt, ok, _, _, s, rfl⟩ := h
  exact srt_so s
theorem AO.same {CL CH : Addr} {H H' : Hp} {c : Bool} {a l : Addr} {O : List (Int × Int)} (h : AO CL CH H c a l O) (g : Same H H') : AO CL CH H' c a l O := by
  obtain ⟨kt, ok, h1, h2⟩ := h
  exact ⟨kt, ok, h1.imp (fun h => ⟨h.1, h.2.same g⟩) (fun ⟨e, tn, h⟩ => ⟨e, tn, h.same g⟩), h2⟩
theorem AO.frG {CL CH : Addr} {H H' : Hp} {c : Bool} {a l : Addr} {O : List (Int × Int)} {cs : List Addr} (h : AO CL CH H c a l O) (f : FrG cs H H') (n : NT H cs) (n1 : a ∉ cs) (n2 : l ∉ cs) : AO CL CH H' c a l O := by
  obtain ⟨kt, ok, h1, h2⟩ := h
  exact ⟨kt, ok, h1.imp (fun h => ⟨h.1, h.2.frG f n n1 n2⟩) (fun ⟨e, tn, h⟩ => ⟨e, tn, h.frG f n n1 n2⟩), h2⟩
theorem AO.nt {CL CH : Addr} {H : Hp} {c : Bool} {a l : Addr} {O : List (Int × Int)} (h : AO CL CH H c a l O) : NT H [a, l] := by
  obtain ⟨kt, ok, h1 | ⟨e, tn, h1⟩, h2⟩ := h
  · exact h1.2.nt
  · exact h1.nt
theorem AO.ins {CL CH : Addr} {H : Hp} {c : Bool} {a l : Addr} {O : List (Int × Int)} (h : AO CL CH H c a l O) : (∃ dx fs, H a = some (.ins (if c then CL else CH) dx fs)) ∧ ∃ xs, H l = some (.lst xs) := by
  obtain ⟨kt, ok, ⟨rfl, dx, ps, ok2, h1, h3, _⟩ | ⟨rfl, tn, dx, ps, h1, h3, _⟩, h2⟩ := h
  · exact ⟨⟨dx, _, h1⟩, _, h3.1⟩
  · exact ⟨⟨dx, _, h1⟩, _, h3.1⟩
theorem AO.put {CL CH : Addr} {H : Hp} {c : Bool} {a l : Addr} {kt ok : List Kt} {m t x : Int} (h : (c = true ∧ LA CL H a l (kt ++ [⟨m, t, x⟩])) ∨ (c = false ∧ ∃ tn, HA CH H a l tn (kt ++ [⟨m, t, x⟩]))) (ic : Inc kt) (so : Srt kt ok) (ht : ∀ e ∈ kt, e.t < t) : AO CL CH H c a l (insO (ok.map prO) m x) := by
  have e0 := List.takeWhile_append_dropWhile (p := fun e : Kt => decide (e.m ≤ m)) (l := ok)
  have e1 : ok.take (ok.takeWhile fun e => decide (e.m ≤ m)).length = ok.takeWhile fun e => decide (e.m ≤ m) := by
    conv => lhs; rw [← e0]
    rw [e0]
    have := List.take_left (l₁ := ok.takeWhile fun e => decide (e.m ≤ m)) (l₂ := ok.dropWhile fun e => decide (e.m ≤ m))
    rwa [e0] at this
  have e2 : ok.drop (ok.takeWhile fun e => decide (e.m ≤ m)).length = ok.dropWhile fun e => decide (e.m ≤ m) := by
    have := List.drop_left (l₁ := ok.takeWhile fun e => decide (e.m ≤ m)) (l₂ := ok.dropWhile fun e => decide (e.m ≤ m))
    rwa [e0] at this
  have kl : (ok.takeWhile fun e => decide (e.m ≤ m)).length ≤ ok.length := by
    have := congrArg List.length e0
    rw [List.length_append] at this; omega
  have so' := so.put (e := ⟨m, t, x⟩) (k := (ok.takeWhile fun e => decide (e.m ≤ m)).length) ht kl (fun j e hj he => ?_) (fun j e hj he => ?_)
  · refine ⟨_, _, h, ic.snoc ht, so', ?_⟩
    rw [e1, e2]
    unfold insO
    rw [List.takeWhile_map, List.dropWhile_map, List.map_append, List.map_append, List.append_assoc]
    rfl
  · have hm : e ∈ ok.takeWhile fun e => decide (e.m ≤ m) := by
      rw [← e1]
      exact List.mem_of_getElem? (i := j) (by rw [List.getElem?_take_of_lt hj]; exact he)
    have := List.all_takeWhile (p := fun e : Kt => decide (e.m ≤ m)) (l := ok)
    rw [List.all_eq_true] at this
    exact of_decide_eq_true (this e hm)
  · have hlt := (List.getElem?_eq_some_iff.mp he).1
    have k1 : (ok.takeWhile fun e => decide (e.m ≤ m)).length < ok.length := by omega
    obtain ⟨e', he'⟩ : ∃ e', ok[(ok.takeWhile fun e => decide (e.m ≤ m)).length]? = some e' := ⟨_, List.getElem?_eq_getElem k1⟩
    have h1 := so.mono he' he hj
    have h2 : ¬ e'.m ≤ m := fun z => by
      have hd : (ok.dropWhile fun e => decide (e.m ≤ m))[0]? = some e' := by rw [← e2, List.getElem?_drop]; exact he'
      cases w : ok.dropWhile fun e => decide (e.m ≤ m) with
      | nil => rw [w] at hd; cases hd
      | cons f r =>
        rw [w] at hd
        cases hd
        have := List.head?_dropWhile_not (fun e : Kt => decide (e.m ≤ m)) ok
        rw [w] at this
        simp at this
        omega
    show m < e.m
    omega
theorem mkT_bef : ∀ (O : List (Int × Int)) (tn : Int), SO O → (mkT tn O).Pairwise bef
  | [], _, _ => .nil
  | (m, x) :: O, tn, h => by
    have h := List.pairwise_cons.mp h
    rw [mkT]
    refine List.pairwise_cons.mpr ⟨fun e he => ?_, mkT_bef O _ h.2⟩
    have t1 := (mkT_t O (tn + 1) e he).1
    have hm : [e.m, e.x] ∈ (O.map fun p => [p.1, p.2]) := by
      rw [← mkT_map O (tn + 1)]
      exact List.mem_map_of_mem (f := key2) he
    obtain ⟨p, hp, ep⟩ := List.mem_map.mp hm
    simp at ep
    have := h.1 p hp
    unfold bef
    dsimp only at this ⊢
    omega
theorem mkT_pr : ∀ (O : List (Int × Int)) (tn : Int), (mkT tn O).map prO = O
  | [], _ => rfl
  | (m, x) :: O, tn => by rw [mkT, List.map_cons, mkT_pr O]; rfl
theorem AO.stood {CL CH : Addr} {H : Hp} {c : Bool} {a l : Addr} {O : List (Int × Int)} {tn : Int} (h : (c = true ∧ LA CL H a l (mkT tn O)) ∨ (c = false ∧ ∃ tn', HA CH H a l tn' (mkT tn O))) (so : SO O) : AO CL CH H c a l O := ⟨mkT tn O, mkT tn O, h, mkT_inc _ _, ⟨List.Perm.refl _, mkT_bef O tn so⟩, mkT_pr O tn⟩
theorem LA.ao {CL CH : Addr} {H : Hp} {a l : Addr} (h : LA CL H a l []) : AO CL CH H true a l [] := ⟨[], [], .inl ⟨rfl, h⟩, .nil, srt_nil, rfl⟩
theorem HA.ao {CL CH : Addr} {H : Hp} {a l : Addr} {tn : Int} (h : HA CH H a l tn []) : AO CL CH H false a l [] := ⟨[], [], .inr ⟨rfl, tn, h⟩, .nil, srt_nil, rfl⟩
/-- the least comes first -/
theorem srt_mi {kt : List Kt} {e : Kt} {r : List Kt} (ic : Inc kt) (s : Srt kt (e :: r)) : ∃ i, IsMi kt i e := by
  have hm : e ∈ kt := s.1.mem_iff.mp List.mem_cons_self
  obtain ⟨i, hi⟩ := List.mem_iff_getElem?.mp hm
  have pw := List.pairwise_cons.mp s.2
  have all : ∀ e' ∈ kt, e' = e ∨ bef e e' := fun e' he' => by
    rcases List.mem_cons.mp (s.1.mem_iff.mpr he') with z | z
    · exact .inl z
    · exact .inr (pw.1 e' z)
  refine ⟨i, hi, fun j e' hj => ?_, fun j e' hji hj => ?_⟩
  · rcases all e' (List.mem_of_getElem? hj) with z | z
    · rw [z]; exact Int.le_refl _
    · unfold bef at z; omega
  · have t := ic.at hj hi hji
    rcases all e' (List.mem_of_getElem? hj) with z | z
    · rw [z] at t; omega
    · unfold bef at z; omega
end K17

set_option Elab.async false
set_option linter.all false
set_option maxRecDepth 100000
set_option maxHeartbeats 4000000
namespace K17
open PySem L2
abbrev Ga := Bool × Addr × Addr
def flat (gs : List Ga) : List Addr := gs.flatMap fun g => [g.2.1, g.2.2]
def AllO (CL CH : Addr) (H : Hp) (gs : List Ga) (O : List (Int × Int)) : Prop := ∀ g ∈ gs, AO CL CH H g.1 g.2.1 g.2.2 O
theorem AllO.same {CL CH : Addr} {H H' : Hp} {gs : List Ga} {O : List (Int × Int)} (h : AllO CL CH H gs O) (s : Same H H') : AllO CL CH H' gs O := fun g hg => (h g hg).same s
theorem flat_mem {gs : List Ga} {g : Ga} (h : g ∈ gs) : g.2.1 ∈ flat gs ∧ g.2.2 ∈ flat gs := ⟨List.mem_flatMap.mpr ⟨g, h, by simp⟩, List.mem_flatMap.mpr ⟨g, h, by simp⟩⟩
theorem AllO.frG {CL CH : Addr} {H H' : Hp} {gs : List Ga} {O : List (Int × Int)} {cs : List Addr} (h : AllO CL CH H gs O) (f : FrG cs H H') (n : NT H cs) (d : ∀ c ∈ cs, c ∉ flat gs) : AllO CL CH H' gs O := fun g hg => (h g hg).frG f n (fun z => d _ z (flat_mem hg).1) (fun z => d _ z (flat_mem hg).2)
theorem flat_app (xs ys : List Ga) : flat (xs ++ ys) = flat xs ++ flat ys := List.flatMap_append
theorem flat_cons (g : Ga) (gs : List Ga) : flat (g :: gs) = g.2.1 :: g.2.2 :: flat gs := rfl
theorem mid_off {xs ys : List Ga} {g : Ga} (nd : (flat (xs ++ g :: ys)).Nodup) : (∀ c ∈ [g.2.1, g.2.2], c ∉ flat xs) ∧ (∀ c ∈ [g.2.1, g.2.2], c ∉ flat ys) := by
  rw [flat_app, flat_cons] at nd
  have a := List.nodup_append.mp nd
  have b := List.nodup_cons.mp a.2.1
  have c := List.nodup_cons.mp b.2
  refine ⟨fun x hx z => ?_, fun x hx z => ?_⟩
  · exact a.2.2 x z x (by rcases List.mem_cons.mp hx with e | e; (rw [e]; simp); (rw [List.mem_singleton.mp e]; simp)) rfl
  · rcases List.mem_cons.mp hx with e | e
    · rw [e] at z; exact b.1 (List.mem_cons_of_mem _ z)
    · rw [List.mem_singleton.mp e] at z; exact c.1 z
theorem AllO.mu {CL CH : Addr} {H H' : Hp} {gs : List Ga} {O : List (Int × Int)} {D : Addr} {xs ys : List V} (h : AllO CL CH H gs O) (m : Mu H D (.lst ys) H') (hD : H D = some (.lst xs)) (n : D ∉ flat gs) : AllO CL CH H' gs O := h.frG (cs := [D]) (fun c u nc hc => m.old hc (by simpa using nc)) (fun c hc zs z => by rw [List.mem_singleton.mp hc, hD] at z; cases z) (fun c hc => by rw [List.mem_singleton.mp hc]; exact n)
theorem AllO.nt {CL CH : Addr} {H : Hp} {gs : List Ga} {O : List (Int × Int)} (h : AllO CL CH H gs O) : NT H (flat gs) := fun c hc xs z => by
  obtain ⟨g, hg, hc⟩ := List.mem_flatMap.mp hc
  exact (h g hg).nt c hc xs z
theorem AllO.live {CL CH : Addr} {H : Hp} {gs : List Ga} {O : List (Int × Int)} (h : AllO CL CH H gs O) {c : Addr} (hc : c ∈ flat gs) : ∃ u, H c = some u := by
  obtain ⟨g, hg, hc⟩ := List.mem_flatMap.mp hc
  obtain ⟨⟨dx, fs, h1⟩, xs, h2⟩ := (h g hg).ins
  rcases List.mem_cons.mp hc with e | e
  · rw [e]; exact ⟨_, h1⟩
  · rw [List.mem_singleton.mp e]; exact ⟨_, h2⟩
/-! ### what is told, as data -/
def pD (p : Int × Int) : PyData := .tuple [.int p.1, .int p.2]
def oD (O : List (Int × Int)) : PyData := .list (O.map pD)
def fstO (O : List (Int × Int)) : V := match O with | [] => .non | p :: _ => .int p.1
def fstD (O : List (Int × Int)) : PyData := match O with | [] => .none | p :: _ => .int p.1
theorem fst1_pr (ok : List Kt) : fst1 ok = fstO (ok.map prO) := by cases ok <;> rfl
theorem rp_fst {K : PySem.W.Frag} {H : Hp} (O : List (Int × Int)) : Rp K H (fstO O) (fstD O) := by
  cases O with
  | nil => exact .non
  | cons p O => exact .int _
theorem rp_pr {K : PySem.W.Frag} {H : Hp} {p : Addr} {m x : Int} (h : H p = some (.tup [.int m, .int x])) : Rp K H (.ref p) (pD (m, x)) := .tup h (.cons (.int _) (.cons (.int _) .nil))
theorem rp_prs {K : PySem.W.Frag} {H : Hp} : ∀ {ps : List It} {O : List (Int × Int)}, (∀ q ∈ ps, H q.1 = some (.tup (q.2.map V.int))) → ps.map (·.2) = O.map pr2 → RpL K H (ps.map fun q => V.ref q.1) (O.map pD)
  | [], [], _, _ => .nil
  | [], _ :: _, _, h => by cases h
  | _ :: _, [], _, h => by cases h
  | q :: ps, e :: O, h, h' => by
    rw [List.map_cons, List.map_cons] at h'
    injection h' with h1 h2
    refine .cons (rp_pr ?_) (rp_prs (fun r hr => h r (List.mem_cons_of_mem _ hr)) h2)
    have := h q List.mem_cons_self
    rw [h1] at this
    exact this
theorem HL.rpO {K : PySem.W.Frag} {H : Hp} {l : Addr} {ps : List It} {O : List (Int × Int)} (h : HL H l ps) (e : ps.map (·.2) = O.map pr2) : Rp K H (.ref l) (oD O) := .lst h.1 (rp_prs h.2 e)
theorem pD_can : ∀ O : List (Int × Int), PyData.canLayAll0 (O.map pD) = true ∧ PyData.depthAll (O.map pD) ≤ 2
  | [] => ⟨rfl, by simp [PyData.depthAll]⟩
  | e :: O => by
    have ih := pD_can O
    refine ⟨?_, ?_⟩
    · have := ih.1
      simp only [List.map_cons, pD, PyData.canLayAll0, PyData.canLay0, Bool.and_true, Bool.true_and] at this ⊢
      exact this
    · have := ih.2
      simp only [List.map_cons, pD, PyData.depthAll, PyData.depth] at this ⊢
      omega
theorem sh_oD (O : List (Int × Int)) : SeqAt.shaped (oD O) = true := sh_of (pD_can O).1 (by have := (pD_can O).2; omega)
theorem sh_rep {d : PyData} (h : PyData.canLay0 d = true) (h2 : PyData.depth d ≤ 5) (n : Nat) : SeqAt.shaped (.list (List.replicate n d)) = true := by
  refine sh_of ?_ ?_
  · induction n with
    | zero => rfl
    | succ n ih => rw [List.replicate_succ, PyData.canLayAll0, ih, h]; rfl
  · induction n with
    | zero => simp [PyData.depthAll]
    | succ n ih => rw [List.replicate_succ]; simp only [PyData.depthAll]; omega
/-- what both first and in_order tell -/
def bD (O : List (Int × Int)) : PyData := .tuple [fstD O, oD O]
theorem bD_can (O : List (Int × Int)) : PyData.canLay0 (bD O) = true ∧ PyData.depth (bD O) ≤ 5 := by
  have h := pD_can O
  unfold bD oD
  refine ⟨?_, ?_⟩
  · have h1 := h.1
    cases O <;> simp only [fstD, PyData.canLay0, PyData.canLayAll0, h1, Bool.and_true, Bool.true_and] <;> rfl
  · have h2 := h.2
    cases O <;> (simp only [fstD, PyData.depth, PyData.depthAll] at h2 ⊢; omega)
theorem pD_can1 (p : Int × Int) : PyData.canLay0 (pD p) = true ∧ PyData.depth (pD p) ≤ 5 := by
  unfold pD
  exact ⟨by simp only [PyData.canLay0, PyData.canLayAll0]; rfl, by simp only [PyData.depth, PyData.depthAll]; decide⟩
theorem rp_rep {K : PySem.W.Frag} {H : Hp} {v : V} {d : PyData} (h : Rp K H v d) : ∀ n, RpL K H (List.replicate n v) (List.replicate n d)
  | 0 => .nil
  | n + 1 => .cons h (rp_rep h n)
theorem rp_rep2 {K : PySem.W.Frag} {H : Hp} {d : PyData} : ∀ {ys : List V}, (∀ v ∈ ys, Rp K H v d) → RpL K H ys (List.replicate ys.length d)
  | [], _ => .nil
  | v :: ys, h => .cons (h v List.mem_cons_self) (rp_rep2 fun u hu => h u (List.mem_cons_of_mem _ hu))
/-! ### the deeds at one of either kind -/
theorem t_above (kt : List Kt) : ∃ t : Int, ∀ e ∈ kt, e.t < t := by
  induction kt with
  | nil => exact ⟨0, fun e he => absurd he List.not_mem_nil⟩
  | cons e kt ih =>
    obtain ⟨t, h⟩ := ih
    refine ⟨max t (e.t + 1), fun f hf => ?_⟩
    rcases List.mem_cons.mp hf with z | z
    · rw [z]; omega
    · have := h f z; omega
section
variable {CL CH : Addr} {H : Hp} {c : Bool} {a l : Addr} {O : List (Int × Int)} {Q : VK}
theorem fstA (h : AO CL CH H c a l O) (q : Q (fstO O) H) :
    (∃ x y, H a = some (.ins CL x y) ∧ List.lookup (Str.ofString "first") y = none ∧ spLFst CL [.ref a] H Q E0) ∨ (∃ x y, H a = some (.ins CH x y) ∧ List.lookup (Str.ofString "first") y = none ∧ spHFst CH [.ref a] H Q E0) := by
  obtain ⟨kt, ok, ⟨rfl, h⟩ | ⟨rfl, tn, h⟩, ic, so, rfl⟩ := h
  · obtain ⟨dx, ps, ok', h1, _⟩ := id h
    exact .inl ⟨dx, _, h1, rfl, a, l, kt, rfl, h, fun ok2 so2 => by rw [← so.uniq so2, fst1_pr]; exact q⟩
  · obtain ⟨dx, ps, h1, _⟩ := id h
    exact .inr ⟨dx, _, h1, rfl, a, l, tn, kt, ok, rfl, h, so, by rw [fst1_pr]; exact q⟩
theorem ordA (h : AO CL CH H c a l O) (kn : O.length < SN) (q : ∀ r H' ps', H r = none → Same H H' → HL H' r ps' → ps'.map (·.2) = O.map pr2 → Q (.ref r) H') :
    (∃ x y, H a = some (.ins CL x y) ∧ List.lookup (Str.ofString "in_order") y = none ∧ spLOrd CL [.ref a] H Q E0) ∨ (∃ x y, H a = some (.ins CH x y) ∧ List.lookup (Str.ofString "in_order") y = none ∧ spHOrd CH [.ref a] H Q E0) := by
  obtain ⟨kt, ok, ⟨rfl, h⟩ | ⟨rfl, tn, h⟩, ic, so, rfl⟩ := h
  · obtain ⟨dx, ps, ok', h1, _⟩ := id h
    exact .inl ⟨dx, _, h1, rfl, a, l, kt, rfl, h, fun r H' ps' ok2 so2 hr g hl e => q r H' ps' hr g hl (by rw [e, so.uniq so2]; exact key2_pr _)⟩
  · obtain ⟨dx, ps, h1, _⟩ := id h
    exact .inr ⟨dx, _, h1, rfl, a, l, tn, kt, rfl, h, ic, by rw [List.length_map, so.1.length_eq] at kn; exact kn, fun r H' ps' ok2 so2 hr g hl e => q r H' ps' hr g hl (by rw [e, so.uniq so2]; exact key2_pr _)⟩
theorem takeA {m x : Int} (h : AO CL CH H c a l ((m, x) :: O)) (kn : O.length < 890) (q : ∀ H' p, FrA a l H H' → AO CL CH H' c a l O → H' p = some (.tup [.int m, .int x]) → Q (.ref p) H') :
    (∃ x y, H a = some (.ins CL x y) ∧ List.lookup (Str.ofString "take") y = none ∧ spLTake CL [.ref a] H Q E0) ∨ (∃ x y, H a = some (.ins CH x y) ∧ List.lookup (Str.ofString "take") y = none ∧ spHTake CH [.ref a] H Q E0) := by
  obtain ⟨kt, ok, hh, ic, so, eo⟩ := h
  cases ok with
  | nil => cases eo
  | cons e r =>
    rw [List.map_cons] at eo
    injection eo with e1 e2
    obtain ⟨i, im⟩ := srt_mi ic so
    obtain ⟨r', er, sr⟩ := so.take ic im
    injection er with _ er
    subst er
    have lk : kt.length = O.length + 1 := by rw [← so.1.length_eq, ← e2, List.length_cons, List.length_map]
    have e1 : e.m = m ∧ e.x = x := by unfold prO at e1; injection e1 with a b; exact ⟨a, b⟩
    obtain ⟨rfl, rfl⟩ := e1
    rcases hh with ⟨rfl, h⟩ | ⟨rfl, tn, h⟩
    · obtain ⟨dx, ps, ok', h1, _⟩ := id h
      exact .inl ⟨dx, _, h1, rfl, a, l, kt, i, e, rfl, h, ic, im, by omega, fun H' p f la hp => q H' p f ⟨_, _, .inl ⟨rfl, la⟩, ic.erase i, sr, e2⟩ hp⟩
    · obtain ⟨dx, ps, h1, _⟩ := id h
      exact .inr ⟨dx, _, h1, rfl, a, l, tn, kt, i, e, rfl, h, ic, im, by omega, fun H' p f ha hp => q H' p f ⟨_, _, .inr ⟨rfl, tn, ha⟩, ic.erase i, sr, e2⟩ hp⟩
theorem putA {m x : Int} {σ : St} {t : TA} (h : AO CL CH H c a l O) (kn : O.length < 890) (i : ∀ k : List V → Hp → Prop, k [.int m, .int x] H → t σ H k) (q : ∀ H', FrA a l H H' → AO CL CH H' c a l (insO O m x) → Q .non H') :
    (∃ x' y, H a = some (.ins CL x' y) ∧ List.lookup (Str.ofString "put") y = none ∧ t σ H fun vs H2 => spLPut CL (.ref a :: vs) H2 Q E0) ∨ (∃ x' y, H a = some (.ins CH x' y) ∧ List.lookup (Str.ofString "put") y = none ∧ t σ H fun vs H2 => spHPut CH (.ref a :: vs) H2 Q E0) := by
  obtain ⟨kt, ok, hh, ic, so, rfl⟩ := h
  rw [List.length_map, so.1.length_eq] at kn
  rcases hh with ⟨rfl, h⟩ | ⟨rfl, tn, h⟩
  · obtain ⟨dx, ps, ok', h1, _⟩ := id h
    obtain ⟨t, ht⟩ := t_above kt
    exact .inl ⟨dx, _, h1, rfl, i _ ⟨a, l, m, x, t, kt, rfl, h, ht, by omega, fun H' f la => q H' f (AO.put (.inl ⟨rfl, la⟩) ic so ht)⟩⟩
  · obtain ⟨dx, ps, h1, _, _, _, ht⟩ := id h
    exact .inr ⟨dx, _, h1, rfl, i _ ⟨a, l, m, x, tn, kt, rfl, h, by omega, fun H' f ha => q H' f (AO.put (.inr ⟨rfl, _, ha⟩) ic so fun e he => by have := ht e he; omega)⟩⟩
end
end K17

set_option Elab.async false
set_option linter.all false
set_option maxRecDepth 100000
set_option maxHeartbeats 4000000
namespace K17
open PySem L2
/-! ### an agenda by what it keeps, with turns -/
def KA (CL CH : Addr) (H : Hp) (c : Bool) (a l : Addr) (tn : Int) (kt : List Kt) : Prop := (c = true ∧ LA CL H a l kt ∧ ∀ e ∈ kt, e.t ≤ tn) ∨ (c = false ∧ HA CH H a l tn kt)
def AS (CL CH : Addr) (H : Hp) (c : Bool) (a l : Addr) (tn : Int) (M : List Kt) : Prop := ∃ kt, KA CL CH H c a l tn kt ∧ Inc kt ∧ kt.Perm M
section
variable {CL CH : Addr} {H H' : Hp} {c : Bool} {a l : Addr} {tn : Int} {M ok : List Kt} {Q : VK}
theorem KA.t {kt : List Kt} (h : KA CL CH H c a l tn kt) : ∀ e ∈ kt, e.t ≤ tn := by
  rcases h with ⟨_, _, h⟩ | ⟨_, _, _, _, _, _, _, h⟩ <;> exact h
theorem Srt.of {kt : List Kt} (h : Srt M ok) (p : kt.Perm M) : Srt kt ok := ⟨h.1.trans p.symm, h.2⟩
theorem AS.same (h : AS CL CH H c a l tn M) (g : Same H H') : AS CL CH H' c a l tn M := by
  obtain ⟨kt, h1, h2⟩ := h
  exact ⟨kt, h1.imp (fun h => ⟨h.1, h.2.1.same g, h.2.2⟩) (fun h => ⟨h.1, h.2.same g⟩), h2⟩
theorem AS.frG {cs : List Addr} (h : AS CL CH H c a l tn M) (f : FrG cs H H') (n : NT H cs) (n1 : a ∉ cs) (n2 : l ∉ cs) : AS CL CH H' c a l tn M := by
  obtain ⟨kt, h1, h2⟩ := h
  exact ⟨kt, h1.imp (fun h => ⟨h.1, h.2.1.frG f n n1 n2, h.2.2⟩) (fun h => ⟨h.1, h.2.frG f n n1 n2⟩), h2⟩
theorem AS.nt (h : AS CL CH H c a l tn M) : NT H [a, l] := by
  obtain ⟨kt, h1 | h1, h2⟩ := h
  · exact h1.2.1.nt
  · exact h1.2.nt
theorem AS.perm {M' : List Kt} (h : AS CL CH H c a l tn M) (p : M.Perm M') : AS CL CH H c a l tn M' := by
  obtain ⟨kt, h1, h2, h3⟩ := h
  exact ⟨kt, h1, h2, h3.trans p⟩
theorem AS.live (h : AS CL CH H c a l tn M) : H a ≠ none ∧ H l ≠ none := by
  obtain ⟨kt, ⟨rfl, ⟨dx, ps, ok2, h1, h3, _⟩, _⟩ | ⟨rfl, dx, ps, h1, h3, _⟩, h2⟩ := h
  · exact ⟨by rw [h1]; exact nofun, by rw [h3.1]; exact nofun⟩
  · exact ⟨by rw [h1]; exact nofun, by rw [h3.1]; exact nofun⟩
theorem fstS (h : AS CL CH H c a l tn M) (so : Srt M ok) (q : Q (fst1 ok) H) :
    (∃ x y, H a = some (.ins CL x y) ∧ List.lookup (Str.ofString "first") y = none ∧ spLFst CL [.ref a] H Q E0) ∨ (∃ x y, H a = some (.ins CH x y) ∧ List.lookup (Str.ofString "first") y = none ∧ spHFst CH [.ref a] H Q E0) := by
  obtain ⟨kt, ⟨rfl, h, _⟩ | ⟨rfl, h⟩, ic, pm⟩ := h
  · obtain ⟨dx, ps, ok', h1, _⟩ := id h
    exact .inl ⟨dx, _, h1, rfl, a, l, kt, rfl, h, fun ok2 so2 => by rw [← (so.of pm).uniq so2]; exact q⟩
  · obtain ⟨dx, ps, h1, _⟩ := id h
    exact .inr ⟨dx, _, h1, rfl, a, l, tn, kt, ok, rfl, h, so.of pm, q⟩
theorem ordS (h : AS CL CH H c a l tn M) (so : Srt M ok) (kn : M.length < SN) (q : ∀ r H' ps', H r = none → Same H H' → HL H' r ps' → ps'.map (·.2) = ok.map key2 → Q (.ref r) H') :
    (∃ x y, H a = some (.ins CL x y) ∧ List.lookup (Str.ofString "in_order") y = none ∧ spLOrd CL [.ref a] H Q E0) ∨ (∃ x y, H a = some (.ins CH x y) ∧ List.lookup (Str.ofString "in_order") y = none ∧ spHOrd CH [.ref a] H Q E0) := by
  obtain ⟨kt, ⟨rfl, h, _⟩ | ⟨rfl, h⟩, ic, pm⟩ := h
  · obtain ⟨dx, ps, ok', h1, _⟩ := id h
    exact .inl ⟨dx, _, h1, rfl, a, l, kt, rfl, h, fun r H' ps' ok2 so2 hr g hl e => q r H' ps' hr g hl (by rw [e, (so.of pm).uniq so2])⟩
  · obtain ⟨dx, ps, h1, _⟩ := id h
    exact .inr ⟨dx, _, h1, rfl, a, l, tn, kt, rfl, h, ic, by rw [pm.length_eq]; exact kn, fun r H' ps' ok2 so2 hr g hl e => q r H' ps' hr g hl (by rw [e, (so.of pm).uniq so2])⟩
theorem takeS {e : Kt} {r : List Kt} (h : AS CL CH H c a l tn M) (so : Srt M (e :: r)) (kn : M.length < 890) (q : ∀ H' p, FrA a l H H' → AS CL CH H' c a l tn r → H' p = some (.tup [.int e.m, .int e.x]) → Q (.ref p) H') :
    (∃ x y, H a = some (.ins CL x y) ∧ List.lookup (Str.ofString "take") y = none ∧ spLTake CL [.ref a] H Q E0) ∨ (∃ x y, H a = some (.ins CH x y) ∧ List.lookup (Str.ofString "take") y = none ∧ spHTake CH [.ref a] H Q E0) := by
  obtain ⟨kt, hh, ic, pm⟩ := h
  have so := so.of pm
  obtain ⟨i, im⟩ := srt_mi ic so
  obtain ⟨r', er, sr⟩ := so.take ic im
  injection er with _ er
  subst er
  have lk := pm.length_eq
  rcases hh with ⟨rfl, h, ht⟩ | ⟨rfl, h⟩
  · obtain ⟨dx, ps, ok', h1, _⟩ := id h
    exact .inl ⟨dx, _, h1, rfl, a, l, kt, i, e, rfl, h, ic, im, by omega, fun H' p f la hp => q H' p f ⟨_, .inl ⟨rfl, la, fun e he => ht e ((List.eraseIdx_sublist ..).mem he)⟩, ic.erase i, sr.1.symm⟩ hp⟩
  · obtain ⟨dx, ps, h1, _⟩ := id h
    exact .inr ⟨dx, _, h1, rfl, a, l, tn, kt, i, e, rfl, h, ic, im, by omega, fun H' p f ha hp => q H' p f ⟨_, .inr ⟨rfl, ha⟩, ic.erase i, sr.1.symm⟩ hp⟩
theorem putS {m x : Int} {σ : St} {t : TA} (h : AS CL CH H c a l tn M) (kn : M.length < 890) (i : ∀ k : List V → Hp → Prop, k [.int m, .int x] H → t σ H k) (q : ∀ H', FrA a l H H' → AS CL CH H' c a l (tn + 1) (M ++ [⟨m, tn + 1, x⟩]) → Q .non H') :
    (∃ x' y, H a = some (.ins CL x' y) ∧ List.lookup (Str.ofString "put") y = none ∧ t σ H fun vs H2 => spLPut CL (.ref a :: vs) H2 Q E0) ∨ (∃ x' y, H a = some (.ins CH x' y) ∧ List.lookup (Str.ofString "put") y = none ∧ t σ H fun vs H2 => spHPut CH (.ref a :: vs) H2 Q E0) := by
  obtain ⟨kt, hh, ic, pm⟩ := h
  have lk := pm.length_eq
  have ht := KA.t hh
  have ic' : Inc (kt ++ [⟨m, tn + 1, x⟩]) := ic.snoc fun e he => by have := ht e he; show e.t < tn + 1; omega
  rcases hh with ⟨rfl, h, _⟩ | ⟨rfl, h⟩
  · obtain ⟨dx, ps, ok', h1, _⟩ := id h
    exact .inl ⟨dx, _, h1, rfl, i _ ⟨a, l, m, x, tn + 1, kt, rfl, h, fun e he => by have := ht e he; omega, by omega, fun H' f la => q H' f ⟨_, .inl ⟨rfl, la, fun e he => by
      rcases List.mem_append.mp he with he | he
      · have := ht e he; omega
      · rw [List.mem_singleton.mp he]; exact Int.le_refl _⟩, ic', pm.append_right _⟩⟩⟩
  · obtain ⟨dx, ps, h1, _⟩ := id h
    exact .inr ⟨dx, _, h1, rfl, i _ ⟨a, l, m, x, tn, kt, rfl, h, by omega, fun H' f ha => q H' f ⟨_, .inr ⟨rfl, ha⟩, ic', pm.append_right _⟩⟩⟩
end
/-! ### turns and things -/
def th (p : Int × Int) : Int × Int := (p.1, p.2 * 7 % 1009 % 500)
def tf (p : Int × Int) : Kt := ⟨p.1, p.2 + 1, p.2 * 7 % 1009 % 500⟩
theorem tf_key (T : List (Int × Int)) : (T.map tf).map key2 = (T.map th).map pr2 := by rw [List.map_map, List.map_map]; rfl
theorem srt_tf {T S : List (Int × Int)} (p : S.Perm T) (o : S.Pairwise fun a b => HT.lexLt (pr2 a) (pr2 b) = true) : Srt (T.map tf) (S.map tf) := by
  refine ⟨p.map tf, ?_⟩
  rw [List.pairwise_map]
  exact o.imp fun {a b} h => by
    unfold pr2 at h
    rw [HT.lexLt_cons] at h
    unfold bef tf
    dsimp only
    by_cases c : a.1 = b.1
    · rw [if_pos c, HT.lexLt_cons] at h
      by_cases c2 : a.2 = b.2
      · rw [if_pos c2] at h; cases h
      · rw [if_neg c2] at h
        have := of_decide_eq_true h
        omega
    · rw [if_neg c] at h
      have := of_decide_eq_true h
      omega
theorem srt_drop {M ok : List Kt} (s : Srt M ok) (n : Nat) : Srt (ok.drop n) (ok.drop n) := ⟨List.Perm.refl _, List.Pairwise.sublist (List.drop_sublist ..) s.2⟩
section
variable {P : Program} {w : World} {K : PySem.W.Frag} {mg : Str → Option Value} {base : Heap}
def spThs : Sp := fun vs H Q _ => ∃ (lk : Addr) (ps : List It) (T : List (Int × Int)), vs = [.ref lk] ∧ HL H lk ps ∧ ps.map (·.2) = T.map pr2 ∧ T.length ≤ 900 ∧ ∀ r H' ps', H r = none → Same H H' → HL H' r ps' → ps'.map (·.2) = (T.map th).map pr2 → Q (.ref r) H'
theorem ok_ths (D : DefAt K mg "_law_things" s__law_things ["turns"]) : OkD P w K mg base 1 "_law_things" ["turns"] spThs := by
  refine D.ok sc__law_things (fun vs H Q E h => ?_) (fun f cdv A outer s H vs Q E hr h => ?_)
  · obtain ⟨_, _, _, rfl, _⟩ := h; rfl
  obtain ⟨lk, ps, T, rfl, hl, ek, tl, q⟩ := h
  have big : 100000 ≤ sizeLine := by unfold sizeLine; decide
  have lp : ps.length = T.length := by have := congrArg List.length ek; rw [List.length_map, List.length_map] at this; exact this
  have l1 := hl.1
  refine ⟨_, (pss_one (ps_ret (pe_compN (comp_scopeN 2 (N := ["moment", "turn"]) (cap := []) rfl rfl rfl rfl (by decide +kernel) rfl rfl rfl) rfl (pi_list (pv 0)) (fun _ _ _ _ => (pg_tupG 2 rfl (pgs_cons (pg_name (i := 0) (show List.Nodup (α := Str) ["moment", "turn"] by decide +kernel) rfl (Or.inl (lookup_relabel_local rfl)) (Or.inr (lookup_relabel_local rfl))) (pgs_cons (pg_name (i := 1) (show List.Nodup (α := Str) ["moment", "turn"] by decide +kernel) rfl (Or.inl (lookup_relabel_local rfl)) (Or.inr (lookup_relabel_local rfl))) pgs_nil)))) (fun _ _ _ _ => pts_nil) (fun _ _ _ _ => (pe_tupG (pa_c (pv 0) (pa_c (pe_op op_mod (pe_op op_mod (pe_op op_mul (pv 1) pe_int) pe_int) pe_int) pa_nil))))))), ?_⟩
  walk_at "rz"
  refine tcomp_in ?_
  simp only [iList]
  walk_at "rz"
  refine ⟨⟨_, SqL.of l1⟩, compJ_list l1 (by rw [List.length_map]; omega) (OdP ((T.map th).map pr2) 2) (fun H' _ => ⟨[], rfl, fun q hq => absurd hq List.not_mem_nil, rfl, rfl⟩) ?_ ?_⟩
  · rintro D i x ys σ1 H' hx at1 pv
    have il : i < T.length := by have := (List.getElem?_eq_some_iff.mp hx).1; rw [List.length_map] at this; omega
    obtain ⟨e, he⟩ : ∃ e, T[i]? = some e := ⟨_, List.getElem?_eq_getElem il⟩
    obtain ⟨p, p1, p2', p3⟩ := ps_at hl ek he
    rw [List.getElem?_map, p3] at hx
    cases hx
    have p2 : H' p = some (.tup [.int e.1, .int e.2]) := at1.same _ _ p2'
    obtain ⟨v0, v1, rfl⟩ : ∃ v0 v1, σ1 = [v0, v1] := by
      obtain ⟨_, _, _, _, h⟩ := pv
      match σ1, h with
      | [v0, v1], _ => exact ⟨v0, v1, rfl⟩
    clear p2' p1 p3 l1 ek
    walk_at "rz"
    intro p5 H4 hp5 g4 h4
    exact at1.put g4 fun H5 mu => pv.put (k := pr2 (th e)) at1.lst g4 mu h4 (by rw [List.getElem?_map, List.getElem?_map, he]; rfl) rfl
  · rintro D ys σ1 H' hD g2 hy hle ⟨ps', rfl, h2, h3, _⟩
    rw [List.length_map, lp, List.take_of_length_le (by simp)] at h3
    exact q D H' ps' hD g2 ⟨hy, h2⟩ h3
end
end K17

set_option Elab.async false
set_option linter.all false
set_option maxRecDepth 100000
set_option maxHeartbeats 4000000
namespace K17
open PySem L2
def TnI (CL CH : Addr) (c : Bool) (a l fd : Addr) (N : Nat) (b : Bool) (tn : Int) (ok : List Kt) (H : Hp) (i : Nat) (σ : St) (H' : Hp) : Prop := (∃ v4 v5 v6, σ = [some (.ref a), some (.int N), some (.bl b), some (.ref fd), v4, v5, v6]) ∧ FrA a l H H' ∧ ∃ ps, HL H' fd ps ∧ ps.map (·.2) = (ok.take i).map key2 ∧ AS CL CH H' c a l tn (ok.drop i)
def TnU (a fd : Addr) (N : Nat) (b : Bool) (m : Int) (v6 : Option V) (H1 : Hp) (σ : St) (H' : Hp) : Prop := H' = H1 ∧ ∃ v4 v5, σ = [some (.ref a), some (.int N), some (.bl b), some (.ref fd), v4, some v5, v6] ∧ (b = true → v5 = .int m)
section
variable {P : Program} {w : World} {K : PySem.W.Frag} {mg : Str → Option Value} {base : Heap}
def spTn (CL CH : Addr) : Sp := fun vs H Q _ => ∃ (c : Bool) (a l : Addr) (N : Nat) (b : Bool) (tn : Int) (M ok : List Kt), vs = [.ref a, .int N, .bl b] ∧ AS CL CH H c a l tn M ∧ Srt M ok ∧ N ≤ ok.length ∧ M.length ≤ 500 ∧ ∀ H' r ps', FrA a l H H' → H r = none → HL H' r ps' → ps'.map (·.2) = (ok.take N).map key2 → AS CL CH H' c a l tn (ok.drop N) → Q (.ref r) H'
theorem ok_tn {CL CH : Addr} (D : DefAt K mg "_law_taken" s__law_taken ["agenda", "many", "asked"]) (G_ListAgenda_first : OkM P w K mg base 1 CL "first" ["self"] (spLFst CL)) (G_HeapAgenda_first : OkM P w K mg base 1 CH "first" ["self"] (spHFst CH)) (G_ListAgenda_take : OkM P w K mg base 1 CL "take" ["self"] (spLTake CL)) (G_HeapAgenda_take : OkM P w K mg base 3 CH "take" ["self"] (spHTake CH)) (hrange : mg "range" = none) : OkD P w K mg base 4 "_law_taken" ["agenda", "many", "asked"] (spTn CL CH) := by
  refine D.ok sc__law_taken (fun vs H Q E h => ?_) (fun f cdv A outer s H vs Q E hr h => ?_)
  · obtain ⟨_, _, _, _, _, _, _, _, rfl, _⟩ := h; rfl
  obtain ⟨c, a, l, N, b, tn, M, ok, rfl, as, so, hN, hM, q⟩ := h
  have hu := hu_of hr
  have big : 100000 ≤ sizeLine := by unfold sizeLine; decide
  have lo : ok.length = M.length := so.1.length_eq
  refine ⟨_, (pss_cons (ps_set (i := 3) sc__law_taken.nd rfl (Or.inl rfl) (pe_lstG pa_nil))
  (pss_cons (ps_for PassesOwn.never rfl (pi_range1 rfl hrange (pa_c (pv 1) pa_nil)) (pg_name (i := 4) sc__law_taken.nd rfl (Or.inl rfl))
  (pss_cons (ps_set (i := 5) sc__law_taken.nd rfl (Or.inl rfl) pe_non)
  (pss_cons (ps_up (ps_if (pt_val (pv 2))
  (pss_one (ps_set (i := 5) sc__law_taken.nd rfl (Or.inl rfl) (pe_meth20G G_ListAgenda_first G_HeapAgenda_first hr (pv 0))))
  pss_nil))
  (pss_cons (ps_set (i := 6) sc__law_taken.nd rfl (Or.inl rfl) (pe_meth20G G_ListAgenda_take G_HeapAgenda_take hr (pv 0)))
  (pss_cons (ps_if (PW.pt (pw_and (pt_val (pv 2)) (pw_and1 (pt_cmpR op_ne (pe_ix ix_g (pv 6) pe_int (fun _ _ => rfl)) (pv 5) (nomark _)))))
  (pss_one (ps_ret pe_non))
  pss_nil)
  (pss_one (ps_expr (pe_appG (pv 3) (pv 6)))))))))
  (pss_one (ps_ret (pv 3))))), ?_⟩
  walk_at "rz"
  intro fd H1 hfd g1 h1
  walk_at "rz"
  refine tfor_in ?_
  simp only [iRng1]
  walk_at "rz"
  have nfa : fd ∉ [a, l] := fun z => by
    simp only [List.mem_cons, List.not_mem_nil, or_false] at z
    rcases z with e | e
    · exact as.live.1 (e ▸ hfd)
    · exact as.live.2 (e ▸ hfd)
  have asd : AS CL CH H1 c a l tn (ok.drop 0) := (as.same g1).perm so.1.symm
  refine ⟨by omega, by omega, for_range (TnI CL CH c a l fd N b tn ok H) ?_ ?_ ?_⟩
  · unfold TnI
    exact ⟨⟨_, _, _, rfl⟩, fun c u _ _ hc => g1 _ _ hc, [], ⟨h1, fun q hq => absurd hq List.not_mem_nil⟩, rfl, asd⟩
  · intro i σ H2 hi z
    unfold TnI at z
    obtain ⟨⟨v4, v5, v6, rfl⟩, f2, ps, hl2, e2, as2⟩ := z
    have hi' : i < ok.length := by omega
    obtain ⟨e, he⟩ : ∃ e, ok[i]? = some e := ⟨_, List.getElem?_eq_getElem hi'⟩
    have cu : ok.drop i = e :: ok.drop (i + 1) := by
      obtain ⟨h1, h2⟩ := List.getElem?_eq_some_iff.mp he
      rw [List.drop_eq_getElem_cons h1, h2]
    have so2 : Srt (ok.drop i) (e :: ok.drop (i + 1)) := by rw [← cu]; exact srt_drop so i
    have l2 := hl2.1
    have lps : ps.length ≤ 500 := by have := congrArg List.length e2; rw [List.length_map, List.length_map, List.length_take] at this; omega
    have ld : (ok.drop i).length ≤ 500 := by rw [List.length_drop]; omega
    clear h1 cu asd
    walk_at "rz"
    refine ⟨TnU a fd N b e.m v6 H2, ?_, ?_⟩
    · refine ite2 (fun cb => ?_) fun cb => ?_
      · walk_at "rz"
        refine fstS as2 so2 ?_
        walk_at "rz"
        unfold TnU
        exact ⟨rfl, _, _, rfl, fun _ => rfl⟩
      · walk_at "rz"
        unfold TnU
        exact ⟨rfl, _, _, rfl, fun z => by first | exact absurd z cb | cases z⟩
    · intro σ' H3 z
      unfold TnU at z
      obtain ⟨rfl, v4', v5', rfl, hv5⟩ := z
      walk_at "rz"
      refine takeS as2 so2 (by omega) fun H4 p4 f4 as4 hp4 => ?_
      have l4 := f4.g _ _ nfa l2
      have fin : ∀ H5, Mu H4 fd (.lst (ps.map (fun q => V.ref q.1) ++ [.ref p4])) H5 → HL H5 fd (ps ++ [(p4, key2 e)]) ∧ FrA a l H H5 ∧ AS CL CH H5 c a l tn (ok.drop (i + 1)) := fun H5 m5 => by
        have tu : ∀ {c xs}, H4 c = some (.tup xs) → H5 c = some (.tup xs) := fun {c xs} hc => m5.old hc (fun z => by rw [z, l4] at hc; cases hc)
        refine ⟨⟨by rw [m5.at_, List.map_append]; rfl, fun r hr => ?_⟩, fun c u n1 n2 hc => m5.old (f4 c u n1 n2 (f2 c u n1 n2 hc)) (ne_of_none hc hfd), as4.frG (cs := [fd]) (fun c u n hc => m5.old hc (by simpa using n)) (fun c hc xs z => by rw [List.mem_singleton.mp hc, l4] at z; cases z) (fun z => nfa (by rw [← List.mem_singleton.mp z]; simp)) (fun z => nfa (by rw [← List.mem_singleton.mp z]; simp))⟩
        rcases List.mem_append.mp hr with hr | hr
        · exact tu (as2.nt.k f4.g (hl2.2 r hr))
        · rw [List.mem_singleton.mp hr]; exact tu hp4
      clear l2
      walk_at "rz"
      have l4' := l4
      refine ite2 (fun cb => ?_) fun cb => ?_
      · have e5 := hv5 cb
        subst e5
        have hp4' := hp4
        walk_at "rz"
        refine ⟨by rw [List.length_map]; omega, fun H5 m5 => ?_⟩
        obtain ⟨b1, b2, b3⟩ := fin H5 m5
        walk_at "rz"
        unfold TnI
        exact ⟨⟨_, _, _, by first | rfl | (rw [cb])⟩, b2, _, b1, by rw [List.map_append, e2, take_snoc he, List.map_append]; rfl, b3⟩
      · walk_at "rz"
        refine ⟨by rw [List.length_map]; omega, fun H5 m5 => ?_⟩
        obtain ⟨b1, b2, b3⟩ := fin H5 m5
        walk_at "rz"
        unfold TnI
        exact ⟨⟨_, _, _, rfl⟩, b2, _, b1, by rw [List.map_append, e2, take_snoc he, List.map_append]; rfl, b3⟩
  · intro σ H2 z
    unfold TnI at z
    obtain ⟨⟨v4, v5, v6, rfl⟩, f2, ps, hl2, e2, as2⟩ := z
    clear h1
    walk_at "rz"
    rw [Int.toNat_natCast] at e2 as2
    exact q H2 fd ps f2 hfd hl2 e2 as2
end
end K17

set_option Elab.async false
set_option linter.all false
set_option maxRecDepth 100000
set_option maxHeartbeats 4000000
namespace K17
open PySem L2
def TuP (dk sp : Addr) (k0 : Int) (cap : List (Option V)) (f : Nat → Int) (Hs : Hp) (D : Addr) (i : Nat) (ys : List V) (σ1 : St) (H' : Hp) : Prop := (∃ v0, σ1 = v0 :: cap) ∧ Hs D = none ∧ FrG [dk] Hs H' ∧ Dk H' dk sp (k0 + i) ∧ ∃ (ps : List It) (T : List (Int × Int)), ys = ps.map (fun q => V.ref q.1) ∧ (∀ q ∈ ps, H' q.1 = some (.tup (q.2.map V.int))) ∧ ps.map (·.2) = T.map pr2 ∧ T.length = i ∧ T.map (·.2) = (List.range i).map f
theorem Dk.live {H : Hp} {dk sp : Addr} {k : Int} (h : Dk H dk sp k) : H dk ≠ none ∧ H sp ≠ none := by
  obtain ⟨_, _, h1, h2, _⟩ := h
  exact ⟨by rw [h1]; exact nofun, by rw [h2]; exact nofun⟩
theorem atI_last (L : List V) (x : V) : ∃ v, atI (L ++ [x]) ((L.length : Int) - 1) = some v ∧ v ∈ L ++ [x] := by
  by_cases h : L.length = 0
  · have e : L = [] := List.eq_nil_of_length_eq_zero h
    subst e
    exact ⟨x, rfl, by simp⟩
  · obtain ⟨v, e, m, _⟩ := atI_in (xs := L ++ [x]) (i := (L.length : Int) - 1) (by omega) (by rw [List.length_append, List.length_singleton]; omega)
    exact ⟨v, e, m⟩
theorem ne_live {H : Hp} {x y : Addr} (hx : H x ≠ none) (hy : H y = none) : x ≠ y := fun e => hx (e ▸ hy)
theorem Same.live {H H' : Hp} (g : Same H H') {x : Addr} (hx : H x ≠ none) : H' x ≠ none := by
  cases e : H x with
  | none => exact absurd e hx
  | some u => rw [g _ _ e]; exact nofun
theorem HL.live {H : Hp} {l : Addr} {ps : List It} (h : HL H l ps) : H l ≠ none := by rw [h.1]; exact nofun
/-- the lists that the law has drawn -/
structure LS (tu du le mo : Addr) (psT psD psL psM : List It) (H : Hp) : Prop where
  t : HL H tu psT
  d : HL H du psD
  l : HL H le psL
  m : HL H mo psM
theorem LS.same {tu du le mo : Addr} {psT psD psL psM : List It} {H H' : Hp} (h : LS tu du le mo psT psD psL psM H) (g : Same H H') : LS tu du le mo psT psD psL psM H' := ⟨h.t.same g, h.d.same g, h.l.same g, h.m.same g⟩
theorem LS.frG {tu du le mo : Addr} {psT psD psL psM : List It} {H H' : Hp} {cs : List Addr} (h : LS tu du le mo psT psD psL psM H) (f : FrG cs H H') (n : NT H cs) (d : ∀ c ∈ cs, c ≠ tu ∧ c ≠ du ∧ c ≠ le ∧ c ≠ mo) : LS tu du le mo psT psD psL psM H' := ⟨h.t.frG f n (fun z => (d _ z).1 rfl), h.d.frG f n (fun z => (d _ z).2.1 rfl), h.l.frG f n (fun z => (d _ z).2.2.1 rfl), h.m.frG f n (fun z => (d _ z).2.2.2 rfl)⟩
def PuI (CL CH : Addr) (c : Bool) (x lx : Addr) (tn0 : Int) (M0 : List Kt) (T : List (Int × Int)) (pre : List (Option V)) (H1 : Hp) (j : Nat) (σ : St) (H' : Hp) : Prop := (∃ v11 v12, σ = pre ++ [v11, v12]) ∧ FrA x lx H1 H' ∧ AS CL CH H' c x lx (tn0 + j) (M0 ++ (T.take j).map tf)
def MiI (pre : List (Option V)) (H1 : Hp) (σ : St) (H' : Hp) : Prop := (∃ v11 v12, σ = pre ++ [v11, v12]) ∧ Same H1 H'
def AgI (CL CH a l b l2 li tu du le mo : Addr) (psT psD psL psM : List It) (pre : List (Option V)) (i : Nat) (σ : St) (H' : Hp) : Prop := (∃ v10 v11 v12, σ = pre ++ [v10, v11, v12]) ∧ H' li = some (.lst [.ref a, .ref b]) ∧ LS tu du le mo psT psD psL psM H' ∧ (i = 0 → AS CL CH H' true a l 0 []) ∧ (i ≤ 1 → AS CL CH H' false b l2 0 [])
theorem cut_take (xs : List V) (n : Nat) (h : n ≤ xs.length) : cutV xs none (some (n : Int)) = xs.take n := by
  unfold cutV
  rw [HT.sIx_none, HT.sIx_nat, List.drop_zero, Nat.sub_zero, Nat.min_eq_left h]
theorem cut_drop (xs : List V) (n : Nat) (h : n ≤ xs.length) : cutV xs (some (n : Int)) none = xs.drop n := by
  unfold cutV
  rw [HT.sIx_none, HT.sIx_nat, Nat.min_eq_left h, List.take_of_length_le (by rw [List.length_drop]; exact Nat.le_refl _)]
theorem sort_pairs {psT qs : List It} {T : List (Int × Int)} (e : psT.map (·.2) = T.map pr2) (pq : qs.Perm psT) (po : qs.Pairwise fun q r => HT.lexLt q.2 r.2 = true) : ∃ S : List (Int × Int), S.Perm T ∧ qs.map (·.2) = S.map pr2 ∧ S.Pairwise (fun a b => HT.lexLt (pr2 a) (pr2 b) = true) := by
  obtain ⟨S, s1, s2⟩ := perm_map pr2 (pq.map fun q : It => q.2) T e
  refine ⟨S, s1, s2, ?_⟩
  have : (qs.map fun q : It => q.2).Pairwise fun a b => HT.lexLt a b = true := by rw [List.pairwise_map]; exact po
  rw [s2, List.pairwise_map] at this
  exact this
theorem pr2_inj {a b : Int × Int} (h : pr2 a = pr2 b) : a = b := by
  obtain ⟨a1, a2⟩ := a
  obtain ⟨b1, b2⟩ := b
  unfold pr2 at h
  simp at h
  rw [h.1, h.2]
theorem sort_uniq {S S' T : List (Int × Int)} (p : S.Perm T) (p' : S'.Perm T) (o : S.Pairwise (fun a b => HT.lexLt (pr2 a) (pr2 b) = true)) (o' : S'.Pairwise (fun a b => HT.lexLt (pr2 a) (pr2 b) = true)) : S = S' := by
  have e : S.map pr2 = S'.map pr2 := lt_uniq ((p.trans p'.symm).map pr2) (by rw [List.pairwise_map]; exact o) (by rw [List.pairwise_map]; exact o')
  have inj : ∀ {l m : List (Int × Int)}, l.map pr2 = m.map pr2 → l = m := by
    intro l
    induction l with
    | nil => intro m h; cases m with
      | nil => rfl
      | cons _ _ => cases h
    | cons a l ih =>
      intro m h
      cases m with
      | nil => cases h
      | cons b m =>
        rw [List.map_cons, List.map_cons] at h
        injection h with h1 h2
        rw [pr2_inj h1, ih h2]
  exact inj e
/-- the second parts are all different -/
def Df (T : List (Int × Int)) : Prop := T.Pairwise fun a b => a.2 ≠ b.2
theorem df_range {T : List (Int × Int)} {n : Nat} {f : Nat → Int} (h : T.map (·.2) = (List.range n).map f) (hf : ∀ i j, i < j → f i ≠ f j) : Df T := by
  have : (T.map (·.2)).Pairwise fun a b => a ≠ b := by
    rw [h, List.pairwise_map]
    exact List.pairwise_lt_range.imp fun {a b} h => hf a b h
  rw [List.pairwise_map] at this
  exact this
theorem df_nd {ps : List It} {T : List (Int × Int)} (e : ps.map (·.2) = T.map pr2) (d : Df T) : ps.Pairwise fun q r => q.2 ≠ r.2 := by
  have : (T.map pr2).Pairwise fun a b => a ≠ b := by
    rw [List.pairwise_map]
    exact d.imp fun {a b} h z => h (by rw [pr2_inj z])
  rw [← e, List.pairwise_map] at this
  exact this
theorem df_perm {S T : List (Int × Int)} (p : S.Perm T) (d : Df T) : Df S := (p.pairwise_iff fun h => Ne.symm h).mpr d
theorem len2 {ps : List It} {T : List (Int × Int)} (e : ps.map (·.2) = T.map pr2) : ∀ q ∈ ps, q.2.length = 2 := fun q hq => by
  have : q.2 ∈ T.map pr2 := by rw [← e]; exact List.mem_map_of_mem (f := fun q : It => q.2) hq
  obtain ⟨p, _, hp⟩ := List.mem_map.mp this
  rw [← hp]; rfl
theorem srt_ex : ∀ (n : Nat) (kt : List Kt), kt.length = n → Inc kt → ∃ ok, Srt kt ok := by
  intro n
  induction n with
  | zero => intro kt h _; rw [List.eq_nil_of_length_eq_zero h]; exact ⟨[], srt_nil⟩
  | succ n ih =>
    intro kt h ic
    obtain ⟨kt', e, rfl⟩ : ∃ kt' e, kt = kt' ++ [e] := by
      have hne : kt ≠ [] := fun z => by rw [z] at h; cases h
      exact ⟨kt.dropLast, kt.getLast hne, (List.dropLast_concat_getLast hne).symm⟩
    have ic := List.pairwise_append.mp ic
    obtain ⟨ok, so⟩ := ih kt' (by simpa using h) ic.1
    have ht : ∀ a ∈ kt', a.t < e.t := fun a ha => ic.2.2 a ha e List.mem_cons_self
    have e0 := List.takeWhile_append_dropWhile (p := fun f : Kt => decide (f.m ≤ e.m)) (l := ok)
    have e1 : ok.take (ok.takeWhile fun f => decide (f.m ≤ e.m)).length = ok.takeWhile fun f => decide (f.m ≤ e.m) := by
      have := List.take_left (l₁ := ok.takeWhile fun f => decide (f.m ≤ e.m)) (l₂ := ok.dropWhile fun f => decide (f.m ≤ e.m))
      rwa [e0] at this
    have e2 : ok.drop (ok.takeWhile fun f => decide (f.m ≤ e.m)).length = ok.dropWhile fun f => decide (f.m ≤ e.m) := by
      have := List.drop_left (l₁ := ok.takeWhile fun f => decide (f.m ≤ e.m)) (l₂ := ok.dropWhile fun f => decide (f.m ≤ e.m))
      rwa [e0] at this
    have kl : (ok.takeWhile fun f => decide (f.m ≤ e.m)).length ≤ ok.length := by
      have := congrArg List.length e0
      rw [List.length_append] at this; omega
    refine ⟨_, so.put ht kl (fun j a hj ha => ?_) (fun j a hj ha => ?_)⟩
    · have hm : a ∈ ok.takeWhile fun f => decide (f.m ≤ e.m) := by
        rw [← e1]
        exact List.mem_of_getElem? (i := j) (by rw [List.getElem?_take_of_lt hj]; exact ha)
      have := List.all_takeWhile (p := fun f : Kt => decide (f.m ≤ e.m)) (l := ok)
      rw [List.all_eq_true] at this
      exact of_decide_eq_true (this a hm)
    · have hlt := (List.getElem?_eq_some_iff.mp ha).1
      have k1 : (ok.takeWhile fun f => decide (f.m ≤ e.m)).length < ok.length := by omega
      obtain ⟨e', he'⟩ : ∃ e', ok[(ok.takeWhile fun f => decide (f.m ≤ e.m)).length]? = some e' := ⟨_, List.getElem?_eq_getElem k1⟩
      have h1 := so.mono he' ha hj
      have h2 : ¬ e'.m ≤ e.m := fun z => by
        have hd : (ok.dropWhile fun f => decide (f.m ≤ e.m))[0]? = some e' := by rw [← e2, List.getElem?_drop]; exact he'
        cases w : ok.dropWhile fun f => decide (f.m ≤ e.m) with
        | nil => rw [w] at hd; cases hd
        | cons f r =>
          rw [w] at hd
          cases hd
          have := List.head?_dropWhile_not (fun f : Kt => decide (f.m ≤ e.m)) ok
          rw [w] at this
          simp at this
          omega
      omega
end K17

set_option Elab.async false
set_option linter.all false
set_option maxRecDepth 100000
set_option maxHeartbeats 4000000
namespace K17
open PySem L2
section
variable {P : Program} {w : World} {K : PySem.W.Frag} {mg : Str → Option Value} {base : Heap}
theorem ok_law {CL CH : Addr} {fa : Addr} {fd : FuncData} (F : Fun K "law" "law" s_law fa fd) (G_ListAgenda : OkC P w K mg base 1 "ListAgenda" CL ["self"] (spLI CL)) (G_HeapAgenda : OkC P w K mg base 1 "HeapAgenda" CH ["self"] (spHI CH)) (G__law_next : OkD P w K mg base 1 "_law_next" ["deck"] spNx) (G__law_taken : OkD P w K mg base 4 "_law_taken" ["agenda", "many", "asked"] (spTn CL CH)) (G__law_things : OkD P w K mg base 1 "_law_things" ["turns"] spThs) (G_ListAgenda_first : OkM P w K mg base 1 CL "first" ["self"] (spLFst CL)) (G_HeapAgenda_first : OkM P w K mg base 1 CH "first" ["self"] (spHFst CH)) (G_ListAgenda_put : OkM P w K mg base 1 CL "put" ["self", "moment", "thing"] (spLPut CL)) (G_HeapAgenda_put : OkM P w K mg base 3 CH "put" ["self", "moment", "thing"] (spHPut CH)) (G_ListAgenda_in_order : OkM P w K mg base 1 CL "in_order" ["self"] (spLOrd CL)) (G_HeapAgenda_in_order : OkM P w K mg base 1 CH "in_order" ["self"] (spHOrd CH)) (hrange : mg "range" = none) (hlen : mg "len" = none) (hsorted : mg "sorted" = none) : FnOk P w K mg base CX0 6 fa fd ["script"] (spLaw K) := by
  refine F.ok sc_law (fun vs H Q E h => ?_) (fun cdv A outer s H vs Q E hr h => ?_)
  · obtain ⟨a, ns, rfl, _⟩ := h; rfl
  obtain ⟨sc, ns, rfl, hS, h63, q⟩ := h
  have hu := hu_of hr
  have hu64 := hr.units
  have big : 100000 ≤ sizeLine := by unfold sizeLine; decide
  have sn : 300 ≤ SN := by decide
  have snh := sn_hi
  refine ⟨_, (pss_cons (ps_set (i := 1) sc_law.nd rfl (Or.inr rfl) (pe_lstG (pa_c (pe_slice sl_k (pv 0) po_none (po_some pe_int)) (pa_c pe_int pa_nil))))
  (pss_cons (ps_set (i := 2) sc_law.nd rfl (Or.inr rfl) (pe_op op_mod (pe_def G__law_next hr rfl (pa_c (pv 1) pa_nil)) (pe_ix ix_g (pe_lstG (pa_c pe_int (pa_c pe_int (pa_c pe_int (pa_c pe_int pa_nil))))) (pe_op op_mod (pe_def G__law_next hr rfl (pa_c (pv 1) pa_nil)) pe_int) (fun _ _ => rfl))))
  (pss_cons (ps_set (i := 3) sc_law.nd rfl (Or.inr rfl) (pe_ix ix_g (pe_lstG (pa_c pe_int (pa_c pe_int (pa_c pe_int pa_nil)))) (pe_op op_mod (pe_def G__law_next hr rfl (pa_c (pv 1) pa_nil)) pe_int) (fun _ _ => rfl)))
  (pss_cons (ps_set (i := 4) sc_law.nd rfl (Or.inl rfl) (pe_cmpR op_eq (pe_op op_mod (pe_def G__law_next hr rfl (pa_c (pv 1) pa_nil)) pe_int) pe_int (nomark _)))
  (pss_cons (ps_setCN (i := 5) sc_law.nd rfl (Or.inl rfl) (comp_scopeN 1 (N := ["k", "deck", "most"]) (cap := [1, 3]) rfl rfl rfl rfl (by decide +kernel) rfl rfl rfl) rfl (pi_range1 rfl hrange (pa_c (pv 2) pa_nil)) (fun _ _ _ _ => (pg_name (i := 0) (show List.Nodup (α := Str) ["k", "deck", "most"] by decide +kernel) rfl (Or.inl (lookup_relabel_local rfl)) (Or.inr (lookup_relabel_local rfl)))) (fun _ _ _ _ => pts_nil) (fun _ _ _ _ => (pe_tupG (pa_c (pe_op op_mod (pe_def G__law_next hr rfl (pa_c (pv 1) pa_nil)) (pv 2)) (pa_c (pv 0) pa_nil)))))
  (pss_cons (ps_set (i := 6) sc_law.nd rfl (Or.inl rfl) (pe_slice sl_g (pe_cB (call_sortedO rfl) rfl hsorted (by decide +kernel) (pa_c (pv 5) pa_nil)) po_none (po_some (pe_op op_fdiv (pv 2) pe_int))))
  (pss_cons (ps_set (i := 7) sc_law.nd rfl (Or.inl rfl) (pe_slice sl_g (pe_cB (call_sortedO rfl) rfl hsorted (by decide +kernel) (pa_c (pv 5) pa_nil)) (po_some (pe_op op_fdiv (pv 2) pe_int)) po_none))
  (pss_cons (ps_set (i := 8) sc_law.nd rfl (Or.inr rfl) (pe_ix ix_g (pe_ix ix_g (pe_op op_catG (pv 6) (pe_lstG (pa_c (pe_tupG (pa_c pe_int (pa_c pe_int pa_nil))) pa_nil))) (pe_op op_sub (pe_cB call_len_seq rfl hlen PySem.boot_len (pa_c (pv 6) pa_nil)) pe_int) (fun _ _ => rfl)) pe_int (fun _ _ => rfl)))
  (pss_cons (ps_setCN (i := 9) sc_law.nd rfl (Or.inl rfl) (comp_scopeN 1 (N := ["k", "deck", "many", "most", "last"]) (cap := [1, 2, 3, 8]) rfl rfl rfl rfl (by decide +kernel) rfl rfl rfl) rfl (pi_range1 rfl hrange (pa_c (pe_op op_fdiv (pv 2) pe_int) pa_nil)) (fun _ _ _ _ => (pg_name (i := 0) (show List.Nodup (α := Str) ["k", "deck", "many", "most", "last"] by decide +kernel) rfl (Or.inl (lookup_relabel_local rfl)) (Or.inr (lookup_relabel_local rfl)))) (fun _ _ _ _ => pts_nil) (fun _ _ _ _ => (pe_tupG (pa_c (pe_op op_add (pv 4) (pe_op op_mod (pe_def G__law_next hr rfl (pa_c (pv 1) pa_nil)) (pv 3))) (pa_c (pe_op op_add (pv 2) (pv 0)) pa_nil)))))
  (pss_cons (ps_for PassesOwn.never rfl (pi_list (pe_lstG (pa_c (pe_make0G G_ListAgenda hr rfl) (pa_c (pe_make0G G_HeapAgenda hr rfl) pa_nil)))) (pg_name (i := 10) sc_law.nd rfl (Or.inl rfl))
  (pss_cons (ps_for PassesOwn.never rfl (pi_list (pe_def G__law_things hr rfl (pa_c (pv 5) pa_nil))) (pg_tupG 2 rfl (pgs_cons (pg_name (i := 11) sc_law.nd rfl (Or.inl rfl)) (pgs_cons (pg_name (i := 12) sc_law.nd rfl (Or.inl rfl)) pgs_nil)))
  (pss_one (ps_expr (pe_meth2G G_ListAgenda_put G_HeapAgenda_put hr (pv 10) (pa_c (pv 11) (pa_c (pv 12) pa_nil))))))
  (pss_cons (ps_if (pt_cmpR (op_neD hu64) (pe_def G__law_taken hr rfl (pa_c (pv 10) (pa_c (pe_op op_fdiv (pv 2) pe_int) (pa_c (pv 4) pa_nil)))) (pe_def G__law_things hr rfl (pa_c (pv 6) pa_nil)) (nomark _))
  (pss_one (ps_ret pe_bl))
  pss_nil)
  (pss_cons (ps_up (ps_if (PW.pt (pw_and (pt_val (pv 4)) (pw_and1 (pt_cmpR (op_neD hu64) (pe_meth20G G_ListAgenda_in_order G_HeapAgenda_in_order hr (pv 10)) (pe_def G__law_things hr rfl (pa_c (pv 7) pa_nil)) (nomark _)))))
  (pss_one (ps_ret pe_bl))
  pss_nil))
  (pss_cons (ps_for PassesOwn.never rfl (pi_list (pe_def G__law_things hr rfl (pa_c (pv 9) pa_nil))) (pg_tupG 2 rfl (pgs_cons (pg_name (i := 11) sc_law.nd rfl (Or.inl rfl)) (pgs_cons (pg_name (i := 12) sc_law.nd rfl (Or.inl rfl)) pgs_nil)))
  (pss_one (ps_expr (pe_meth2G G_ListAgenda_put G_HeapAgenda_put hr (pv 10) (pa_c (pv 11) (pa_c (pv 12) pa_nil))))))
  (pss_cons (ps_if (pt_cmpR (op_neD hu64) (pe_def G__law_taken hr rfl (pa_c (pv 10) (pa_c (pe_op op_add (pe_cB call_len_seq rfl hlen PySem.boot_len (pa_c (pv 7) pa_nil)) (pe_cB call_len_seq rfl hlen PySem.boot_len (pa_c (pv 9) pa_nil))) (pa_c (pv 4) pa_nil)))) (pe_def G__law_things hr rfl (pa_c (pe_cB (call_sortedO rfl) rfl hsorted (by decide +kernel) (pa_c (pe_op op_catG (pv 7) (pv 9)) pa_nil)) pa_nil)) (nomark _))
  (pss_one (ps_ret pe_bl))
  pss_nil)
  (pss_one (ps_if (PW.pt (pw_or (pt_cmpR op_notN (pe_meth20G G_ListAgenda_first G_HeapAgenda_first hr (pv 10)) pe_non (nomark _)) (pw_or1 (pt_cmpR (op_neD hu64) (pe_meth20G G_ListAgenda_in_order G_HeapAgenda_in_order hr (pv 10)) (pe_lstG pa_nil) (nomark _)))))
  (pss_one (ps_ret pe_bl))
  pss_nil))))))))
  (pss_one (ps_ret pe_bl)))))))))))), ?_⟩
  walk_at "rz"
  refine ⟨sc, _, rfl, hS, fun sp H1 hsp g1 h1 => ?_⟩
  have ec : cutV (ns.map V.int) none (some 63) = ns.map V.int := by
    unfold cutV HT.sIx
    simp only [List.length_map]
    rw [show min (Int.toNat 63) ns.length = ns.length by omega]
    simp
    exact List.take_of_length_le (by rw [List.length_map]; exact Nat.le_refl _)
  rw [ec] at h1
  walk_at "rz"
  intro dk H2 hdk g2 h2
  have D2 : Dk H2 dk sp 0 := ⟨ns, 0, h2, g2 _ _ h1, ⟨by decide, by decide⟩, h63⟩
  clear h1 h2
  walk_at "rz"
  refine ⟨dk, sp, 0, rfl, D2, by decide, fun m1 H3 m10 m11 f3 D3 => ?_⟩
  walk_at "rz"
  intro p4 H4 hp4 g4 h4
  walk_at "rz"
  refine ⟨dk, sp, _, rfl, D3.same g4, by decide, fun m2 H5 m20 m21 f5 D5 => ?_⟩
  have h5 := f5.old h4 (D3.off hp4)
  clear h4
  walk_at "rz"
  obtain ⟨v, ev, hv, _⟩ := atI_in (xs := [V.int 1, V.int 20, V.int 201, V.int 201]) (Int.emod_nonneg m2 (show (4 : Int) ≠ 0 by decide)) (by simp; exact Int.emod_lt_of_pos m2 (by decide))
  obtain ⟨mo, rfl, mo0, mo1⟩ : ∃ mo, v = .int mo ∧ 0 < mo ∧ mo ≤ 201 := by
    simp at hv
    rcases hv with rfl | rfl | rfl <;> exact ⟨_, rfl, by decide, by decide⟩
  have y0 := Int.emod_nonneg m1 (show mo ≠ 0 by omega)
  have y1 := Int.emod_lt_of_pos m1 mo0
  obtain ⟨N, eN⟩ : ∃ N : Nat, m1 % mo = N := ⟨(m1 % mo).toNat, by omega⟩
  have hN : N ≤ 200 := by omega
  refine ⟨_, ev, ?_⟩
  clear h5 ev hv
  have F5 : FrG [dk] H2 H5 := (f3.same g4).trans f5
  walk_at "rz"
  intro p6 H6 hp6 g6 h6
  walk_at "rz"
  refine ⟨dk, sp, _, rfl, D5.same g6, by decide, fun m3 H7 m30 m31 f7 D7 => ?_⟩
  have h7 := f7.old h6 (D5.off hp6)
  clear h6
  walk_at "rz"
  obtain ⟨v, ev, hv, _⟩ := atI_in (xs := [V.int 3, V.int 40, V.int 1000]) (Int.emod_nonneg m3 (show (3 : Int) ≠ 0 by decide)) (by simp; exact Int.emod_lt_of_pos m3 (by decide))
  obtain ⟨ms, rfl, ms0⟩ : ∃ ms, v = .int ms ∧ 0 < ms := by
    simp at hv
    rcases hv with rfl | rfl | rfl <;> exact ⟨_, rfl, by decide⟩
  refine ⟨_, ev, ?_⟩
  clear h7 ev hv
  walk_at "rz"
  refine ⟨dk, sp, _, rfl, D7, by decide, fun m4 H8 m40 m41 f8 D8 => ?_⟩
  have F8 : FrG [dk] H2 H8 := (((F5.same g6).trans f7).trans f8)
  walk_at "rz"
  generalize decide (m4 % 2 = 0) = b
  refine tcomp_in ?_
  simp only [iRng1]
  walk_at "rz"
  rw [Int.toNat_natCast]
  refine ⟨by omega, by omega, compM_range (TuP dk sp 4 [some (.ref dk), some (.int ms)] (fun j => (j : Int)) H8) ?_ ?_ ?_⟩
  · intro C H' hC g9 h9
    unfold TuP
    exact ⟨⟨_, rfl⟩, hC, FrG.of g9, (D8.same g9).mono (by omega), [], [], rfl, fun q hq => absurd hq List.not_mem_nil, rfl, rfl, rfl⟩
  · intro C i ys σ1 H9 hi hy hle z
    unfold TuP at z
    obtain ⟨⟨v0, rfl⟩, hC, Fi, Di, ps, T, rfl, hps, ep, tl, tr⟩ := z
    walk_at "rz"
    refine ⟨dk, sp, _, rfl, Di, by omega, fun m5 H10 m50 m51 f10 D10 => ?_⟩
    walk_at "rz"
    intro p11 H11 hp11 g11 h11
    have nC : C ∉ [dk] := fun z => by rw [List.mem_singleton.mp z] at hC; exact D8.live.1 hC
    have hy11 := g11 _ _ (f10 _ _ nC hy)
    refine putM (by rw [List.length_map, List.length_range]; exact hi) (by rw [List.length_map, List.length_range]; omega) hy11 hle fun H12 mu => ?_
    unfold TuP
    have tu : ∀ {c xs}, H11 c = some (.tup xs) → H12 c = some (.tup xs) := fun {c xs} hc => mu.old hc (fun z => by rw [z, hy11] at hc; cases hc)
    have D11 := D10.same g11
    refine ⟨⟨_, rfl⟩, hC, fun c u nc hc => mu.old (g11 _ _ (f10 c u nc (Fi c u nc hc))) (ne_of_none hc hC), ?_, ps ++ [(p11, [m5 % ms, (i : Int)])], T ++ [(m5 % ms, (i : Int))], by rw [List.map_append]; rfl, fun r hr => ?_, by rw [List.map_append, List.map_append, ep]; rfl, by rw [List.length_append, tl]; rfl, ?_⟩
    · refine (D11.fr (cs := [C]) (fun c u n hc => mu.old hc (by simpa using n)) (fun z => nC (by simp at z ⊢; exact z.symm)) (fun z => ?_)).mono (by omega)
      rw [← List.mem_singleton.mp z] at hC
      exact D8.live.2 hC
    · rcases List.mem_append.mp hr with hr | hr
      · exact tu (g11 _ _ (Di.nt.k f10 (hps r hr)))
      · rw [List.mem_singleton.mp hr]; exact tu h11
    · rw [List.map_append, tr, List.range_succ, List.map_append]; rfl
  · intro tu ys σ1 H9 hy z
    unfold TuP at z
    obtain ⟨⟨v0, rfl⟩, hC, F9, D9, psT, T, rfl, hps, eT, tlT, trT⟩ := z
    have hlT : HL H9 tu psT := ⟨hy, hps⟩
    have dT : Df T := df_range trT (fun i j h => by omega)
    have lT : psT.length = N := by have := congrArg List.length eT; rw [List.length_map, List.length_map] at this; omega
    refine ⟨tu, rfl, psT, 2, trivial, hy, hps, by decide, len2 eT, df_nd eT dT, by omega, fun S1 H10 qs hS g10 hS1 pq po => ?_⟩
    obtain ⟨S0, pS, eS, oS⟩ := sort_pairs eT pq po
    have lq : qs.length = N := by rw [pq.length_eq]; exact lT
    have lS : S0.length = N := by rw [pS.length_eq]; exact tlT
    have hlS : HL H10 S1 qs := ⟨hS1, fun r hr => g10 _ _ (hps r (pq.mem_iff.mp hr))⟩
    have hlT10 := hlT.same g10
    have hy10 := hlT10.1
    clear hy
    walk_at "rz"
    generalize decide (V.int (m4 % 2) = V.int 0) = b'
    have en : m1 % mo / 2 = ((N / 2 : Nat) : Int) := by rw [eN]; omega
    rw [en, cut_take _ _ (by rw [List.length_map]; omega), ← List.map_take]
    intro du H11 hdu g11 h11
    have hlD : HL H11 du (qs.take (N / 2)) := ⟨h11, fun r hr => g11 _ _ (hlS.2 r (List.mem_of_mem_take hr))⟩
    have eD : (qs.take (N / 2)).map (·.2) = (S0.take (N / 2)).map pr2 := by rw [List.map_take, eS, List.map_take]
    have hlT11 := hlT10.same g11
    have hy11 := hlT11.1
    clear hy10 h11
    walk_at "rz"
    refine ⟨psT, rfl, 2, hlT11.2, by decide, len2 eT, df_nd eT dT, by omega, fun S2 H12 qs2 hS2 g12 hS12 pq2 po2 => ?_⟩
    obtain ⟨S0', pS', eS', oS'⟩ := sort_pairs eT pq2 po2
    obtain rfl := sort_uniq pS pS' oS oS'
    have lq2 : qs2.length = N := by rw [pq2.length_eq]; exact lT
    have hlS2 : HL H12 S2 qs2 := ⟨hS12, fun r hr => g12 _ _ (hlT11.2 r (pq2.mem_iff.mp hr))⟩
    clear hy11
    walk_at "rz"
    rw [en, cut_drop _ _ (by rw [List.length_map]; omega), ← List.map_drop]
    intro le H13 hle' g13 h13
    have hlL : HL H13 le (qs2.drop (N / 2)) := ⟨h13, fun r hr => g13 _ _ (hlS2.2 r (List.mem_of_mem_drop hr))⟩
    have eL : (qs2.drop (N / 2)).map (·.2) = (S0.drop (N / 2)).map pr2 := by rw [List.map_drop, eS', List.map_drop]
    have hlD13 := (hlD.same g12).same g13
    have y13 := hlD13.1
    clear h13 hS1 hS12
    walk_at "rz"
    intro p14 H14 hp14 g14 h14
    have y14 := g14 _ _ y13
    clear y13
    walk_at "rz"
    intro p15 H15 hp15 g15 h15
    have y15 := g15 _ _ y14
    have t15 := g15 _ _ h14
    clear y14 h14
    walk_at "rz"
    refine ⟨by rw [List.length_map, List.length_take]; omega, fun p16 H16 hp16 g16 h16 => ?_⟩
    have y16 := g16 _ _ y15
    have t16 := g16 _ _ t15
    clear y15 t15 h15
    walk_at "rz"
    refine ⟨_, .inl (SqL.of y16), ?_⟩
    walk_at "rz"
    obtain ⟨lv, elv, mlv⟩ := atI_last (List.map (fun q : It => V.ref q.1) (List.take (N / 2) qs)) (V.ref p14)
    have S1116 : Same H11 H16 := g12.trans (g13.trans (g14.trans (g15.trans g16)))
    obtain ⟨pl, la, lb, rfl, hpl⟩ : ∃ pl la lb, lv = .ref pl ∧ H16 pl = some (.tup [.int la, .int lb]) := by
      rcases List.mem_append.mp mlv with m | m
      · obtain ⟨q', hq', rfl⟩ := List.mem_map.mp m
        have hk : q'.2 ∈ (S0.take (N / 2)).map pr2 := by rw [← eD]; exact List.mem_map_of_mem (f := fun q : It => q.2) hq'
        obtain ⟨pp, _, ep⟩ := List.mem_map.mp hk
        have := S1116 _ _ (hlD.2 q' hq')
        rw [← ep] at this
        exact ⟨_, _, _, rfl, this⟩
      · rw [List.mem_singleton.mp m]
        exact ⟨_, _, _, rfl, t16⟩
    refine ⟨_, elv, ?_⟩
    clear elv mlv
    walk_at "rz"
    have S916 : Same H9 H16 := g10.trans (g11.trans S1116)
    have D16 := D9.same S916
    have hlT16 := hlT.same S916
    have hlD16 := hlD.same S1116
    have hlL16 := hlL.same (g14.trans (g15.trans g16))
    have ld8 := D8.live.1
    have ntu : tu ∉ [dk] := fun z => ne_live ld8 hC (List.mem_singleton.mp z).symm
    have ndu : du ∉ [dk] := fun z => ne_live (Same.live g10 D9.live.1) hdu (List.mem_singleton.mp z).symm
    have nle : le ∉ [dk] := fun z => ne_live (Same.live (g10.trans (g11.trans g12)) D9.live.1) hle' (List.mem_singleton.mp z).symm
    clear y16 t16 h16 hpl
    refine tcomp_in ?_
    simp only [iRng1]
    walk_at "rz"
    have e3 : (N : Int) / 3 = ((N / 3 : Nat) : Int) := by omega
    rw [e3, Int.toNat_natCast]
    refine ⟨by omega, by omega, compM_range (TuP dk sp (4 + N) [some (.ref dk), some (.int N), some (.int ms), some (.int la)] (fun j => (N : Int) + j) H16) ?_ ?_ ?_⟩
    · intro C H' hC' g17 h17
      unfold TuP
      exact ⟨⟨_, rfl⟩, hC', FrG.of g17, (D16.same g17).mono (by omega), [], [], rfl, fun q hq => absurd hq List.not_mem_nil, rfl, rfl, rfl⟩
    · intro C i ys σ1 H9 hi hy hle z
      unfold TuP at z
      obtain ⟨⟨v0, rfl⟩, hC', Fi, Di, ps, T', rfl, hps', ep, tl, tr⟩ := z
      walk_at "rz"
      refine ⟨dk, sp, _, rfl, Di, by omega, fun m5 H10 m50 m51 f10 D10 => ?_⟩
      walk_at "rz"
      intro p11 H11 hp11 g11 h11
      have nC : C ∉ [dk] := fun z => by rw [List.mem_singleton.mp z] at hC'; exact D16.live.1 hC'
      have hy11 := g11 _ _ (f10 _ _ nC hy)
      refine putM (by rw [List.length_map, List.length_range]; exact hi) (by rw [List.length_map, List.length_range]; omega) hy11 hle fun H12 mu => ?_
      unfold TuP
      have tu : ∀ {c xs}, H11 c = some (.tup xs) → H12 c = some (.tup xs) := fun {c xs} hc => mu.old hc (fun z => by rw [z, hy11] at hc; cases hc)
      have D11 := D10.same g11
      refine ⟨⟨_, rfl⟩, hC', fun c u nc hc => mu.old (g11 _ _ (f10 c u nc (Fi c u nc hc))) (ne_of_none hc hC'), ?_, ps ++ [(p11, [la + m5 % ms, (N : Int) + (i : Int)])], T' ++ [(la + m5 % ms, (N : Int) + (i : Int))], by rw [List.map_append]; rfl, fun r hr => ?_, by rw [List.map_append, List.map_append, ep]; rfl, by rw [List.length_append, tl]; rfl, ?_⟩
      · refine (D11.fr (cs := [C]) (fun c u n hc => mu.old hc (by simpa using n)) (fun z => nC (by simp at z ⊢; exact z.symm)) (fun z => ?_)).mono (by omega)
        rw [← List.mem_singleton.mp z] at hC'
        exact D16.live.2 hC'
      · rcases List.mem_append.mp hr with hr | hr
        · exact tu (g11 _ _ (Di.nt.k f10 (hps' r hr)))
        · rw [List.mem_singleton.mp hr]; exact tu h11
      · rw [List.map_append, tr, List.range_succ, List.map_append]; rfl
    · intro mr ys σ1 H17 hy z
      unfold TuP at z
      obtain ⟨⟨v0', rfl⟩, hC', F17, D17, psM, Tm, rfl, hpsM, eM, tlM, trM⟩ := z
      have LS17 : LS tu du le mr psT (qs.take (N / 2)) (qs2.drop (N / 2)) psM H17 := ⟨hlT16.frG F17 D16.nt ntu, hlD16.frG F17 D16.nt ndu, hlL16.frG F17 D16.nt nle, hy, hpsM⟩
      clear hy
      refine tfor_in ?_
      simp only [iList]
      walk_at "rz"
      intro a dx H18 ha hdx g18 a18 d18
      refine ⟨a, dx, rfl, a18, fun l H19 hl f19 la19 => ⟨rfl, ?_⟩⟩
      walk_at "rz"
      intro b2 dx2 H20 hb hdx2 g20 b20 d20
      refine ⟨b2, dx2, rfl, b20, fun l2 H21 hl2 f21 ha21 => ⟨rfl, ?_⟩⟩
      walk_at "rz"
      intro li H22 hli g22 h22
      walk_at "rz"
      have k1719 : ∀ {c u}, H17 c = some u → H19 c = some u := fun {c u} hc => f19 c u (ne_of_none hc ha) (g18 _ _ hc)
      have k1921 : ∀ {c u}, H19 c = some u → H21 c = some u := fun {c u} hc => f21 c u (ne_of_none hc hb) (g20 _ _ hc)
      have S1719 : Same H17 H19 := fun c u hc => k1719 hc
      have S1921 : Same H19 H21 := fun c u hc => k1921 hc
      have S1722 : Same H17 H22 := (S1719.trans S1921).trans g22
      have as19 : AS CL CH H19 true a l 0 [] := ⟨[], .inl ⟨rfl, la19, fun e he => absurd he List.not_mem_nil⟩, .nil, List.Perm.refl _⟩
      have as21 : AS CL CH H21 false b2 l2 0 [] := ⟨[], .inr ⟨rfl, ha21⟩, .nil, List.Perm.refl _⟩
      have asA := (as19.same S1921).same g22
      have asB := as21.same g22
      have LS22 := LS17.same S1722
      have la18 : H18 a ≠ none := by rw [a18]; exact nofun
      have lb20 : H20 b2 ≠ none := by rw [b20]; exact nofun
      have off17 : ∀ z, H17 z ≠ none → a ≠ z ∧ l ≠ z ∧ b2 ≠ z ∧ l2 ≠ z ∧ li ≠ z := fun z hz => ⟨(ne_live hz ha).symm, (ne_live (Same.live g18 hz) hl).symm, (ne_live (Same.live S1719 hz) hb).symm, (ne_live (Same.live g20 (Same.live S1719 hz)) hl2).symm, (ne_live (Same.live S1921 (Same.live S1719 hz)) hli).symm⟩
      have oT := off17 tu LS17.t.live
      have oD := off17 du LS17.d.live
      have oL := off17 le LS17.l.live
      have oM := off17 mr LS17.m.live
      have off19 : ∀ z, H19 z ≠ none → b2 ≠ z ∧ l2 ≠ z ∧ li ≠ z := fun z hz => ⟨(ne_live hz hb).symm, (ne_live (Same.live g20 hz) hl2).symm, (ne_live (Same.live S1921 hz) hli).symm⟩
      have oa := off19 a as19.live.1
      have ol := off19 l as19.live.2
      have ob := (ne_live as21.live.1 hli).symm
      have ol2 := (ne_live as21.live.2 hli).symm
      have dM : Df Tm := df_range trM (fun i j h => by omega)
      have lM : psM.length = N / 3 := by have := congrArg List.length eM; rw [List.length_map, List.length_map] at this; omega
      clear a18 d18 b20 d20
      have srt1 := srt_tf pS oS
      have lSd : (S0.drop (N / 2)).length = N - N / 2 := by rw [List.length_drop, lS]
      refine ⟨⟨_, SqL.of h22⟩, for_list (xs := [V.ref a, V.ref b2]) (AgI CL CH a l b2 l2 li tu du le mr psT (qs.take (N / 2)) (qs2.drop (N / 2)) psM [some (.ref sc), some (.ref dk), some (.int N), some (.int ms), some (.bl b'), some (.ref tu), some (.ref du), some (.ref le), some (.int la), some (.ref mr)]) ?_ ?_ ?_ ?_⟩
      · unfold AgI
        exact ⟨⟨_, _, _, rfl⟩, h22, LS22, fun _ => asA, fun _ => asB⟩
      · intro i σ H23 hi z
        unfold AgI at z
        exact SqL.of z.2.1
      · intro i x' σ H23 hx z
        unfold AgI at z
        obtain ⟨⟨v10, v11, v12, rfl⟩, li23, LS23, zA, zB⟩ := z
        obtain ⟨c, x, lx, rfl, as23, nLS, nxt⟩ : ∃ c x lx, x' = .ref x ∧ AS CL CH H23 c x lx 0 [] ∧ (∀ z ∈ [x, lx], z ≠ tu ∧ z ≠ du ∧ z ≠ le ∧ z ≠ mr) ∧ ∀ σ H', FrA x lx H23 H' → (∃ v10 v11 v12, σ = [some (.ref sc), some (.ref dk), some (.int N), some (.int ms), some (.bl b'), some (.ref tu), some (.ref du), some (.ref le), some (.int la), some (.ref mr), v10, v11, v12]) → AgI CL CH a l b2 l2 li tu du le mr psT (qs.take (N / 2)) (qs2.drop (N / 2)) psM [some (.ref sc), some (.ref dk), some (.int N), some (.int ms), some (.bl b'), some (.ref tu), some (.ref du), some (.ref le), some (.int la), some (.ref mr)] (i + 1) σ H' := by
          match i, hx with
          | 0, hx =>
            cases hx
            have as := zA rfl
            have nL : ∀ z ∈ [a, l], z ≠ tu ∧ z ≠ du ∧ z ≠ le ∧ z ≠ mr := fun z hz => by
              simp only [List.mem_cons, List.not_mem_nil, or_false] at hz
              rcases hz with rfl | rfl
              · exact ⟨oT.1, oD.1, oL.1, oM.1⟩
              · exact ⟨oT.2.1, oD.2.1, oL.2.1, oM.2.1⟩
            refine ⟨true, a, l, rfl, as, nL, fun σ H' f e => ?_⟩
            unfold AgI
            exact ⟨e, f _ _ oa.2.2 ol.2.2 li23, LS23.frG f.g as.nt nL, fun z => absurd z (by omega), fun _ => (zB (by omega)).frG f.g as.nt (by simp [oa.1, ol.1]) (by simp [oa.2.1, ol.2.1])⟩
          | 1, hx =>
            cases hx
            have as := zB (by omega)
            have nL : ∀ z ∈ [b2, l2], z ≠ tu ∧ z ≠ du ∧ z ≠ le ∧ z ≠ mr := fun z hz => by
              simp only [List.mem_cons, List.not_mem_nil, or_false] at hz
              rcases hz with rfl | rfl
              · exact ⟨oT.2.2.1, oD.2.2.1, oL.2.2.1, oM.2.2.1⟩
              · exact ⟨oT.2.2.2.1, oD.2.2.2.1, oL.2.2.2.1, oM.2.2.2.1⟩
            refine ⟨false, b2, l2, rfl, as, nL, fun σ H' f e => ?_⟩
            unfold AgI
            exact ⟨e, f _ _ ob ol2 li23, LS23.frG f.g as.nt nL, fun z => absurd z (by omega), fun z => absurd z (by omega)⟩
        clear h22 zA zB
        walk_at "rz"
        refine tfor_in ?_
        simp only [iList]
        walk_at "rz"
        refine ⟨tu, psT, T, rfl, LS23.t, eT, by omega, fun r24 H24 ps24 hr24 g24 hl24 e24 => ?_⟩
        walk_at "rz"
        have lp24 : ps24.length = T.length := by have := congrArg List.length e24; rw [List.length_map, List.length_map, List.length_map] at this; exact this
        have as24 := as23.same g24
        have nr24 : r24 ∉ [x, lx] := fun z => by
          simp only [List.mem_cons, List.not_mem_nil, or_false] at z
          rcases z with e | e
          · exact as23.live.1 (e ▸ hr24)
          · exact as23.live.2 (e ▸ hr24)
        refine ⟨⟨_, SqL.of hl24.1⟩, for_list (xs := ps24.map fun q => V.ref q.1) (PuI CL CH c x lx 0 [] T [some (.ref sc), some (.ref dk), some (.int N), some (.int ms), some (.bl b'), some (.ref tu), some (.ref du), some (.ref le), some (.int la), some (.ref mr), some (.ref x)] H24) ?_ ?_ ?_ ?_⟩
        · unfold PuI
          exact ⟨⟨_, _, rfl⟩, fun c u _ _ hc => hc, as24⟩
        · intro j σ H25 hj z
          unfold PuI at z
          exact SqL.of (z.2.1.g _ _ nr24 hl24.1)
        · intro j x' σ H26 hx' z
          unfold PuI at z
          obtain ⟨⟨v11, v12, rfl⟩, f26, as26⟩ := z
          have hj : j < T.length := by have := (List.getElem?_eq_some_iff.mp hx').1; rw [List.length_map, lp24] at this; exact this
          obtain ⟨e, he⟩ : ∃ e, T[j]? = some e := ⟨_, List.getElem?_eq_getElem hj⟩
          have e2 : e.2 = 0 + (j : Int) := by
            have h := congrArg (fun l => l[j]?) trT
            rw [List.getElem?_map, he, List.getElem?_map, List.getElem?_range (by omega)] at h
            have := Option.some.inj h
            simpa using this
          obtain ⟨p, p1, p2', p3⟩ := ps_at hl24 e24 (e := th e) (by rw [List.getElem?_map, he]; rfl)
          rw [List.getElem?_map, p3] at hx'
          cases hx'
          have p2 : H26 p = some (.tup [.int (th e).1, .int (th e).2]) := as24.nt.k f26.g p2'
          clear p2' p1 p3
          walk_at "rz"
          refine putS (m := (th e).1) (x := (th e).2) as26 (by simp only [List.length_append, List.length_map, List.length_take, List.length_nil]; omega) (fun _ h => ⟨_, rfl, _, rfl, h⟩) fun H27 f27 as27 => ?_
          walk_at "rz"
          unfold PuI
          refine ⟨⟨_, _, rfl⟩, fun c u n1 n2 hc => f27 c u n1 n2 (f26 c u n1 n2 hc), ?_⟩
          have te : tf e = ⟨(th e).1, 0 + (j : Int) + 1, (th e).2⟩ := by unfold tf th; rw [← e2]
          rw [take_snoc he, List.map_append, ← List.append_assoc, List.map_singleton, te, show 0 + ((j + 1 : Nat) : Int) = 0 + (j : Int) + 1 by omega]
          exact as27
        · intro σ H25 z
          unfold PuI at z
          obtain ⟨⟨v11', v12', rfl⟩, f25, as25⟩ := z
          rw [List.length_map, lp24, List.take_of_length_le (Nat.le_refl _), List.nil_append, tlT, show (0 : Int) + (N : Int) = N by omega] at as25
          have LS25 := (LS23.same g24).frG f25.g as24.nt nLS
          walk_at "rz"
          have e2n : (N : Int) / 2 = ((N / 2 : Nat) : Int) := by omega
          refine ⟨c, x, lx, N / 2, b', N, _, _, by rw [e2n], as25, srt1, by rw [List.length_map]; omega, by rw [List.length_map]; omega, fun H26 r26 ps26 f26 hr26 hl26 e26 as26 => ?_⟩
          have LS26 := LS25.frG f26.g as25.nt nLS
          walk_at "rz"
          refine ⟨du, _, S0.take (N / 2), rfl, LS26.d, eD, by rw [List.length_take]; omega, fun r27 H27 ps27 hr27 g27 hl27 e27 => ?_⟩
          have e26' : ps26.map (·.2) = ((S0.take (N / 2)).map th).map pr2 := by rw [e26, ← List.map_take, tf_key]
          refine ⟨_, _, (hl26.same g27).rpO e26', hl27.rpO e27, sh_oD _, sh_oD _, ?_⟩
          rw [eqv_sh (sh_oD _)]
          have LS27 := LS26.same g27
          have as27 : AS CL CH H27 c x lx N ((S0.drop (N / 2)).map tf) := by rw [List.map_drop]; exact as26.same g27
          have so27 : Srt ((S0.drop (N / 2)).map tf) ((S0.drop (N / 2)).map tf) := by rw [List.map_drop]; exact srt_drop srt1 _
          have f2327 : FrA x lx H23 H27 := fun c u n1 n2 hc => g27 _ _ (f26 c u n1 n2 (f25 c u n1 n2 (g24 _ _ hc)))
          walk_at "rz"
          refine ⟨MiI [some (.ref sc), some (.ref dk), some (.int N), some (.int ms), some (.bl b'), some (.ref tu), some (.ref du), some (.ref le), some (.int la), some (.ref mr), some (.ref x)] H27, ?_, ?_⟩
          · refine ite2 (fun cb => ?_) fun cb => ?_
            · walk_at "rz"
              refine ordS as27 so27 (by rw [List.length_map]; omega) fun r28 H28 ps28 hr28 g28 hl28 e28 => ?_
              walk_at "rz"
              refine ⟨le, _, S0.drop (N / 2), rfl, (LS27.same g28).l, eL, by omega, fun r29 H29 ps29 hr29 g29 hl29 e29 => ?_⟩
              refine ⟨_, _, (hl28.same g29).rpO (by rw [e28, tf_key]), hl29.rpO e29, sh_oD _, sh_oD _, ?_⟩
              rw [eqv_sh (sh_oD _)]
              walk_at "rz"
              unfold MiI
              exact ⟨⟨_, _, by first | rfl | (rw [cb]; rfl)⟩, g28.trans g29⟩
            · walk_at "rz"
              unfold MiI
              exact ⟨⟨_, _, by first | rfl | (rw [Bool.not_eq_true] at cb; rw [cb]; rfl)⟩, Same.refl _⟩
          · intro σ H28 z
            unfold MiI at z
            obtain ⟨⟨w11, w12, rfl⟩, g28⟩ := z
            have as28 := as27.same g28
            have LS28 := LS27.same g28
            walk_at "rz"
            refine tfor_in ?_
            simp only [iList]
            walk_at "rz"
            refine ⟨mr, psM, Tm, rfl, LS28.m, eM, by omega, fun r29 H29 ps29 hr29 g29 hl29 e29 => ?_⟩
            walk_at "rz"
            have lp29 : ps29.length = Tm.length := by have := congrArg List.length e29; rw [List.length_map, List.length_map, List.length_map] at this; exact this
            have as29 := as28.same g29
            have nr29 : r29 ∉ [x, lx] := fun z => by
              simp only [List.mem_cons, List.not_mem_nil, or_false] at z
              rcases z with e | e
              · exact as28.live.1 (e ▸ hr29)
              · exact as28.live.2 (e ▸ hr29)
            refine ⟨⟨_, SqL.of hl29.1⟩, for_list (xs := ps29.map fun q => V.ref q.1) (PuI CL CH c x lx N ((S0.drop (N / 2)).map tf) Tm [some (.ref sc), some (.ref dk), some (.int N), some (.int ms), some (.bl b'), some (.ref tu), some (.ref du), some (.ref le), some (.int la), some (.ref mr), some (.ref x)] H29) ?_ ?_ ?_ ?_⟩
            · unfold PuI
              exact ⟨⟨_, _, rfl⟩, fun c u _ _ hc => hc, by rw [List.take_zero, List.map_nil, List.append_nil, show (N : Int) + ((0 : Nat) : Int) = N by omega]; exact as29⟩
            · intro j σ H25 hj z
              unfold PuI at z
              exact SqL.of (z.2.1.g _ _ nr29 hl29.1)
            · intro j x' σ H26 hx' z
              unfold PuI at z
              obtain ⟨⟨v11, v12, rfl⟩, f26, as26⟩ := z
              have hj : j < Tm.length := by have := (List.getElem?_eq_some_iff.mp hx').1; rw [List.length_map, lp29] at this; exact this
              obtain ⟨e, he⟩ : ∃ e, Tm[j]? = some e := ⟨_, List.getElem?_eq_getElem hj⟩
              have e2 : e.2 = (N : Int) + (j : Int) := by
                have h := congrArg (fun l => l[j]?) trM
                rw [List.getElem?_map, he, List.getElem?_map, List.getElem?_range (by omega)] at h
                have := Option.some.inj h
                simpa using this
              obtain ⟨p, p1, p2', p3⟩ := ps_at hl29 e29 (e := th e) (by rw [List.getElem?_map, he]; rfl)
              rw [List.getElem?_map, p3] at hx'
              cases hx'
              have p2 : H26 p = some (.tup [.int (th e).1, .int (th e).2]) := as29.nt.k f26.g p2'
              clear p2' p1 p3
              walk_at "rz"
              refine putS (m := (th e).1) (x := (th e).2) as26 (by simp only [List.length_append, List.length_map, List.length_take]; omega) (fun _ h => ⟨_, rfl, _, rfl, h⟩) fun H27 f27 as27 => ?_
              walk_at "rz"
              unfold PuI
              refine ⟨⟨_, _, rfl⟩, fun c u n1 n2 hc => f27 c u n1 n2 (f26 c u n1 n2 hc), ?_⟩
              have te : tf e = ⟨(th e).1, (N : Int) + (j : Int) + 1, (th e).2⟩ := by unfold tf th; rw [← e2]
              rw [take_snoc he, List.map_append, ← List.append_assoc, List.map_singleton, te, show (N : Int) + ((j + 1 : Nat) : Int) = (N : Int) + (j : Int) + 1 by omega]
              exact as27
            · intro σ H30 z
              unfold PuI at z
              obtain ⟨⟨u11, u12, rfl⟩, f30, as30⟩ := z
              rw [List.length_map, lp29, List.take_of_length_le (Nat.le_refl _), ← List.map_append] at as30
              have LS30 := (LS28.same g29).frG f30.g as29.nt nLS
              obtain ⟨ok3, so3⟩ : ∃ ok3, Srt ((S0.drop (N / 2) ++ Tm).map tf) ok3 := by
                obtain ⟨kt, _, ic, pm⟩ := as30
                obtain ⟨ok, so⟩ := srt_ex _ kt rfl ic
                exact ⟨ok, so.of pm.symm⟩
              have l3 : ok3.length = (N - N / 2) + Tm.length := by rw [so3.1.length_eq, List.length_map, List.length_append, lSd]
              have yl := LS30.l.1
              have ym := LS30.m.1
              have lql : (qs2.drop (N / 2)).length = N - N / 2 := by rw [List.length_drop, lq2]
              walk_at "rz"
              refine ⟨_, .inl (SqL.of yl), ?_⟩
              walk_at "rz"
              refine ⟨_, .inl (SqL.of ym), ?_⟩
              walk_at "rz"
              have eN3 : (((List.map (fun q : It => V.ref q.1) (List.drop (N / 2) qs2)).length : Nat) : Int) + (((List.map (fun q : It => V.ref q.1) psM).length : Nat) : Int) = ((N - N / 2 + Tm.length : Nat) : Int) := by simp only [List.length_map, lql]; omega
              refine ⟨c, x, lx, N - N / 2 + Tm.length, b', _, _, ok3, by rw [eN3], as30, so3, by omega, by rw [List.length_map, List.length_append]; omega, fun H31 r31 ps31 f31 hr31 hl31 e31 as31 => ?_⟩
              have LS31 := LS30.frG f31.g as30.nt nLS
              rw [List.take_of_length_le (by omega)] at e31
              rw [List.drop_of_length_le (by omega)] at as31
              clear yl ym
              refine ⟨_, LS31.l.1, _, LS31.m.1, by rw [List.length_map, List.length_map]; omega, fun p32 H32 hp32 g32 h32 => ?_⟩
              rw [← List.map_append] at h32
              have LS32 := LS31.same g32
              have eLM : (qs2.drop (N / 2) ++ psM).map (·.2) = (S0.drop (N / 2) ++ Tm).map pr2 := by rw [List.map_append, List.map_append, eL, eM]
              have hlX : ∀ r ∈ qs2.drop (N / 2) ++ psM, H32 r.1 = some (.tup (r.2.map V.int)) := fun r hr => (List.mem_append.mp hr).elim (LS32.l.2 r) (LS32.m.2 r)
              have dX : Df (S0.drop (N / 2) ++ Tm) := by
                unfold Df
                rw [List.pairwise_append]
                refine ⟨List.Pairwise.sublist (List.drop_sublist ..) (df_perm pS dT), dM, fun a ha b hb => ?_⟩
                have h1 : a.2 ∈ T.map (·.2) := List.mem_map_of_mem (f := fun p : Int × Int => p.2) (pS.mem_iff.mp (List.mem_of_mem_drop ha))
                have h2 : b.2 ∈ Tm.map (·.2) := List.mem_map_of_mem (f := fun p : Int × Int => p.2) hb
                rw [trT] at h1
                rw [trM] at h2
                obtain ⟨i1, m1', q1⟩ := List.mem_map.mp h1
                obtain ⟨i2, m2', q2⟩ := List.mem_map.mp h2
                have := List.mem_range.mp m1'
                omega
              walk_at "rz"
              refine ⟨_, rfl, 2, hlX, by decide, len2 eLM, df_nd eLM dX, by rw [List.length_append, lql, lM]; omega, fun S33 H33 qs33 hS33 g33 hS33' pq33 po33 => ?_⟩
              obtain ⟨S3, pS3, eS3, oS3⟩ := sort_pairs eLM pq33 po33
              have ok3e : ok3 = S3.map tf := so3.uniq (srt_tf pS3 oS3)
              have lS3 : S3.length = N - N / 2 + Tm.length := by rw [pS3.length_eq, List.length_append, lSd]
              have hl33 : HL H33 S33 qs33 := ⟨hS33', fun r hr => g33 _ _ (hlX r (pq33.mem_iff.mp hr))⟩
              clear h32 hS33'
              walk_at "rz"
              refine ⟨S33, qs33, S3, rfl, hl33, eS3, by omega, fun r34 H34 ps34 hr34 g34 hl34 e34 => ?_⟩
              have S3134 : Same H31 H34 := g32.trans (g33.trans g34)
              refine ⟨_, _, (hl31.same S3134).rpO (by rw [e31, ok3e, tf_key]), hl34.rpO e34, sh_oD _, sh_oD _, ?_⟩
              rw [eqv_sh (sh_oD _)]
              have as34 := as31.same S3134
              walk_at "rz"
              refine fstS as34 srt_nil ?_
              walk_at "rz"
              rw [if_neg (by decide)]
              try walk_at "rz"
              refine ordS as34 srt_nil (by decide) fun r35 H35 ps35 hr35 g35 hl35 e35 => ?_
              try walk_at "rz"
              intro p36 H36 hp36 g36 h36
              refine ⟨_, _, (hl35.same g36).rpO (O := []) e35, .lst h36 .nil, sh_oD [], by decide, ?_⟩
              rw [show PyData.eqv (K17.oD []) (.list []) = true by decide]
              walk_at "rz"
              refine nxt _ _ (fun c u n1 n2 hc => g36 _ _ (g35 _ _ (S3134 _ _ (f31 c u n1 n2 (f30 c u n1 n2 (g29 _ _ (g28 _ _ (f2327 c u n1 n2 hc)))))))) ⟨_, _, _, rfl⟩
      · intro σ H23 z
        unfold AgI at z
        obtain ⟨⟨v10, v11, v12, rfl⟩, _⟩ := z
        clear h22
        walk_at "rz"
end
end K17

set_option Elab.async false
set_option linter.all false
set_option maxRecDepth 100000
set_option maxHeartbeats 4000000
namespace K17
open PySem L2
theorem all_mk {l : PySem.W.OpenLaw} {w : World} {K : PySem.W.Frag} {h : Heap} {mg : Str → Option Value} {fa : Addr} (X : K.In h) (G : h.Ns mainGlobals mg) (hfa : mg "law" = some (.ref fa))
    {f1 : Addr} {od1 an1 : Option Addr} {sl1 : Array (Option Value)} {oc1 kV1 dc1 pm1 cd1 ct1 : Value} (a1 : PySem.W.nsIn K mainGlobals "rise" = some (some (.ref f1))) (l1 : K.lookup f1 = some ⟨oc1, od1, .func (PySem.W.fnOf "rise" "rise" (defArgs s_rise) (defBody s_rise) (defScope s_rise) .none kV1 dc1 pm1 an1 cd1 ct1), sl1⟩) (c1 : PySem.W.codeIn K cd1 "rise" = true) (k1 : PySem.W.keepIn K (.ref f1) = true)
    {f2 : Addr} {od2 an2 : Option Addr} {sl2 : Array (Option Value)} {oc2 kV2 dc2 pm2 cd2 ct2 : Value} (a2 : PySem.W.nsIn K mainGlobals "sink" = some (some (.ref f2))) (l2 : K.lookup f2 = some ⟨oc2, od2, .func (PySem.W.fnOf "sink" "sink" (defArgs s_sink) (defBody s_sink) (defScope s_sink) .none kV2 dc2 pm2 an2 cd2 ct2), sl2⟩) (c2 : PySem.W.codeIn K cd2 "sink" = true) (k2 : PySem.W.keepIn K (.ref f2) = true)
    {f3 : Addr} {od3 an3 : Option Addr} {sl3 : Array (Option Value)} {oc3 kV3 dc3 pm3 cd3 ct3 : Value} (a3 : PySem.W.nsIn K mainGlobals "least_of_three" = some (some (.ref f3))) (l3 : K.lookup f3 = some ⟨oc3, od3, .func (PySem.W.fnOf "least_of_three" "least_of_three" (defArgs s_least_of_three) (defBody s_least_of_three) (defScope s_least_of_three) .none kV3 dc3 pm3 an3 cd3 ct3), sl3⟩) (c3 : PySem.W.codeIn K cd3 "least_of_three" = true) (k3 : PySem.W.keepIn K (.ref f3) = true)
    {f4 : Addr} {od4 an4 : Option Addr} {sl4 : Array (Option Value)} {oc4 kV4 dc4 pm4 cd4 ct4 : Value} (a4 : PySem.W.nsIn K mainGlobals "swap" = some (some (.ref f4))) (l4 : K.lookup f4 = some ⟨oc4, od4, .func (PySem.W.fnOf "swap" "swap" (defArgs s_swap) (defBody s_swap) (defScope s_swap) .none kV4 dc4 pm4 an4 cd4 ct4), sl4⟩) (c4 : PySem.W.codeIn K cd4 "swap" = true) (k4 : PySem.W.keepIn K (.ref f4) = true)
    {f5 : Addr} {od5 an5 : Option Addr} {sl5 : Array (Option Value)} {oc5 kV5 dc5 pm5 cd5 ct5 : Value} (a5 : PySem.W.nsIn K mainGlobals "_law_next" = some (some (.ref f5))) (l5 : K.lookup f5 = some ⟨oc5, od5, .func (PySem.W.fnOf "_law_next" "_law_next" (defArgs s__law_next) (defBody s__law_next) (defScope s__law_next) .none kV5 dc5 pm5 an5 cd5 ct5), sl5⟩) (c5 : PySem.W.codeIn K cd5 "_law_next" = true) (k5 : PySem.W.keepIn K (.ref f5) = true)
    {f6 : Addr} {od6 an6 : Option Addr} {sl6 : Array (Option Value)} {oc6 kV6 dc6 pm6 cd6 ct6 : Value} (a6 : PySem.W.nsIn K mainGlobals "_law_taken" = some (some (.ref f6))) (l6 : K.lookup f6 = some ⟨oc6, od6, .func (PySem.W.fnOf "_law_taken" "_law_taken" (defArgs s__law_taken) (defBody s__law_taken) (defScope s__law_taken) .none kV6 dc6 pm6 an6 cd6 ct6), sl6⟩) (c6 : PySem.W.codeIn K cd6 "_law_taken" = true) (k6 : PySem.W.keepIn K (.ref f6) = true)
    {f7 : Addr} {od7 an7 : Option Addr} {sl7 : Array (Option Value)} {oc7 kV7 dc7 pm7 cd7 ct7 : Value} (a7 : PySem.W.nsIn K mainGlobals "_law_things" = some (some (.ref f7))) (l7 : K.lookup f7 = some ⟨oc7, od7, .func (PySem.W.fnOf "_law_things" "_law_things" (defArgs s__law_things) (defBody s__law_things) (defScope s__law_things) .none kV7 dc7 pm7 an7 cd7 ct7), sl7⟩) (c7 : PySem.W.codeIn K cd7 "_law_things" = true) (k7 : PySem.W.keepIn K (.ref f7) = true)
    {f8 : Addr} {od8 an8 : Option Addr} {sl8 : Array (Option Value)} {oc8 kV8 dc8 pm8 cd8 ct8 : Value} (a8 : PySem.W.nsIn K mainGlobals "law" = some (some (.ref f8))) (l8 : K.lookup f8 = some ⟨oc8, od8, .func (PySem.W.fnOf "law" "law" (defArgs s_law) (defBody s_law) (defScope s_law) .none kV8 dc8 pm8 an8 cd8 ct8), sl8⟩) (c8 : PySem.W.codeIn K cd8 "law" = true) (k8 : PySem.W.keepIn K (.ref f8) = true)
    (z1 : PySem.W.nsIn K mainGlobals "len" = some none)
    (z2 : PySem.W.nsIn K mainGlobals "sorted" = some none)
    (z3 : PySem.W.nsIn K mainGlobals "min" = some none)
    (z4 : PySem.W.nsIn K mainGlobals "max" = some none)
    (z5 : PySem.W.nsIn K mainGlobals "range" = some none)
    (z6 : PySem.W.nsIn K mainGlobals "list" = some none)
    {CL : Addr} (aListagenda : PySem.W.nsIn K mainGlobals "ListAgenda" = some (some (.ref CL)))
    (pgListagenda : PySem.W.plainGet K CL Str.empty = true)
    (hdListagenda : PySem.W.hasDictIn K CL = true)
    (poListagenda : PySem.W.plainOver K CL = true)
    (saListagenda : PySem.W.findIn K (.ref CL) "__setattr__" = some (some (.builtin "object.__setattr__")))
    (mkListagenda : PySem.W.makesIn K CL = true)
    (kcListagenda : PySem.W.keepIn K (.ref CL) = true)
    (nListagenda_things : PySem.W.findIn K (.ref CL) "things" = some none)
    {fListagenda_init : Addr} {odListagenda_init anListagenda_init : Option Addr} {slListagenda_init : Array (Option Value)} {ocListagenda_init kVListagenda_init dcListagenda_init pmListagenda_init cdListagenda_init ctListagenda_init : Value} (aListagenda_init : PySem.W.findIn K (.ref CL) "__init__" = some (some (.ref fListagenda_init)))
    (iListagenda_init : PySem.W.isFn K (.ref fListagenda_init) = true)
    (lListagenda_init : K.lookup fListagenda_init = some ⟨ocListagenda_init, odListagenda_init, .func (PySem.W.fnOf "__init__" "ListAgenda.__init__" (defArgs s_ListAgenda___init__) (defBody s_ListAgenda___init__) (defScope s_ListAgenda___init__) .none kVListagenda_init dcListagenda_init pmListagenda_init anListagenda_init cdListagenda_init ctListagenda_init), slListagenda_init⟩)
    (cListagenda_init : PySem.W.codeIn K cdListagenda_init "ListAgenda.__init__" = true)
    (kListagenda_init : PySem.W.keepIn K (.ref fListagenda_init) = true)
    {fListagenda_put : Addr} {odListagenda_put anListagenda_put : Option Addr} {slListagenda_put : Array (Option Value)} {ocListagenda_put kVListagenda_put dcListagenda_put pmListagenda_put cdListagenda_put ctListagenda_put : Value} (aListagenda_put : PySem.W.findIn K (.ref CL) "put" = some (some (.ref fListagenda_put)))
    (iListagenda_put : PySem.W.isFn K (.ref fListagenda_put) = true)
    (lListagenda_put : K.lookup fListagenda_put = some ⟨ocListagenda_put, odListagenda_put, .func (PySem.W.fnOf "put" "ListAgenda.put" (defArgs s_ListAgenda_put) (defBody s_ListAgenda_put) (defScope s_ListAgenda_put) .none kVListagenda_put dcListagenda_put pmListagenda_put anListagenda_put cdListagenda_put ctListagenda_put), slListagenda_put⟩)
    (cListagenda_put : PySem.W.codeIn K cdListagenda_put "ListAgenda.put" = true)
    (kListagenda_put : PySem.W.keepIn K (.ref fListagenda_put) = true)
    {fListagenda_first : Addr} {odListagenda_first anListagenda_first : Option Addr} {slListagenda_first : Array (Option Value)} {ocListagenda_first kVListagenda_first dcListagenda_first pmListagenda_first cdListagenda_first ctListagenda_first : Value} (aListagenda_first : PySem.W.findIn K (.ref CL) "first" = some (some (.ref fListagenda_first)))
    (iListagenda_first : PySem.W.isFn K (.ref fListagenda_first) = true)
    (lListagenda_first : K.lookup fListagenda_first = some ⟨ocListagenda_first, odListagenda_first, .func (PySem.W.fnOf "first" "ListAgenda.first" (defArgs s_ListAgenda_first) (defBody s_ListAgenda_first) (defScope s_ListAgenda_first) .none kVListagenda_first dcListagenda_first pmListagenda_first anListagenda_first cdListagenda_first ctListagenda_first), slListagenda_first⟩)
    (cListagenda_first : PySem.W.codeIn K cdListagenda_first "ListAgenda.first" = true)
    (kListagenda_first : PySem.W.keepIn K (.ref fListagenda_first) = true)
    {fListagenda_take : Addr} {odListagenda_take anListagenda_take : Option Addr} {slListagenda_take : Array (Option Value)} {ocListagenda_take kVListagenda_take dcListagenda_take pmListagenda_take cdListagenda_take ctListagenda_take : Value} (aListagenda_take : PySem.W.findIn K (.ref CL) "take" = some (some (.ref fListagenda_take)))
    (iListagenda_take : PySem.W.isFn K (.ref fListagenda_take) = true)
    (lListagenda_take : K.lookup fListagenda_take = some ⟨ocListagenda_take, odListagenda_take, .func (PySem.W.fnOf "take" "ListAgenda.take" (defArgs s_ListAgenda_take) (defBody s_ListAgenda_take) (defScope s_ListAgenda_take) .none kVListagenda_take dcListagenda_take pmListagenda_take anListagenda_take cdListagenda_take ctListagenda_take), slListagenda_take⟩)
    (cListagenda_take : PySem.W.codeIn K cdListagenda_take "ListAgenda.take" = true)
    (kListagenda_take : PySem.W.keepIn K (.ref fListagenda_take) = true)
    {fListagenda_in_order : Addr} {odListagenda_in_order anListagenda_in_order : Option Addr} {slListagenda_in_order : Array (Option Value)} {ocListagenda_in_order kVListagenda_in_order dcListagenda_in_order pmListagenda_in_order cdListagenda_in_order ctListagenda_in_order : Value} (aListagenda_in_order : PySem.W.findIn K (.ref CL) "in_order" = some (some (.ref fListagenda_in_order)))
    (iListagenda_in_order : PySem.W.isFn K (.ref fListagenda_in_order) = true)
    (lListagenda_in_order : K.lookup fListagenda_in_order = some ⟨ocListagenda_in_order, odListagenda_in_order, .func (PySem.W.fnOf "in_order" "ListAgenda.in_order" (defArgs s_ListAgenda_in_order) (defBody s_ListAgenda_in_order) (defScope s_ListAgenda_in_order) .none kVListagenda_in_order dcListagenda_in_order pmListagenda_in_order anListagenda_in_order cdListagenda_in_order ctListagenda_in_order), slListagenda_in_order⟩)
    (cListagenda_in_order : PySem.W.codeIn K cdListagenda_in_order "ListAgenda.in_order" = true)
    (kListagenda_in_order : PySem.W.keepIn K (.ref fListagenda_in_order) = true)
    {CH : Addr} (aHeapagenda : PySem.W.nsIn K mainGlobals "HeapAgenda" = some (some (.ref CH)))
    (pgHeapagenda : PySem.W.plainGet K CH Str.empty = true)
    (hdHeapagenda : PySem.W.hasDictIn K CH = true)
    (poHeapagenda : PySem.W.plainOver K CH = true)
    (saHeapagenda : PySem.W.findIn K (.ref CH) "__setattr__" = some (some (.builtin "object.__setattr__")))
    (mkHeapagenda : PySem.W.makesIn K CH = true)
    (kcHeapagenda : PySem.W.keepIn K (.ref CH) = true)
    (nHeapagenda_heap : PySem.W.findIn K (.ref CH) "heap" = some none)
    (nHeapagenda_turn : PySem.W.findIn K (.ref CH) "turn" = some none)
    {fHeapagenda_init : Addr} {odHeapagenda_init anHeapagenda_init : Option Addr} {slHeapagenda_init : Array (Option Value)} {ocHeapagenda_init kVHeapagenda_init dcHeapagenda_init pmHeapagenda_init cdHeapagenda_init ctHeapagenda_init : Value} (aHeapagenda_init : PySem.W.findIn K (.ref CH) "__init__" = some (some (.ref fHeapagenda_init)))
    (iHeapagenda_init : PySem.W.isFn K (.ref fHeapagenda_init) = true)
    (lHeapagenda_init : K.lookup fHeapagenda_init = some ⟨ocHeapagenda_init, odHeapagenda_init, .func (PySem.W.fnOf "__init__" "HeapAgenda.__init__" (defArgs s_HeapAgenda___init__) (defBody s_HeapAgenda___init__) (defScope s_HeapAgenda___init__) .none kVHeapagenda_init dcHeapagenda_init pmHeapagenda_init anHeapagenda_init cdHeapagenda_init ctHeapagenda_init), slHeapagenda_init⟩)
    (cHeapagenda_init : PySem.W.codeIn K cdHeapagenda_init "HeapAgenda.__init__" = true)
    (kHeapagenda_init : PySem.W.keepIn K (.ref fHeapagenda_init) = true)
    {fHeapagenda_put : Addr} {odHeapagenda_put anHeapagenda_put : Option Addr} {slHeapagenda_put : Array (Option Value)} {ocHeapagenda_put kVHeapagenda_put dcHeapagenda_put pmHeapagenda_put cdHeapagenda_put ctHeapagenda_put : Value} (aHeapagenda_put : PySem.W.findIn K (.ref CH) "put" = some (some (.ref fHeapagenda_put)))
    (iHeapagenda_put : PySem.W.isFn K (.ref fHeapagenda_put) = true)
    (lHeapagenda_put : K.lookup fHeapagenda_put = some ⟨ocHeapagenda_put, odHeapagenda_put, .func (PySem.W.fnOf "put" "HeapAgenda.put" (defArgs s_HeapAgenda_put) (defBody s_HeapAgenda_put) (defScope s_HeapAgenda_put) .none kVHeapagenda_put dcHeapagenda_put pmHeapagenda_put anHeapagenda_put cdHeapagenda_put ctHeapagenda_put), slHeapagenda_put⟩)
    (cHeapagenda_put : PySem.W.codeIn K cdHeapagenda_put "HeapAgenda.put" = true)
    (kHeapagenda_put : PySem.W.keepIn K (.ref fHeapagenda_put) = true)
    {fHeapagenda_first : Addr} {odHeapagenda_first anHeapagenda_first : Option Addr} {slHeapagenda_first : Array (Option Value)} {ocHeapagenda_first kVHeapagenda_first dcHeapagenda_first pmHeapagenda_first cdHeapagenda_first ctHeapagenda_first : Value} (aHeapagenda_first : PySem.W.findIn K (.ref CH) "first" = some (some (.ref fHeapagenda_first)))
    (iHeapagenda_first : PySem.W.isFn K (.ref fHeapagenda_first) = true)
    (lHeapagenda_first : K.lookup fHeapagenda_first = some ⟨ocHeapagenda_first, odHeapagenda_first, .func (PySem.W.fnOf "first" "HeapAgenda.first" (defArgs s_HeapAgenda_first) (defBody s_HeapAgenda_first) (defScope s_HeapAgenda_first) .none kVHeapagenda_first dcHeapagenda_first pmHeapagenda_first anHeapagenda_first cdHeapagenda_first ctHeapagenda_first), slHeapagenda_first⟩)
    (cHeapagenda_first : PySem.W.codeIn K cdHeapagenda_first "HeapAgenda.first" = true)
    (kHeapagenda_first : PySem.W.keepIn K (.ref fHeapagenda_first) = true)
    {fHeapagenda_take : Addr} {odHeapagenda_take anHeapagenda_take : Option Addr} {slHeapagenda_take : Array (Option Value)} {ocHeapagenda_take kVHeapagenda_take dcHeapagenda_take pmHeapagenda_take cdHeapagenda_take ctHeapagenda_take : Value} (aHeapagenda_take : PySem.W.findIn K (.ref CH) "take" = some (some (.ref fHeapagenda_take)))
    (iHeapagenda_take : PySem.W.isFn K (.ref fHeapagenda_take) = true)
    (lHeapagenda_take : K.lookup fHeapagenda_take = some ⟨ocHeapagenda_take, odHeapagenda_take, .func (PySem.W.fnOf "take" "HeapAgenda.take" (defArgs s_HeapAgenda_take) (defBody s_HeapAgenda_take) (defScope s_HeapAgenda_take) .none kVHeapagenda_take dcHeapagenda_take pmHeapagenda_take anHeapagenda_take cdHeapagenda_take ctHeapagenda_take), slHeapagenda_take⟩)
    (cHeapagenda_take : PySem.W.codeIn K cdHeapagenda_take "HeapAgenda.take" = true)
    (kHeapagenda_take : PySem.W.keepIn K (.ref fHeapagenda_take) = true)
    {fHeapagenda_in_order : Addr} {odHeapagenda_in_order anHeapagenda_in_order : Option Addr} {slHeapagenda_in_order : Array (Option Value)} {ocHeapagenda_in_order kVHeapagenda_in_order dcHeapagenda_in_order pmHeapagenda_in_order cdHeapagenda_in_order ctHeapagenda_in_order : Value} (aHeapagenda_in_order : PySem.W.findIn K (.ref CH) "in_order" = some (some (.ref fHeapagenda_in_order)))
    (iHeapagenda_in_order : PySem.W.isFn K (.ref fHeapagenda_in_order) = true)
    (lHeapagenda_in_order : K.lookup fHeapagenda_in_order = some ⟨ocHeapagenda_in_order, odHeapagenda_in_order, .func (PySem.W.fnOf "in_order" "HeapAgenda.in_order" (defArgs s_HeapAgenda_in_order) (defBody s_HeapAgenda_in_order) (defScope s_HeapAgenda_in_order) .none kVHeapagenda_in_order dcHeapagenda_in_order pmHeapagenda_in_order anHeapagenda_in_order cdHeapagenda_in_order ctHeapagenda_in_order), slHeapagenda_in_order⟩)
    (cHeapagenda_in_order : PySem.W.codeIn K cdHeapagenda_in_order "HeapAgenda.in_order" = true)
    (kHeapagenda_in_order : PySem.W.keepIn K (.ref fHeapagenda_in_order) = true) :
    ∃ fd : FuncData, (∀ (s : Shared) (v : Value), BindsTo s fd ⟨[v], []⟩ [("script", v)]) ∧ ∀ base : Heap, K.In base → base.Ns mainGlobals mg → FnOk l.prog w K mg base CX0 6 fa fd ["script"] (spLaw K) := by
  have e := hfa.symm.trans (PySem.W.mg_of X G a8)
  cases e
  have A_rise : DefAt K mg "rise" s_rise ["heap"] := DefAt.mk' X G a1 l1 c1 k1 fun _ _ _ _ _ _ us hl => match us, hl with | [_], _ => rfl
  have A_sink : DefAt K mg "sink" s_sink ["heap"] := DefAt.mk' X G a2 l2 c2 k2 fun _ _ _ _ _ _ us hl => match us, hl with | [_], _ => rfl
  have A_least_of_three : DefAt K mg "least_of_three" s_least_of_three ["heap", "at"] := DefAt.mk' X G a3 l3 c3 k3 fun _ _ _ _ _ _ us hl => match us, hl with | [_, _], _ => rfl
  have A_swap : DefAt K mg "swap" s_swap ["heap", "one", "other"] := DefAt.mk' X G a4 l4 c4 k4 fun _ _ _ _ _ _ us hl => match us, hl with | [_, _, _], _ => rfl
  have A__law_next : DefAt K mg "_law_next" s__law_next ["deck"] := DefAt.mk' X G a5 l5 c5 k5 fun _ _ _ _ _ _ us hl => match us, hl with | [_], _ => rfl
  have A__law_taken : DefAt K mg "_law_taken" s__law_taken ["agenda", "many", "asked"] := DefAt.mk' X G a6 l6 c6 k6 fun _ _ _ _ _ _ us hl => match us, hl with | [_, _, _], _ => rfl
  have A__law_things : DefAt K mg "_law_things" s__law_things ["turns"] := DefAt.mk' X G a7 l7 c7 k7 fun _ _ _ _ _ _ us hl => match us, hl with | [_], _ => rfl
  have hlen : mg "len" = none := PySem.W.mg_none_of X G z1
  have hsorted : mg "sorted" = none := PySem.W.mg_none_of X G z2
  have hmin : mg "min" = none := PySem.W.mg_none_of X G z3
  have hmax : mg "max" = none := PySem.W.mg_none_of X G z4
  have hrange : mg "range" = none := PySem.W.mg_none_of X G z5
  have hlist : mg "list" = none := PySem.W.mg_none_of X G z6
  have CL_ListAgenda : Cls K CL := ⟨pgListagenda, hdListagenda, poListagenda, saListagenda⟩
  have N_ListAgenda_things : NoAttr K CL "things" := nListagenda_things
  have M_ListAgenda : MakeAt K mg "ListAgenda" CL "ListAgenda.__init__" s_ListAgenda___init__ ["self"] := MakeAt.mk' X G aListagenda mkListagenda kcListagenda aListagenda_init iListagenda_init lListagenda_init cListagenda_init kListagenda_init fun _ _ _ _ _ _ us hl => match us, hl with | [_], _ => rfl
  have M_ListAgenda_put : MethAt K CL "put" "ListAgenda.put" s_ListAgenda_put ["self", "moment", "thing"] := MethAt.mk' aListagenda_put iListagenda_put lListagenda_put cListagenda_put kListagenda_put fun _ _ _ _ _ _ us hl => match us, hl with | [_, _, _], _ => rfl
  have M_ListAgenda_first : MethAt K CL "first" "ListAgenda.first" s_ListAgenda_first ["self"] := MethAt.mk' aListagenda_first iListagenda_first lListagenda_first cListagenda_first kListagenda_first fun _ _ _ _ _ _ us hl => match us, hl with | [_], _ => rfl
  have M_ListAgenda_take : MethAt K CL "take" "ListAgenda.take" s_ListAgenda_take ["self"] := MethAt.mk' aListagenda_take iListagenda_take lListagenda_take cListagenda_take kListagenda_take fun _ _ _ _ _ _ us hl => match us, hl with | [_], _ => rfl
  have M_ListAgenda_in_order : MethAt K CL "in_order" "ListAgenda.in_order" s_ListAgenda_in_order ["self"] := MethAt.mk' aListagenda_in_order iListagenda_in_order lListagenda_in_order cListagenda_in_order kListagenda_in_order fun _ _ _ _ _ _ us hl => match us, hl with | [_], _ => rfl
  have CL_HeapAgenda : Cls K CH := ⟨pgHeapagenda, hdHeapagenda, poHeapagenda, saHeapagenda⟩
  have N_HeapAgenda_heap : NoAttr K CH "heap" := nHeapagenda_heap
  have N_HeapAgenda_turn : NoAttr K CH "turn" := nHeapagenda_turn
  have M_HeapAgenda : MakeAt K mg "HeapAgenda" CH "HeapAgenda.__init__" s_HeapAgenda___init__ ["self"] := MakeAt.mk' X G aHeapagenda mkHeapagenda kcHeapagenda aHeapagenda_init iHeapagenda_init lHeapagenda_init cHeapagenda_init kHeapagenda_init fun _ _ _ _ _ _ us hl => match us, hl with | [_], _ => rfl
  have M_HeapAgenda_put : MethAt K CH "put" "HeapAgenda.put" s_HeapAgenda_put ["self", "moment", "thing"] := MethAt.mk' aHeapagenda_put iHeapagenda_put lHeapagenda_put cHeapagenda_put kHeapagenda_put fun _ _ _ _ _ _ us hl => match us, hl with | [_, _, _], _ => rfl
  have M_HeapAgenda_first : MethAt K CH "first" "HeapAgenda.first" s_HeapAgenda_first ["self"] := MethAt.mk' aHeapagenda_first iHeapagenda_first lHeapagenda_first cHeapagenda_first kHeapagenda_first fun _ _ _ _ _ _ us hl => match us, hl with | [_], _ => rfl
  have M_HeapAgenda_take : MethAt K CH "take" "HeapAgenda.take" s_HeapAgenda_take ["self"] := MethAt.mk' aHeapagenda_take iHeapagenda_take lHeapagenda_take cHeapagenda_take kHeapagenda_take fun _ _ _ _ _ _ us hl => match us, hl with | [_], _ => rfl
  have M_HeapAgenda_in_order : MethAt K CH "in_order" "HeapAgenda.in_order" s_HeapAgenda_in_order ["self"] := MethAt.mk' aHeapagenda_in_order iHeapagenda_in_order lHeapagenda_in_order cHeapagenda_in_order kHeapagenda_in_order fun _ _ _ _ _ _ us hl => match us, hl with | [_], _ => rfl
  have FL := fun_mk (st := s_law) l8 c8 k8
  refine ⟨PySem.W.fnOf "law" "law" (defArgs s_law) (defBody s_law) (defScope s_law) .none kV8 dc8 pm8 an8 cd8 ct8, fun s v => .of_eq rfl, fun base _ _ => ?_⟩
  exact by
    have Gnx := ok_nx (P := l.prog) (w := w) (base := base) A__law_next hlen hmax hmin hrange
    have Gsw := ok_swap (P := l.prog) (w := w) (base := base) A_swap
    have G3 := ok_three (P := l.prog) (w := w) (base := base) A_least_of_three hlen
    have Grs := ok_rise A_rise Gsw hlen
    have Gsk := ok_sink A_sink Gsw G3
    have GLI := ok_LI (P := l.prog) (w := w) (base := base) M_ListAgenda CL_ListAgenda N_ListAgenda_things
    have GLput := ok_LPut (P := l.prog) (w := w) (mg := mg) (base := base) M_ListAgenda_put CL_ListAgenda N_ListAgenda_things hlen
    have GLfst := ok_LFst (P := l.prog) (w := w) (mg := mg) (base := base) M_ListAgenda_first CL_ListAgenda N_ListAgenda_things
    have GLtake := ok_LTake (P := l.prog) (w := w) (mg := mg) (base := base) M_ListAgenda_take CL_ListAgenda N_ListAgenda_things
    have GLord := ok_LOrd (P := l.prog) (w := w) (mg := mg) (base := base) M_ListAgenda_in_order CL_ListAgenda N_ListAgenda_things hlist
    have GHI := ok_HI (P := l.prog) (w := w) (base := base) M_HeapAgenda CL_HeapAgenda N_HeapAgenda_heap N_HeapAgenda_turn
    have GHput := ok_HPut M_HeapAgenda_put CL_HeapAgenda N_HeapAgenda_heap N_HeapAgenda_turn Grs
    have GHfst := ok_HFst (P := l.prog) (w := w) (mg := mg) (base := base) M_HeapAgenda_first CL_HeapAgenda N_HeapAgenda_heap
    have GHtake := ok_HTake M_HeapAgenda_take CL_HeapAgenda N_HeapAgenda_heap Gsk
    have GHord := ok_HOrd (P := l.prog) (w := w) (mg := mg) (base := base) M_HeapAgenda_in_order CL_HeapAgenda N_HeapAgenda_heap hsorted
    have Gtn := ok_tn A__law_taken GLfst GHfst GLtake GHtake hrange
    have Gths := ok_ths (P := l.prog) (w := w) (base := base) A__law_things
    exact ok_law FL GLI GHI Gnx Gtn Gths GLfst GHfst GLput GHput GLord GHord hrange hlen hsorted
theorem walk {l : PySem.W.OpenLaw} {q : Program} {loose : List Str} {XP : (Str → Option Value) → Heap → Prop} {YP : World → Heap → Prop} {d : DefRec} {K : Params → PySem.W.Frag} (hn : l.most = some 63) (hdf : d.params.defaults = [])
    (hY : ∀ (w : World) (h : Heap), YP w h → (K w.params).In h)
    (F : ∀ (w : World) (mg : Str → Option Value) (fa : Addr) (h : Heap), (K w.params).In h → h.Ns mainGlobals mg → mg d.name = some (.ref fa) →
      ∃ fd : FuncData, (∀ (s : Shared) (u : Value), BindsTo s fd ⟨[u], []⟩ [("script", u)]) ∧ ∀ base : Heap, (K w.params).In base → base.Ns mainGlobals mg → FnOk l.prog w (K w.params) mg base CX0 6 fa fd ["script"] (spLaw (K w.params))) :
    PySem.W.WalkO q loose XP YP l.row.toRowW d [] (fun f vs => PySem.call f vs) :=
  L2.walk_of (n := 63) (k := 6) (x := "script") (CX := fun _ => CX0) (sp := fun w => spLaw (K w.params)) hn (by decide) hdf ⟨rfl, by decide, by decide⟩ hY F (fun _ _ a ns hl _ hS => ⟨a, ns, rfl, hS, hl, fun _ => rfl⟩) fun _ _ _ _ _ z => z
end K17
open PySem PySem.W PyProof.Rows
set_option maxRecDepth 100000 in
set_option maxHeartbeats 0 in
theorem PySem.Challenge.cw_rerunyard_k17_whole_taken_in_order_holds : PySem.Challenge.rw_rerunyard_k17_whole_taken_in_order.Holds := by
  w_on; o_law; k_head; (case hw => w_witness2)
  k_fill
  refine K17.walk (l := PySem.Challenge.rw_rerunyard_k17_whole_taken_in_order) rfl rfl (fun w h Y => PySem.W.kIn_of Y) ?F
  case F =>
    intro w mg fa h KX G hmg
    refine' K17.all_mk KX G hmg ?a1 ?l1 ?c1 ?k1 ?a2 ?l2 ?c2 ?k2 ?a3 ?l3 ?c3 ?k3 ?a4 ?l4 ?c4 ?k4 ?a5 ?l5 ?c5 ?k5 ?a6 ?l6 ?c6 ?k6 ?a7 ?l7 ?c7 ?k7 ?a8 ?l8 ?c8 ?k8 ?z1 ?z2 ?z3 ?z4 ?z5 ?z6 ?aListagenda ?pgListagenda ?hdListagenda ?poListagenda ?saListagenda ?mkListagenda ?kcListagenda ?nListagenda_things ?aListagenda_init ?iListagenda_init ?lListagenda_init ?cListagenda_init ?kListagenda_init ?aListagenda_put ?iListagenda_put ?lListagenda_put ?cListagenda_put ?kListagenda_put ?aListagenda_first ?iListagenda_first ?lListagenda_first ?cListagenda_first ?kListagenda_first ?aListagenda_take ?iListagenda_take ?lListagenda_take ?cListagenda_take ?kListagenda_take ?aListagenda_in_order ?iListagenda_in_order ?lListagenda_in_order ?cListagenda_in_order ?kListagenda_in_order ?aHeapagenda ?pgHeapagenda ?hdHeapagenda ?poHeapagenda ?saHeapagenda ?mkHeapagenda ?kcHeapagenda ?nHeapagenda_heap ?nHeapagenda_turn ?aHeapagenda_init ?iHeapagenda_init ?lHeapagenda_init ?cHeapagenda_init ?kHeapagenda_init ?aHeapagenda_put ?iHeapagenda_put ?lHeapagenda_put ?cHeapagenda_put ?kHeapagenda_put ?aHeapagenda_first ?iHeapagenda_first ?lHeapagenda_first ?cHeapagenda_first ?kHeapagenda_first ?aHeapagenda_take ?iHeapagenda_take ?lHeapagenda_take ?cHeapagenda_take ?kHeapagenda_take ?aHeapagenda_in_order ?iHeapagenda_in_order ?lHeapagenda_in_order ?cHeapagenda_in_order ?kHeapagenda_in_order
    (case a1 => k_is); (case l1 => k_is); (case c1 => k_is); (case k1 => k_is); (case a2 => k_is); (case l2 => k_is); (case c2 => k_is); (case k2 => k_is); (case a3 => k_is); (case l3 => k_is); (case c3 => k_is); (case k3 => k_is); (case a4 => k_is); (case l4 => k_is); (case c4 => k_is); (case k4 => k_is); (case a5 => k_is); (case l5 => k_is); (case c5 => k_is); (case k5 => k_is); (case a6 => k_is); (case l6 => k_is); (case c6 => k_is); (case k6 => k_is); (case a7 => k_is); (case l7 => k_is); (case c7 => k_is); (case k7 => k_is); (case a8 => k_is); (case l8 => k_is); (case c8 => k_is); (case k8 => k_is); (case z1 => k_is); (case z2 => k_is); (case z3 => k_is); (case z4 => k_is); (case z5 => k_is); (case z6 => k_is); (case aListagenda => k_is); (case pgListagenda => k_is); (case hdListagenda => k_is); (case poListagenda => k_is); (case saListagenda => k_is); (case mkListagenda => k_is); (case kcListagenda => k_is); (case nListagenda_things => k_is); (case aListagenda_init => k_is); (case iListagenda_init => k_is); (case lListagenda_init => k_is); (case cListagenda_init => k_is); (case kListagenda_init => k_is); (case aListagenda_put => k_is); (case iListagenda_put => k_is); (case lListagenda_put => k_is); (case cListagenda_put => k_is); (case kListagenda_put => k_is); (case aListagenda_first => k_is); (case iListagenda_first => k_is); (case lListagenda_first => k_is); (case cListagenda_first => k_is); (case kListagenda_first => k_is); (case aListagenda_take => k_is); (case iListagenda_take => k_is); (case lListagenda_take => k_is); (case cListagenda_take => k_is); (case kListagenda_take => k_is); (case aListagenda_in_order => k_is); (case iListagenda_in_order => k_is); (case lListagenda_in_order => k_is); (case cListagenda_in_order => k_is); (case kListagenda_in_order => k_is); (case aHeapagenda => k_is); (case pgHeapagenda => k_is); (case hdHeapagenda => k_is); (case poHeapagenda => k_is); (case saHeapagenda => k_is); (case mkHeapagenda => k_is); (case kcHeapagenda => k_is); (case nHeapagenda_heap => k_is); (case nHeapagenda_turn => k_is); (case aHeapagenda_init => k_is); (case iHeapagenda_init => k_is); (case lHeapagenda_init => k_is); (case cHeapagenda_init => k_is); (case kHeapagenda_init => k_is); (case aHeapagenda_put => k_is); (case iHeapagenda_put => k_is); (case lHeapagenda_put => k_is); (case cHeapagenda_put => k_is); (case kHeapagenda_put => k_is); (case aHeapagenda_first => k_is); (case iHeapagenda_first => k_is); (case lHeapagenda_first => k_is); (case cHeapagenda_first => k_is); (case kHeapagenda_first => k_is); (case aHeapagenda_take => k_is); (case iHeapagenda_take => k_is); (case lHeapagenda_take => k_is); (case cHeapagenda_take => k_is); (case kHeapagenda_take => k_is); (case aHeapagenda_in_order => k_is); (case iHeapagenda_in_order => k_is); (case lHeapagenda_in_order => k_is); (case cHeapagenda_in_order => k_is); (case kHeapagenda_in_order => k_is)
#print axioms PySem.Challenge.cw_rerunyard_k17_whole_taken_in_order_holds

