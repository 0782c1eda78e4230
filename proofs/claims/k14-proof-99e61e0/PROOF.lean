import PyProof.Rows.All
import Wide.All
import OpenK.AllK
import Wide.FinOn
import Lean
import PyProof.EqAt
import PyProof.EqKinds
import PyProof.TupleCall
import PyProof.ExcAttrAll.ValueError
import PySem.Challenge.RW_rerunyard_k14_whole_sound_programs
set_option genSizeOf false
set_option Elab.async false
set_option linter.all false
set_option maxRecDepth 100000
namespace L2
open PySem PySem.Spec PyProof.Rows
abbrev Key := Sum Int Str
def keyIs : Key → Value → Bool
  | .inl k, v => Value.isInt k v
  | .inr x, v => Value.isStrOf x v
def keyH (w : World) : Key → Int
  | .inl k => hashInt k
  | .inr x => hashStr w x
theorem keyIs_shape : ∀ {k : Key} {v : Value}, keyIs k v = true → (∃ i t, k = Sum.inl i ∧ v = Value.int i t) ∨ (∃ x t, k = Sum.inr x ∧ v = Value.str x t)
  | .inl i, v, h => by
    obtain ⟨t, e⟩ := Value.isInt_shape (k := i) (v := v) h
    exact .inl ⟨i, t, rfl, e⟩
  | .inr x, v, h => by
    obtain ⟨t, e⟩ := Value.isStrOf_shape (x := x) (v := v) h
    exact .inr ⟨x, t, rfl, e⟩
theorem keyIs_int (i : Int) (t : Tok) : keyIs (.inl i) (.int i t) = true := by simp [keyIs, Value.isInt]
theorem keyIs_str (x : Str) (t : Tok) : keyIs (.inr x) (.str x t) = true := by simp [keyIs, Value.isStrOf]
theorem key_ll (a b : Int) : decide ((Sum.inl a : Key) = Sum.inl b) = (a == b) := by
  by_cases e : a = b
  · subst e; simp
  · have h : ¬ (Sum.inl a : Key) = Sum.inl b := fun q => e (Sum.inl.inj q)
    rw [decide_eq_false h]
    exact (beq_eq_false_iff_ne.mpr e).symm
theorem key_rr (a b : Str) : decide ((Sum.inr a : Key) = Sum.inr b) = decide (a = b) := by
  by_cases e : a = b
  · subst e; simp
  · have h : ¬ (Sum.inr a : Key) = Sum.inr b := fun q => e (Sum.inr.inj q)
    rw [decide_eq_false h, decide_eq_false e]
theorem key_lr (a : Int) (b : Str) : decide ((Sum.inl a : Key) = Sum.inr b) = false := decide_eq_false (fun q => nomatch q)
theorem key_rl (a : Str) (b : Int) : decide ((Sum.inr a : Key) = Sum.inl b) = false := decide_eq_false (fun q => nomatch q)
def mixKind (prog : Program) (w : World) : PySem.KeyKind prog w Key where
  is := keyIs
  hash := keyH w
  inj := fun v a b ha hb => by
    rcases keyIs_shape ha with ⟨i, t, rfl, rfl⟩ | ⟨x, t, rfl, rfl⟩
    · rcases keyIs_shape hb with ⟨j, u, rfl, e⟩ | ⟨y, u, rfl, e⟩
      · injection e with e1 _; rw [e1]
      · exact nomatch e
    · rcases keyIs_shape hb with ⟨j, u, rfl, e⟩ | ⟨y, u, rfl, e⟩
      · exact nomatch e
      · injection e with e1 _; rw [e1]
  byValue := fun k v h => by
    rcases keyIs_shape h with ⟨i, t, rfl, rfl⟩ | ⟨x, t, rfl, rfl⟩ <;> rfl
  pyHash := fun hv h => by
    rcases keyIs_shape hv with ⟨i, t, rfl, rfl⟩ | ⟨x, t, rfl, rfl⟩
    · exact wpAny_pyHash_int h
    · exact wpAny_pyHash_str h
  eqBool := fun hu hv h => by
    rcases keyIs_shape hu with ⟨i, t, rfl, rfl⟩ | ⟨x, t, rfl, rfl⟩
    · rcases keyIs_shape hv with ⟨j, u, rfl, rfl⟩ | ⟨y, u, rfl, rfl⟩
      · rw [key_ll] at h; exact wpAny_eqBool_int h
      · rw [key_lr] at h; exact SeqAt.EqAt.int_str i t y u _ _ _ _ h
    · rcases keyIs_shape hv with ⟨j, u, rfl, rfl⟩ | ⟨y, u, rfl, rfl⟩
      · rw [key_rl] at h; exact SeqAt.EqAt.str_int x t j u _ _ _ _ h
      · rw [key_rr] at h; exact wpAny_eqBool_str h
  «strs» := fun k x t v h => by
    rcases keyIs_shape h with ⟨i, u, rfl, e⟩ | ⟨y, u, rfl, e⟩
    · exact nomatch e
    · injection e with e1 _
      subst e1
      cases v <;> rfl
theorem mixKind_int (prog : Program) (w : World) (i : Int) (t : Tok) : (mixKind prog w).is (.inl i) (.int i t) = true := keyIs_int i t
theorem mixKind_str (prog : Program) (w : World) (x : Str) (t : Tok) : (mixKind prog w).is (.inr x) (.str x t) = true := keyIs_str x t
end L2
namespace L2
open PySem PySem.Spec PyProof.Rows
inductive V where
  | non | bl (b : Bool) | int (i : Int) | str (x : Str) | byt (b : Array UInt8) | flt (b : UInt64) | ref (a : Addr) | ty (n : String)
  deriving DecidableEq
def RelV : V → Value → Prop
  | .non, u => u = Value.none
  | .bl b, u => u = Value.bool b
  | .int i, u => ∃ t, u = Value.int i t
  | .str x, u => ∃ t, u = Value.str x t
  | .byt b, u => ∃ t, u = Value.bytes b t
  | .flt b, u => ∃ t, u = Value.float b t
  | .ref a, u => u = Value.ref a
  | .ty n, u => u = Value.type n
abbrev Vals : List V → List Value → Prop := Paired RelV
theorem Vals.length {xs : List V} {us : List Value} (r : Vals xs us) : xs.length = us.length := Paired.length r
theorem Vals.get : ∀ {xs : List V} {us : List Value} {i : Nat} {x : V}, Vals xs us → xs[i]? = some x → ∃ u, us[i]? = some u ∧ RelV x u
  | _, _, _, _, .nil, e => by simp at e
  | _, _, 0, _, .cons r _, e => by simp at e; subst e; exact ⟨_, rfl, r⟩
  | _, _, i + 1, x, .cons _ t, e => by
    obtain ⟨u, h1, h2⟩ := Vals.get (i := i) (x := x) t (by simpa using e)
    exact ⟨u, by simpa using h1, h2⟩
theorem Vals.set {x : V} {u : Value} (r : RelV x u) : ∀ {xs : List V} {us : List Value} (i : Nat), Vals xs us → Vals (xs.set i x) (us.set i u)
  | _, _, _, .nil => .nil
  | _, _, 0, .cons _ t => .cons r t
  | _, _, i + 1, .cons q t => .cons q (Vals.set r i t)
theorem Vals.append : ∀ {xs ys : List V} {us ws : List Value}, Vals xs us → Vals ys ws → Vals (xs ++ ys) (us ++ ws)
  | _, _, _, _, .nil, s => s
  | _, _, _, _, .cons r t, s => .cons r (Vals.append t s)
theorem Vals.take : ∀ {xs : List V} {us : List Value} (n : Nat), Vals xs us → Vals (xs.take n) (us.take n)
  | _, _, 0, _ => .nil
  | _, _, _ + 1, .nil => .nil
  | _, _, n + 1, .cons r t => .cons r (Vals.take n t)
theorem Vals.drop : ∀ {xs : List V} {us : List Value} (n : Nat), Vals xs us → Vals (xs.drop n) (us.drop n)
  | _, _, 0, r => r
  | _, _, _ + 1, .nil => .nil
  | _, _, n + 1, .cons _ t => Vals.drop n t
def RelO : Option V → Option Value → Prop
  | some v, some u => RelV v u
  | none, none => True
  | _, _ => False
def KV {κ : Type} : List (κ × V) → List (κ × Value) → Prop := Paired fun (p : κ × V) (q : κ × Value) => p.1 = q.1 ∧ RelV p.2 q.2
def kV : Key → V
  | .inl i => .int i
  | .inr x => .str x
inductive HO where
    | lst (xs : List V)
    | tup (xs : List V)
    | dK (kvs : List (Key × V)) | dT (kvs : List (List Key × V))
    | set (S : Int → Bool) (n : Nat)
    | ins (C dx : Addr) (fs : List (Str × V))
    | own (x : Addr)
    | xd (fs : List (Str × V))
    | met (f x : Addr)
    | rng (lo hi : Int)
    | frz (o : Obj) (u : HO)
    | tbl (ps : Array Value)
    | ext (φ : Heap → Prop)
abbrev Hp := Addr → Option HO
def upd (H : Hp) (a : Addr) (o : HO) : Hp := fun b => if b = a then some o else H b
theorem upd_same {H : Hp} {a : Addr} {o : HO} : upd H a o a = some o := by unfold upd; rw [if_pos rfl]
theorem upd_ne {H : Hp} {a b : Addr} {o : HO} (h : b ≠ a) : upd H a o b = H b := by unfold upd; rw [if_neg h]
theorem ne_of {H : Hp} {a b : Addr} {o u : HO} (h : H a = some o) (h' : H b = some u) (d : o ≠ u) : a ≠ b := by
  intro e; subst e; rw [h] at h'; exact d (Option.some.inj h')
theorem ne_of_none {H : Hp} {a b : Addr} {o : HO} (h : H a = some o) (h' : H b = none) : a ≠ b := by
  intro e; subst e; rw [h] at h'; cases h'
section
variable (P : Program) (w : World)
def ObjOk (H : Hp) (h : Heap) (a : Addr) : HO → Prop
  | .lst xs => xs.length ≤ sizeLine ∧ ∃ (its : List Value) (n : Nat), Vals xs its ∧ h.get? a = some { cls := .type "list", data := .seq its.toArray n }
  | .tup xs => xs.length ≤ sizeLine ∧ ∃ its : List Value, Vals xs its ∧ IsTup h a its.toArray
  | .dK kvs => kvs.length ≤ sizeLine ∧ (a == sysModules) = false ∧ ∃ vs, KV kvs vs ∧ h.DictOf (mixKind P w) a vs
  | .dT kvs => kvs.length ≤ sizeLine ∧ (a == sysModules) = false ∧ ∃ xs : List (List Key × Addr × Value),
      Paired (fun (p : List Key × V) (q : List Key × Addr × Value) => p.1 = q.1 ∧ H q.2.1 = some (.tup (p.1.map kV)) ∧ RelV p.2 q.2.2) kvs xs ∧
      ∃ o es ep, h.get? a = some o ∧ o.ExactDict ∧ o.data = .dict es ep ∧ es.toList = xs.map (entryOfKey (tupleKind (mixKind P w))) ∧ (xs.map (·.1)).Nodup
  | .set S n => h.SetOf (intKind P w) a S n
  | .ins C dx fs => H dx = some (.own a) ∧ fs.length ≤ 1000 ∧ dx ≠ a ∧ h.get? a = some (PySem.W.instObj C dx) ∧
      ∃ mA, h.Ns1 dx mA ∧ (∀ f, RelO (fs.lookup f) (mA f)) ∧ PySem.Within mA (fs.map (·.1))
  | .own _ => ∃ o, h.get? a = some o
  | .xd fs => ∃ mA, h.Ns1 a mA ∧ ∀ f, RelO (fs.lookup f) (mA f)
  | .rng lo hi => ∃ t u v, h.get? a = some { cls := .type "range", data := .fields #[.int lo t, .int hi u, .int 1 v] }
  | .frz o u => h.get? a = some o ∧ ObjOk H h a u
  | .tbl ps => h.get? a = some { cls := .none, data := .fields ps }
  | .met f x => h.get? a = some (PySem.W.methodObj (.ref f) (.ref x))
  | .ext φ => φ h ∧ (∃ o, h.get? a = some o) ∧ ∀ h1 h2 : Heap, φ h1 → (∀ o, h1.get? a = some o → h2.get? a = some o) → φ h2
def HOk (H : Hp) (h : Heap) : Prop := ∀ a o, H a = some o → ObjOk P w H h a o
end
section
variable {P : Program} {w : World} {H H' : Hp} {h h' : Heap} {a : Addr} {o : HO}
theorem ObjOk.lt (x : ObjOk P w H h a o) : a < h.objs.size := by
  cases o with
  | lst xs => obtain ⟨_, _, _, _, e⟩ := x; exact Heap.lt_size e
  | tup xs => obtain ⟨_, _, _, p⟩ := x; exact p.lt
  | dK kvs => obtain ⟨_, _, _, _, o, _, _, e, _⟩ := x; exact Heap.lt_size e
  | dT kvs => obtain ⟨_, _, _, _, o, _, _, e, _⟩ := x; exact Heap.lt_size e
  | set S n => obtain ⟨o, _, _, _, e, _⟩ := x; exact Heap.lt_size e
  | ins C dx fs => obtain ⟨_, _, _, e, _⟩ := x; exact Heap.lt_size e
  | own y => obtain ⟨_, e⟩ := x; exact Heap.lt_size e
  | xd fs => obtain ⟨_, ⟨_, _, _, e, _⟩, _⟩ := x; exact Heap.lt_size e
  | rng lo hi => obtain ⟨_, _, _, e⟩ := x; exact Heap.lt_size e
  | frz ob u => obtain ⟨e, _⟩ := x; exact Heap.lt_size e
  | tbl ps => exact Heap.lt_size (show h.get? a = some _ from x)
  | met f y => exact Heap.lt_size (show h.get? a = some _ from x)
  | ext φ => obtain ⟨_, ⟨_, e⟩, _⟩ := x; exact Heap.lt_size e
theorem Paired.mapP {α β : Type} {F G : α → β → Prop} : ∀ {l₁ : List α} {l₂ : List β}, Paired F l₁ l₂ → (∀ a b, F a b → G a b) → Paired G l₁ l₂
  | _, _, .nil, _ => .nil
  | _, _, .cons r t, f => .cons (f _ _ r) (Paired.mapP t f)
theorem ObjOk.stay (x : ObjOk P w H h a o) (k : ∀ b u, (b = a ∨ H b = some (.own a)) → h.get? b = some u → h'.get? b = some u)
    (ho : ∀ b, H b = some (.own a) → H' b = some (.own a)) (ht : ∀ b xs, H b = some (.tup xs) → H' b = some (.tup xs)) : ObjOk P w H' h' a o := by
  induction o with
  | lst xs => obtain ⟨z, its, n, r, e⟩ := x; exact ⟨z, its, n, r, k _ _ (.inl rfl) e⟩
  | tup xs => obtain ⟨z, its, r, ob, e, c⟩ := x; exact ⟨z, its, r, ob, k _ _ (.inl rfl) e, c⟩
  | dK kvs => obtain ⟨z, y, vs, r, ob, es, ep, e, c⟩ := x; exact ⟨z, y, vs, r, ob, es, ep, k _ _ (.inl rfl) e, c⟩
  | dT kvs =>
    obtain ⟨z, y, xs, r, ob, es, ep, e, c⟩ := x
    exact ⟨z, y, xs, Paired.mapP r fun p q z => ⟨z.1, ht _ _ z.2.1, z.2.2⟩, ob, es, ep, k _ _ (.inl rfl) e, c⟩
  | set S n => obtain ⟨ob, es, ep, t, e, c⟩ := x; exact ⟨ob, es, ep, t, k _ _ (.inl rfl) e, c⟩
  | ins C dx fs =>
    obtain ⟨d, z, ne, e, mA, ⟨od, es, ep, e2, c⟩, r⟩ := x
    exact ⟨ho _ d, z, ne, k _ _ (.inl rfl) e, mA, ⟨od, es, ep, k _ _ (.inr d) e2, c⟩, r⟩
  | own y => obtain ⟨ob, e⟩ := x; exact ⟨ob, k _ _ (.inl rfl) e⟩
  | xd fs => obtain ⟨mA, ⟨od, es, ep, e, c⟩, r⟩ := x; exact ⟨mA, ⟨od, es, ep, k _ _ (.inl rfl) e, c⟩, r⟩
  | rng lo hi => obtain ⟨t, u, v, e⟩ := x; exact ⟨t, u, v, k _ _ (.inl rfl) e⟩
  | frz ob u ih => obtain ⟨e, q⟩ := x; exact ⟨k _ _ (.inl rfl) e, ih q⟩
  | tbl ps =>
    have e : h.get? a = some { cls := .none, data := .fields ps } := x
    show h'.get? a = some { cls := .none, data := .fields ps }
    exact k a _ (.inl rfl) e
  | met f y =>
    have e : h.get? a = some (PySem.W.methodObj (.ref f) (.ref y)) := x
    show h'.get? a = some (PySem.W.methodObj (.ref f) (.ref y))
    exact k a _ (.inl rfl) e
  | ext φ => obtain ⟨p, ⟨o, e⟩, st⟩ := x; exact ⟨st _ _ p fun o q => k _ _ (.inl rfl) q, ⟨o, k _ _ (.inl rfl) e⟩, st⟩
theorem HOk.lt (x : HOk P w H h) (e : H a = some o) : a < h.objs.size := (x a o e).lt
theorem HOk.fresh (x : HOk P w H h) (e : h.objs.size ≤ a) : H a = none := by
  cases q : H a with
  | none => rfl
  | some u => exact absurd (Nat.lt_of_lt_of_le (x.lt q) e) (Nat.lt_irrefl _)
theorem HOk.kept (x : HOk P w H h) (k : ∀ b u, h.get? b = some u → h'.get? b = some u) : HOk P w H h' := fun a o e =>
  (x a o e).stay (fun b u _ q => k b u q) (fun _ q => q) fun _ _ q => q
theorem HOk.laid (x : HOk P w H h) (k : ∀ b u, h.get? b = some u → h'.get? b = some u) (hp : h.objs.size ≤ a) (new : ObjOk P w (upd H a o) h' a o) : HOk P w (upd H a o) h' := fun b u e => by
  have hn := x.fresh hp
  by_cases hb : b = a
  · subst hb; rw [upd_same] at e; cases e; exact new
  · rw [upd_ne hb] at e
    exact (x b u e).stay (fun c v _ q => k c v q) (fun c q => by rw [upd_ne (ne_of_none q hn)]; exact q) fun c xs q => by rw [upd_ne (ne_of_none q hn)]; exact q
end
def Rd (H : Hp) (a : Addr) (u : HO) : Prop := H a = some u ∨ ∃ o, H a = some (.frz o u)
theorem Rd.of {H : Hp} {a : Addr} {u : HO} (h : H a = some u) : Rd H a u := .inl h
theorem Rd.ok {P : Program} {w : World} {H : Hp} {h : Heap} {a : Addr} {u : HO} (r : Rd H a u) (x : HOk P w H h) : ObjOk P w H h a u := by
  rcases r with r | ⟨o, r⟩
  · exact x a u r
  · obtain ⟨_, q⟩ := x a _ r
    exact q
def Mut : Option HO → Prop
  | some (.lst _) => True
  | some (.dK _) => True
  | some (.dT _) => True
  | some (.set _ _) => True
  | some (.ins _ _ _) => True
  | some (.ext _) => True
  | _ => False
section
variable {P : Program} {w : World} {H : Hp} {h h' : Heap} {x e : Addr} {o' : HO}
theorem HOk.write (ok : HOk P w H h) (mu : Mut (H x)) (he : e = x ∨ H e = some (.own x)) (k : ∀ b u, b ≠ e → h.get? b = some u → h'.get? b = some u) (heo : ∃ u, h'.get? e = some u)
    (new : ObjOk P w (upd H x o') h' x o') : HOk P w (upd H x o') h' := fun b u q => by
  have nown : ∀ c y, H c = some (.own y) → c ≠ x := fun c y r z => by subst z; rw [r] at mu; exact mu
  have ntup : ∀ c xs, H c = some (.tup xs) → c ≠ x := fun c xs r z => by subst z; rw [r] at mu; exact mu
  by_cases hb : b = x
  · subst hb; rw [upd_same] at q; cases q; exact new
  · rw [upd_ne hb] at q
    by_cases hbe : b = e
    · have q' : H b = some (.own x) := by
        rcases he with z | z
        · exact absurd (hbe.trans z) hb
        · rw [hbe]; exact z
      rw [q] at q'; cases q'
      obtain ⟨v, hv⟩ := heo
      exact ⟨v, by rw [hbe]; exact hv⟩
    · refine (ok b u q).stay (fun c v hc r => k c v ?_ r) (fun c r => by rw [upd_ne (nown c b r)]; exact r) fun c xs r => by rw [upd_ne (ntup c xs r)]; exact r
      rcases hc with rfl | hc
      · exact hbe
      · rintro rfl
        rcases he with z | z
        · exact nown c b hc z
        · rw [hc] at z; cases z; exact hb rfl
end
structure Un (fs ex : List Addr) (H H' : Hp) (h h' : Heap) : Prop where
  keep : ∀ b o, h.get? b = some o → H b = none → b ∉ fs → b ∉ ex → h'.get? b = some o
  slot : ∀ b o, h.get? b = some o → H b = none → b ∈ fs → b ∉ ex → ∃ sl, h'.get? b = some { o with slots := sl }
  free : ∀ b o, h.get? b = some o → H b = none → b ∉ ex → H' b = none
  there : ∀ b o, h.get? b = some o → b ∉ ex → ∃ o', h'.get? b = some o'
  tups : ∀ b xs, H b = some (.tup xs) → H' b = some (.tup xs)
  frzs : ∀ b o u, H b = some (.frz o u) → H' b = some (.frz o u)
  tbls : ∀ b ps, H b = some (.tbl ps) → ∃ more, H' b = some (.tbl (ps ++ more))
section
variable {fs fs' ex ex' : List Addr} {H H1 H2 : Hp} {h h1 h2 h' : Heap} {a x e : Addr} {o : HO}
theorem Un.any (u : Un fs ex H H1 h h1) {b : Addr} {ob : Obj} (q : h.get? b = some ob) (n : H b = none) (hx : b ∉ ex) : ∃ sl, h1.get? b = some { ob with slots := sl } := by
  by_cases hb : b ∈ fs
  · exact u.slot b ob q n hb hx
  · exact ⟨ob.slots, u.keep b ob q n hb hx⟩
theorem Un.kept (k : ∀ b u, h.get? b = some u → h'.get? b = some u) : Un fs ex H H h h' :=
  ⟨fun b ob q _ _ _ => k b ob q, fun b ob q _ _ _ => ⟨ob.slots, k b ob q⟩, fun _ _ _ n _ => n, fun b ob q _ => ⟨ob, k b ob q⟩, fun _ _ q => q, fun _ _ _ q => q, fun _ ps q => ⟨#[], by rw [q]; simp⟩⟩
theorem Un.refl : Un fs ex H H h h := Un.kept fun _ _ q => q
theorem Un.laid (k : ∀ b u, h.get? b = some u → h'.get? b = some u) (hp : h.objs.size ≤ a) (hn : H a = none) : Un fs ex H (upd H a o) h h' where
  keep := fun b u q _ _ _ => k b u q
  slot := fun b u q _ _ _ => ⟨u.slots, k b u q⟩
  free := fun b u q n _ => by rw [upd_ne (Nat.ne_of_lt (Nat.lt_of_lt_of_le (Heap.lt_size q) hp))]; exact n
  there := fun b u q _ => ⟨u, k b u q⟩
  tups := fun b xs q => by rw [upd_ne (ne_of_none q hn)]; exact q
  frzs := fun b u xs q => by rw [upd_ne (ne_of_none q hn)]; exact q
  tbls := fun b ps q => ⟨#[], by rw [upd_ne (ne_of_none q hn), q]; simp⟩
theorem Un.write (mu : Mut (H x)) (he : e = x ∨ H e = some (.own x)) (k : ∀ b u, b ≠ e → h.get? b = some u → h'.get? b = some u) (heo : ∃ u, h'.get? e = some u) : Un fs ex H (upd H x o) h h' := by
  have hx : ∀ b, H b = none → b ≠ x := fun b n z => by subst z; rw [n] at mu; exact mu
  have hb : ∀ b, H b = none → b ≠ e := fun b n z => by
    subst z
    rcases he with r | r
    · exact hx b n r
    · rw [n] at r; cases r
  have hm : ∀ b u, H b = some u → ¬ Mut (some u) → b ≠ x := fun b u q nm z => by subst z; rw [q] at mu; exact nm mu
  refine ⟨fun b u q n _ _ => k b u (hb b n) q, fun b u q n _ _ => ⟨u.slots, k b u (hb b n) q⟩, fun b u q n _ => by rw [upd_ne (hx b n)]; exact n, fun b u q _ => ?_,
    fun b xs q => by rw [upd_ne (hm b _ q fun z => z)]; exact q, fun b u xs q => by rw [upd_ne (hm b _ q fun z => z)]; exact q, fun b ps q => ⟨#[], by rw [upd_ne (hm b _ q fun z => z), q]; simp⟩⟩
  by_cases hbe : b = e
  · subst hbe; exact heo
  · exact ⟨u, k b u hbe q⟩
end
def trk (h : Heap) (H : Hp) : List Addr := (List.range h.objs.size).filter fun a => (H a).isSome
def hidT (h : Heap) (H : Hp) : Heap := PySem.W.hideAll h (trk h H)
theorem hidT_size (h : Heap) (H : Hp) : (hidT h H).objs.size = h.objs.size := PySem.W.hideAll_size _ _
theorem hidT_get {h : Heap} {H : Hp} {b : Addr} {o : Obj} (e : h.get? b = some o) (n : H b = none) : (hidT h H).get? b = some o :=
  PySem.W.hideAll_get _ e fun hm => by
    have q : (H b).isSome = true := (List.mem_filter.mp hm).2
    rw [n] at q; simp at q
theorem of_hidT {h : Heap} {H : Hp} {b : Addr} {o : Obj} (e : (hidT h H).get? b = some o) : h.get? b = some o ∧ H b = none := by
  have e' : h.get? b = some o := PySem.W.of_hideAll (trk h H) e
  refine ⟨e', ?_⟩
  cases q : H b with
  | none => rfl
  | some x =>
    have hm : b ∈ trk h H := List.mem_filter.mpr ⟨List.mem_range.mpr (Heap.lt_size e'), by simp [q]⟩
    have z : (hidT h H).get? b = none := PySem.W.hideAll_none (trk h H) hm
    rw [z] at e; cases e
def allNews (g h : Heap) (L : Addr) : List (Addr × Obj) := (List.range h.objs.size).filterMap fun a => if a = L ∨ (g.get? a).isSome = true then none else (h.get? a).map fun o => (a, o)
def rest (g h : Heap) (L d : Addr) : List (Addr × Obj) := (allNews g h L).filter fun p => decide (p.1 ≠ d)
end L2
namespace L2
open PySem PySem.Spec PyProof.Rows
structure Mod (K : PySem.W.Frag) (mg : Str → Option Value) (base : Heap) : Prop where
  kin : K.In base
  glob : base.Ns mainGlobals mg
  blt : ∃ mb, base.Ns builtinsNs mb ∧ ∀ x : Str, x ≠ "__name__" → mb x = bootBuiltins x
  nolimit : base.NoLimit
structure Cx where
  prog : Program
  w : World
  K : PySem.W.Frag
  mg : Str → Option Value
  base : Heap
  A : Around
  N : List Str
  s₀ : Shared
  H₀ : Hp
  env : Env
  outer : List Env
  stack : List Env
  ex : List Addr
  fn : Str → Bool
  calm : Bool
  pn : List (Addr × Obj)
  xe : Value → Shared → Prop
def frs (l : List Env) : List Addr := l.filterMap (·.frame)
abbrev Cx.fs (X : Cx) : List Addr := frs X.outer
def Vis (sc : Scope) (x : Str) : Prop := sc.names.lookup x = some .local ∨ sc.names.lookup x = some .cell ∨ sc.names.lookup x = some .free
def Loc (sc : Scope) (x : Str) : Prop := sc.names.lookup x = some .local ∨ sc.names.lookup x = some .cell
def Look (env : Env) (h : Heap) (m : Str → Option Value) (x : Str) (u : Value) : Prop :=
  (env.kindOf x = some .local ∧ m x = some u) ∨ ((env.kindOf x = some .cell ∨ env.kindOf x = some .free) ∧ ∃ c, env.cells.lookup x = some c ∧ h.IsCell c (some u))
structure Cx.Ok (X : Cx) : Prop where
  mod : Mod X.K X.mg X.base
  kind : X.env.scope.kind = .function
  glob : X.env.globals = mainGlobals
  blt : X.env.builtins = builtinsNs
  above : X.s₀.heap.objs.size ≤ X.env.locals
  inj : ∀ x y c, X.env.cells.lookup x = some c → X.env.cells.lookup y = some c → x = y
  has : ∀ x, (X.env.kindOf x = some .cell ∨ X.env.kindOf x = some .free) → ∃ c, X.env.cells.lookup x = some c
  cab : ∀ x c, X.fn x = true → X.env.cells.lookup x = some c → X.s₀.heap.objs.size ≤ c
  hd : X.calm = true → X.A.handled = none
  frames : X.A.frames = some X.stack
  stk : X.stack = X.outer ∨ (X.stack = X.env :: X.outer ∧ X.env.frame = some X.env.locals)
  exf : ∀ b ∈ X.ex, b ≠ X.env.locals ∧ ∀ x c, X.env.cells.lookup x = some c → c ≠ b
  bs : ∀ b o, X.base.get? b = some o → X.s₀.heap.get? b = some o ∧ X.H₀ b = none
  bsz : X.base.objs.size ≤ X.s₀.heap.objs.size
  noex : ∀ b o, X.base.get? b = some o → b ∉ X.ex
  exfs : ∀ b ∈ X.ex, b ∉ X.fs
  funs : X.s₀.heap.FunFrames X.base X.outer
  frf : ∀ b ∈ X.fs, X.H₀ b = none
structure Inv (X : Cx) (pins : List (Addr × Obj)) (σ : List (Option V)) (H : Hp) (s : Shared) : Prop where
  ok : X.Ok
  os : s.os = X.s₀.os
  bare : AllBare s.gens
  base : Un X.fs X.ex X.H₀ H X.s₀.heap s.heap
  loc : ∃ m, s.heap.Ns X.env.locals m ∧ ∀ (i : Nat) (x : Str) (v : V), X.N[i]? = some x → σ[i]? = some (some v) → Vis X.env.scope x → ∃ u, RelV v u ∧ Look X.env s.heap m x u
  cell : ∀ x c, X.env.cells.lookup x = some c → ∃ v, s.heap.IsCell c v
  free : H X.env.locals = none
  freeC : ∀ x c, X.env.cells.lookup x = some c → H c = none
  pin : ∀ p ∈ X.pn ++ pins, s.heap.get? p.1 = some p.2 ∧ H p.1 = none ∧ p.1 ≠ X.env.locals ∧ p.1 ∉ X.fs ∧ ∀ v, p.2.data ≠ .cell v
  hok : HOk X.prog X.w H s.heap
  len : σ.length = X.N.length
section
variable {X : Cx} {pins : List (Addr × Obj)} {σ : List (Option V)} {H H' : Hp} {s : Shared} {h' : Heap}
theorem Cx.Ok.nofr (ok : X.Ok) {b : Addr} {o : Obj} (e : X.base.get? b = some o) : b ∉ X.fs := fun hb => by
  have := (ok.funs.mem hb).1
  rw [e] at this; cases this
theorem Inv.bs (I : Inv X pins σ H s) : ∀ b o, X.base.get? b = some o → s.heap.get? b = some o ∧ H b = none := fun b o e =>
  ⟨I.base.keep b o (I.ok.bs b o e).1 (I.ok.bs b o e).2 (I.ok.nofr e) (I.ok.noex b o e), I.base.free b o (I.ok.bs b o e).1 (I.ok.bs b o e).2 (I.ok.noex b o e)⟩
theorem Inv.bk (I : Inv X pins σ H s) : ∀ b o, X.base.get? b = some o → s.heap.get? b = some o := fun b o e => (I.bs b o e).1
theorem Inv.mod (I : Inv X pins σ H s) : Mod X.K X.mg X.base := I.ok.mod
theorem Inv.kIn (I : Inv X pins σ H s) : X.K.In s.heap := I.ok.mod.kin.keeps I.bk
theorem Inv.lt (I : Inv X pins σ H s) : X.env.locals < s.heap.objs.size := let ⟨_, hn, _⟩ := I.loc; hn.lt
theorem Inv.sz (I : Inv X pins σ H s) : X.s₀.heap.objs.size ≤ s.heap.objs.size := Nat.le_trans I.ok.above (Nat.le_of_lt I.lt)
theorem Inv.nofs (I : Inv X pins σ H s) {a : Addr} (h : s.heap.objs.size ≤ a) : a ∉ X.fs := fun hb => by
  obtain ⟨_, o, ho, _⟩ := I.ok.funs.mem hb
  exact absurd (Nat.lt_of_lt_of_le (Heap.lt_size ho) (Nat.le_trans I.sz h)) (Nat.lt_irrefl _)
theorem Inv.cne (I : Inv X pins σ H s) : ∀ x c, X.env.cells.lookup x = some c → c ≠ X.env.locals := fun x c e z => by
  obtain ⟨v, o, ho, hd⟩ := I.cell x c e
  obtain ⟨m, ⟨o', es, ep, ho', hd', _⟩, _⟩ := I.loc
  rw [z, ho'] at ho; cases ho; rw [hd'] at hd; cases hd
theorem Inv.funs (I : Inv X pins σ H s) : s.heap.FunFrames X.base X.outer := by
  have all : ∀ (l : List Env), (∀ b ∈ frs l, b ∈ X.fs) → X.s₀.heap.FunFrames X.base l → s.heap.FunFrames X.base l := by
    intro l
    induction l with
    | nil => intro _ _; trivial
    | cons env r ih =>
      intro hs hl
      obtain ⟨hk, ⟨L, o, hf, hn, ho, hd⟩, hr⟩ := hl
      have hL : L ∈ X.fs := hs L (by unfold frs; rw [List.filterMap_cons, hf]; exact List.mem_cons_self)
      obtain ⟨sl, e⟩ := I.base.slot L o ho (I.ok.frf L hL) hL fun z => I.ok.exfs L z hL
      exact ⟨hk, ⟨L, _, hf, hn, e, hd⟩, ih (fun b hb => hs b (by unfold frs; rw [List.filterMap_cons, hf]; exact List.mem_cons_of_mem _ hb)) hr⟩
  exact all X.outer (fun _ hb => hb) I.ok.funs
theorem Inv.stack (I : Inv X pins σ H s) : s.heap.FunFrames X.base X.stack := by
  rcases I.ok.stk with e | ⟨e, hf⟩
  · rw [e]; exact I.funs
  · rw [e]
    obtain ⟨m, hn, _⟩ := I.loc
    refine .cons (by rw [I.ok.kind]; decide) hf hn ?_ I.funs
    exact Heap.get?_none_of_le (Nat.le_trans I.ok.bsz I.ok.above)
theorem Inv.stkSub (I : Inv X pins σ H s) : ∀ b ∈ frs X.stack, b ∈ X.env.locals :: X.fs := fun b hb => by
  rcases I.ok.stk with e | ⟨e, hf⟩
  · rw [e] at hb; exact List.mem_cons_of_mem _ hb
  · rw [e] at hb
    unfold frs at hb
    rw [List.filterMap_cons, hf] at hb
    exact hb
theorem Inv.stkFree (I : Inv X pins σ H s) : ∀ b ∈ frs X.stack, H b = none := fun b hb => by
  rcases List.mem_cons.mp (I.stkSub b hb) with e | hb
  · rw [e]; exact I.free
  · obtain ⟨_, o, ho, _⟩ := I.ok.funs.mem hb
    exact I.base.free b o ho (I.ok.frf b hb) fun z => I.ok.exfs b z hb
theorem Inv.step {g' : Array GenState} {t' : Nat} {d' : Drawn} {ch : List Addr} (I : Inv X pins σ H s)
    (hch : ∀ b ∈ ch, (b ∈ X.ex ∨ X.s₀.heap.objs.size ≤ b) ∧ b ≠ X.env.locals ∧ (∀ x c, X.env.cells.lookup x = some c → c ≠ b) ∧ ∀ p ∈ X.pn ++ pins, p.1 ≠ b)
    (keep : ∀ b o, b ≠ X.env.locals → b ∉ X.fs → b ∉ ch → s.heap.get? b = some o → H b = none → h'.get? b = some o)
    (slot : ∀ b o, b ≠ X.env.locals → b ∈ X.fs → b ∉ ch → s.heap.get? b = some o → H b = none → ∃ sl, h'.get? b = some { o with slots := sl }) (free : ∀ b o, b ∉ ch → s.heap.get? b = some o → H b = none → H' b = none)
    (there : ∀ b o, b ∉ ch → s.heap.get? b = some o → ∃ o', h'.get? b = some o')
    (tups : ∀ b xs, H b = some (.tup xs) → H' b = some (.tup xs)) (frzs : ∀ b o u, H b = some (.frz o u) → H' b = some (.frz o u)) (tbls : ∀ b ps, H b = some (.tbl ps) → ∃ more, H' b = some (.tbl (ps ++ more)))
    (ns : ∀ m, s.heap.Ns X.env.locals m → h'.Ns X.env.locals m) (hok : HOk X.prog X.w H' h') (hg : AllBare g') :
    Inv X pins σ H' { s with heap := h', gens := g', drawn := d', toks := t' } := by
  have neL : ∀ b o, X.s₀.heap.get? b = some o → b ≠ X.env.locals := fun b o e => Nat.ne_of_lt (Nat.lt_of_lt_of_le (Heap.lt_size e) I.ok.above)
  have neC : ∀ b o, X.s₀.heap.get? b = some o → b ∉ X.ex → b ∉ ch := fun b o e hx hb => by
    rcases (hch b hb).1 with z | z
    · exact hx z
    · exact absurd (Nat.lt_of_lt_of_le (Heap.lt_size e) z) (Nat.lt_irrefl _)
  have cellK : ∀ x c, X.env.cells.lookup x = some c → ∀ v, s.heap.IsCell c v → h'.IsCell c v := fun x c e v ⟨o, ho, hd⟩ => by
    have nch : c ∉ ch := fun z => (hch c z).2.2.1 x c e rfl
    by_cases hc : c ∈ X.fs
    · obtain ⟨sl, q⟩ := slot c o (I.cne x c e) hc nch ho (I.freeC x c e)
      exact ⟨_, q, hd⟩
    · exact ⟨o, keep c o (I.cne x c e) hc nch ho (I.freeC x c e), hd⟩
  refine ⟨I.ok, I.os, hg, ⟨fun b o e n hb hx => ?_, fun b o e n hb hx => ?_, fun b o e n hx => ?_, fun b o e hx => ?_, fun b xs e => tups b xs (I.base.tups b xs e), fun b o xs e => frzs b o xs (I.base.frzs b o xs e), fun b ps e => ?_⟩, ?_, fun x c e => ?_, ?_, fun x c e => ?_, fun p hp => ?_, hok, I.len⟩
  · exact keep b o (neL b o e) hb (neC b o e hx) (I.base.keep b o e n hb hx) (I.base.free b o e n hx)
  · obtain ⟨sl, e1⟩ := I.base.slot b o e n hb hx
    obtain ⟨sl', e2⟩ := slot b _ (neL b o e) hb (neC b o e hx) e1 (I.base.free b o e n hx)
    exact ⟨sl', e2⟩
  · obtain ⟨o', e1⟩ := I.base.there b o e hx
    exact free b o' (neC b o e hx) e1 (I.base.free b o e n hx)
  · obtain ⟨o', e1⟩ := I.base.there b o e hx
    exact there b o' (neC b o e hx) e1
  · obtain ⟨m1, e1⟩ := I.base.tbls b ps e
    obtain ⟨m2, e2⟩ := tbls b _ e1
    exact ⟨m1 ++ m2, by rw [e2, Array.append_assoc]⟩
  · obtain ⟨m, hn, hl⟩ := I.loc
    refine ⟨m, ns m hn, fun i x v e1 e2 e3 => ?_⟩
    obtain ⟨u, r, l⟩ := hl i x v e1 e2 e3
    refine ⟨u, r, ?_⟩
    rcases l with l | ⟨k, c, e, z⟩
    · exact .inl l
    · exact .inr ⟨k, c, e, cellK x c e _ z⟩
  · obtain ⟨v, z⟩ := I.cell x c e
    exact ⟨v, cellK x c e v z⟩
  · obtain ⟨m, ⟨o, _, _, ho, _⟩, _⟩ := I.loc
    exact free _ o (fun z => (hch _ z).2.1 rfl) ho I.free
  · obtain ⟨v, o, ho, hd⟩ := I.cell x c e
    exact free c o (fun z => (hch c z).2.2.1 x c e rfl) ho (I.freeC x c e)
  · obtain ⟨e, n, ne, nf, d⟩ := I.pin p hp
    have nch : p.1 ∉ ch := fun z => (hch p.1 z).2.2.2 p hp rfl
    exact ⟨keep p.1 p.2 ne nf nch e n, free p.1 p.2 nch e n, ne, nf, d⟩
theorem Inv.un {t' : Nat} (I : Inv X pins σ H s) (u : Un X.fs [] H H' s.heap h') (hok : HOk X.prog X.w H' h') : Inv X pins σ H' { s with heap := h', toks := t' } := by
  obtain ⟨m, ⟨o, es, ep, ho, r⟩, _⟩ := id I.loc
  obtain ⟨sl, hL⟩ := u.any ho I.free (by simp)
  exact I.step (g' := s.gens) (d' := s.drawn) (ch := []) (fun _ z => nomatch z) (fun b o _ hb _ e n => u.keep b o e n hb (by simp)) (fun b o _ hb _ e n => u.slot b o e n hb (by simp)) (fun b o _ e n => u.free b o e n (by simp)) (fun b o _ e => u.there b o e (by simp)) u.tups u.frzs u.tbls (fun m' hm => by
    obtain ⟨o', es', ep', ho', r'⟩ := hm
    rw [ho] at ho'; cases ho'
    exact ⟨_, es', ep', hL, r'⟩) hok I.bare
theorem Inv.call {g' : Array GenState} {t' : Nat} {d' : Drawn} {ch : List Addr} (I : Inv X pins σ H s) (u : Un (frs X.stack) ch H H' s.heap h') (hok : HOk X.prog X.w H' h') (hg : AllBare g')
    (hch : ∀ b ∈ ch, (b ∈ X.ex ∨ X.s₀.heap.objs.size ≤ b) ∧ b ≠ X.env.locals ∧ (∀ x c, X.env.cells.lookup x = some c → c ≠ b) ∧ ∀ p ∈ X.pn ++ pins, p.1 ≠ b) :
    Inv X pins σ H' { s with heap := h', gens := g', drawn := d', toks := t' } := by
  obtain ⟨m, ⟨o, es, ep, ho, r⟩, _⟩ := id I.loc
  obtain ⟨sl, hL⟩ := u.any ho I.free fun z => (hch _ z).2.1 rfl
  exact I.step (ch := ch) hch (fun b o hL hb hc e n => u.keep b o e n (fun z => (List.mem_cons.mp (I.stkSub b z)).elim hL hb) hc) (fun b o _ _ hc e n => u.any e n hc) (fun b o hc e n => u.free b o e n hc) (fun b o hc e => u.there b o e hc) u.tups u.frzs u.tbls (fun m' hm => by
    obtain ⟨o', es', ep', ho', r'⟩ := hm
    rw [ho] at ho'; cases ho'
    exact ⟨_, es', ep', hL, r'⟩) hok hg
theorem Inv.turned {t' : Nat} {it : Addr} (I : Inv X pins σ H s) (k : ∀ b o, b ≠ it → s.heap.get? b = some o → h'.get? b = some o) (hn : H it = none) (hL : it ≠ X.env.locals)
    (h1 : it ∈ X.ex ∨ X.s₀.heap.objs.size ≤ it) (h2 : ∀ x c, X.env.cells.lookup x = some c → c ≠ it) (h3 : ∀ p ∈ X.pn ++ pins, p.1 ≠ it) : Inv X pins σ H { s with heap := h', toks := t' } := by
  have nit : ∀ b u, H b = some u → b ≠ it := fun b u e z => by rw [z, hn] at e; cases e
  refine I.step (g' := s.gens) (d' := s.drawn) (ch := [it]) (fun b hb => ?_) (fun b o _ _ hc e _ => k b o (fun z => hc (by simp [z])) e) (fun b o _ _ hc e _ => ⟨o.slots, k b o (fun z => hc (by simp [z])) e⟩) (fun _ _ _ _ n => n)
    (fun b o hc e => ⟨o, k b o (fun z => hc (by simp [z])) e⟩) (fun _ _ e => e) (fun _ _ _ e => e) (fun b ps e => ⟨#[], by rw [e]; simp⟩) (fun m hm => ?_) (fun b u e => ?_) I.bare
  · have e : b = it := by simpa using hb
    subst e
    exact ⟨h1, hL, h2, h3⟩
  · obtain ⟨o, es, ep, ho, r⟩ := hm
    exact ⟨o, es, ep, k _ o (Ne.symm hL) ho, r⟩
  · refine (I.hok b u e).stay (fun c v hc q => k c v ?_ q) (fun _ q => q) fun _ _ q => q
    rcases hc with z | z
    · rw [z]; exact nit b u e
    · exact nit c _ z
theorem Inv.tok (I : Inv X pins σ H s) (t : Nat) : Inv X pins σ H { s with toks := t } := I.un (h' := s.heap) (t' := t) Un.refl I.hok
theorem Inv.kept {t' : Nat} (I : Inv X pins σ H s) (k : ∀ b u, s.heap.get? b = some u → h'.get? b = some u) : Inv X pins σ H { s with heap := h', toks := t' } := I.un (Un.kept k) (I.hok.kept k)
theorem Inv.laid {a : Addr} {o : HO} {t' : Nat} (I : Inv X pins σ H s) (k : ∀ b u, s.heap.get? b = some u → h'.get? b = some u) (hp : s.heap.objs.size ≤ a) (new : ObjOk X.prog X.w (upd H a o) h' a o) :
    Inv X pins σ (upd H a o) { s with heap := h', toks := t' } := I.un (Un.laid k hp (I.hok.fresh hp)) (I.hok.laid k hp new)
theorem Inv.write {x e : Addr} {o : HO} {t' : Nat} (I : Inv X pins σ H s) (mu : Mut (H x)) (he : e = x ∨ H e = some (.own x)) (k : ∀ b u, b ≠ e → s.heap.get? b = some u → h'.get? b = some u) (heo : ∃ u, h'.get? e = some u)
    (new : ObjOk X.prog X.w (upd H x o) h' x o) : Inv X pins σ (upd H x o) { s with heap := h', toks := t' } := I.un (Un.write mu he k heo) (I.hok.write mu he k heo new)
theorem Inv.pins_of {pins' : List (Addr × Obj)} (I : Inv X pins σ H s) (h : ∀ p ∈ pins', s.heap.get? p.1 = some p.2 ∧ H p.1 = none ∧ p.1 ≠ X.env.locals ∧ p.1 ∉ X.fs ∧ ∀ v, p.2.data ≠ .cell v) : Inv X pins' σ H s :=
  ⟨I.ok, I.os, I.bare, I.base, I.loc, I.cell, I.free, I.freeC, fun p hp => (List.mem_append.mp hp).elim (fun z => I.pin p (List.mem_append_left _ z)) (h p), I.hok, I.len⟩
theorem nodup_ix {N : List Str} (hN : N.Nodup) {i j : Nat} {x : Str} (a : N[i]? = some x) (b : N[j]? = some x) : i = j := by
  obtain ⟨h1, e1⟩ := List.getElem?_eq_some_iff.mp a
  obtain ⟨h2, e2⟩ := List.getElem?_eq_some_iff.mp b
  exact (List.getElem_inj hN).mp (e1.trans e2.symm)
theorem store_ok2 {M : Model} {A : Around} {E : Value → Shared → Prop} {i : Nat} {x : Str} {v : V} {u : Value} {Q : Unit → Shared → Prop} (I : Inv X pins σ H s) (hN : X.N.Nodup) (hi : X.N[i]? = some x) (hx : Loc X.env.scope x) (r : RelV v u)
    (h : ∀ s', Inv X pins (σ.set i (some v)) H s' → (∃ a, Heap.SameBut a s.heap s'.heap ∧ (a = X.env.locals ∨ X.env.cells.lookup x = some a)) → Q () s') (hf : X.fn x = true ∨ X.env.scope.names.lookup x = some .local := by first | exact .inl rfl | exact .inr rfl | assumption) : wpAny M A (storeName X.env x u) Q E s := by
  obtain ⟨m, hn, hl⟩ := id I.loc
  have hcls : (X.env.scope.kind == .class || (X.env.scope.kind == .module && X.env.locals != X.env.globals)) = false := by rw [I.ok.kind]; rfl
  have hiσ : i < σ.length := by rw [I.len]; exact (List.getElem?_eq_some_iff.mp hi).1
  have cne := I.cne
  have tracked : ∀ {a : Addr} {h' : Heap}, (∃ o, s.heap.get? a = some o ∧ H a = none) → Heap.SameBut a s.heap h' → HOk X.prog X.w H h' := fun {a h'} ha hs b ob e => by
    obtain ⟨_, _, hfree⟩ := ha
    refine (I.hok b ob e).stay (fun c w' hc q => (hs.2 c ?_).trans q) (fun _ q => q) fun _ _ q => q
    rintro rfl
    rcases hc with rfl | hc
    · rw [hfree] at e; cases e
    · rw [hfree] at hc; cases hc
  rcases hx with hk | hk
  · refine wpAny_storeName_local hk hn (fun h' hn' hs => ?_) hcls
    obtain ⟨oL, _, _, hoL, _⟩ := id hn
    refine h _ ⟨I.ok, I.os, I.bare, ⟨fun b o e n hb hx => ?_, fun b o e n hb hx => ?_, I.base.free, fun b o e hx => ?_, I.base.tups, I.base.frzs, I.base.tbls⟩, ⟨_, hn', fun j y v' e1 e2 e3 => ?_⟩, fun y c e => ?_, I.free, I.freeC, fun p hp => ?_, tracked ⟨oL, hoL, I.free⟩ hs, by simpa using I.len⟩ ⟨_, hs, .inl rfl⟩
    · exact (hs.2 b (Nat.ne_of_lt (Nat.lt_of_lt_of_le (Heap.lt_size e) I.ok.above))).trans (I.base.keep b o e n hb hx)
    · obtain ⟨sl, e1⟩ := I.base.slot b o e n hb hx
      exact ⟨sl, (hs.2 b (Nat.ne_of_lt (Nat.lt_of_lt_of_le (Heap.lt_size e) I.ok.above))).trans e1⟩
    · obtain ⟨o', e1⟩ := I.base.there b o e hx
      exact ⟨o', (hs.2 b (Nat.ne_of_lt (Nat.lt_of_lt_of_le (Heap.lt_size e) I.ok.above))).trans e1⟩
    · by_cases hj : j = i
      · subst hj
        rw [hi] at e1; cases e1
        rw [List.getElem?_set_self hiσ] at e2
        cases e2
        exact ⟨u, r, .inl ⟨hk, by simp⟩⟩
      · rw [List.getElem?_set_ne (Ne.symm hj)] at e2
        obtain ⟨u', r', q⟩ := hl j y v' e1 e2 e3
        refine ⟨u', r', ?_⟩
        rcases q with ⟨k, e⟩ | ⟨k, c, e, z⟩
        · refine .inl ⟨k, ?_⟩
          have : y ≠ x := fun e => hj (nodup_ix hN e1 (e ▸ hi))
          simp [this, e]
        · exact .inr ⟨k, c, e, z.sameBut hs (cne y c e)⟩
    · obtain ⟨w', z⟩ := I.cell y c e
      exact ⟨w', z.sameBut hs (cne y c e)⟩
    · obtain ⟨e, n, ne, nf, d⟩ := I.pin p hp
      exact ⟨(hs.2 p.1 ne).trans e, n, ne, nf, d⟩
  · have hfn : X.fn x = true := by
      rcases hf with z | z
      · exact z
      · rw [z] at hk; cases hk
    obtain ⟨c, hc⟩ := I.ok.has x (.inl hk)
    obtain ⟨w', z⟩ := I.cell x c hc
    refine wpAny_storeName_cell I.ok.kind hk hc z (fun h' hc' hs => ?_)
    obtain ⟨oc, hoc, hocd⟩ := id z
    refine h { s with heap := h' } ⟨I.ok, I.os, I.bare, ⟨fun b o e n hb hx => ?_, fun b o e n hb hx => ?_, I.base.free, fun b o e hx => ?_, I.base.tups, I.base.frzs, I.base.tbls⟩, ⟨m, hn.sameBut hs (Ne.symm (cne x c hc)), fun j y v' e1 e2 e3 => ?_⟩, fun y c' e => ?_, I.free, I.freeC, fun p hp => ?_, tracked ⟨oc, hoc, I.freeC x c hc⟩ hs, by simpa using I.len⟩ ⟨c, hs, .inr hc⟩
    · exact (hs.2 b (Nat.ne_of_lt (Nat.lt_of_lt_of_le (Heap.lt_size e) (I.ok.cab x c hfn hc)))).trans (I.base.keep b o e n hb hx)
    · obtain ⟨sl, e1⟩ := I.base.slot b o e n hb hx
      exact ⟨sl, (hs.2 b (Nat.ne_of_lt (Nat.lt_of_lt_of_le (Heap.lt_size e) (I.ok.cab x c hfn hc)))).trans e1⟩
    · obtain ⟨o', e1⟩ := I.base.there b o e hx
      exact ⟨o', (hs.2 b (Nat.ne_of_lt (Nat.lt_of_lt_of_le (Heap.lt_size e) (I.ok.cab x c hfn hc)))).trans e1⟩
    · by_cases hj : j = i
      · subst hj
        rw [hi] at e1; cases e1
        rw [List.getElem?_set_self hiσ] at e2
        cases e2
        exact ⟨u, r, .inr ⟨.inl hk, c, hc, hc'⟩⟩
      · rw [List.getElem?_set_ne (Ne.symm hj)] at e2
        obtain ⟨u', r', q⟩ := hl j y v' e1 e2 e3
        refine ⟨u', r', ?_⟩
        rcases q with q | ⟨k, c', e, z'⟩
        · exact .inl q
        · refine .inr ⟨k, c', e, z'.sameBut hs ?_⟩
          rintro rfl
          exact hj (nodup_ix hN e1 (I.ok.inj _ _ _ e hc ▸ hi))
    · by_cases hcc : c' = c
      · subst hcc; exact ⟨_, hc'⟩
      · obtain ⟨w2, z2⟩ := I.cell y c' e
        exact ⟨w2, z2.sameBut hs hcc⟩
    · obtain ⟨e, n, ne, nf, d⟩ := I.pin p hp
      refine ⟨(hs.2 p.1 ?_).trans e, n, ne, nf, d⟩
      intro q
      rw [q, hoc] at e
      have q' : oc = p.2 := Option.some.inj e
      exact d w' (by rw [← q']; exact hocd)
theorem store_ok {M : Model} {A : Around} {E : Value → Shared → Prop} {i : Nat} {x : Str} {v : V} {u : Value} {Q : Unit → Shared → Prop} (I : Inv X pins σ H s) (hN : X.N.Nodup) (hi : X.N[i]? = some x) (hx : Loc X.env.scope x) (r : RelV v u)
    (h : ∀ s', Inv X pins (σ.set i (some v)) H s' → Q () s') (hf : X.fn x = true ∨ X.env.scope.names.lookup x = some .local := by first | exact .inl rfl | exact .inr rfl | assumption) : wpAny M A (storeName X.env x u) Q E s :=
  store_ok2 I hN hi hx r (fun s' I' _ => h s' I') hf
theorem Inv.call' {s' : Shared} {ch : List Addr} (I : Inv X pins σ H s) (ho : s'.os = s.os) (u : Un (frs X.stack) ch H H' s.heap s'.heap) (hok : HOk X.prog X.w H' s'.heap) (hg : AllBare s'.gens)
    (hch : ∀ b ∈ ch, (b ∈ X.ex ∨ X.s₀.heap.objs.size ≤ b) ∧ b ≠ X.env.locals ∧ (∀ x c, X.env.cells.lookup x = some c → c ≠ b) ∧ ∀ p ∈ X.pn ++ pins, p.1 ≠ b) : Inv X pins σ H' s' := by
  obtain ⟨h', g', d', t', o'⟩ := s'
  have e : o' = s.os := ho
  subst e
  exact I.call (g' := g') (t' := t') (d' := d') u hok hg hch
end
abbrev XK := Value → Option Addr → Hp → Prop
abbrev St := List (Option V)
abbrev VK := V → Hp → Prop
abbrev TE := St → Hp → VK → Prop
abbrev TT := St → Hp → (Bool → Hp → Prop) → Prop
abbrev TA := St → Hp → (List V → Hp → Prop) → Prop
structure Ends where
  nx : St → Hp → Prop
  rt : VK
  bk : St → Hp → Prop := fun _ _ => False
  ct : St → Hp → Prop := fun _ _ => False
abbrev TS := Ends → St → Hp → Prop
def EP (X : Cx) (pins : List (Addr × Obj)) (σ : St) (Q : VK) (u : Value) (s' : Shared) : Prop := ∃ v H', Inv X pins σ H' s' ∧ RelV v u ∧ Q v H'
def TP (X : Cx) (pins : List (Addr × Obj)) (σ : St) (Q : Bool → Hp → Prop) (b : Bool) (s' : Shared) : Prop := ∃ H', Inv X pins σ H' s' ∧ Q b H'
def AP (X : Cx) (pins : List (Addr × Obj)) (σ : St) (Q : List V → Hp → Prop) (us : List Value) (s' : Shared) : Prop := ∃ vs H', Inv X pins σ H' s' ∧ Vals vs us ∧ Q vs H'
def SP (X : Cx) (pins : List (Addr × Obj)) (D : Ends) (f : Flow) (s' : Shared) : Prop :=
  match f with
  | .next => ∃ σ' H', Inv X pins σ' H' s' ∧ D.nx σ' H'
  | .brk => ∃ σ' H', Inv X pins σ' H' s' ∧ D.bk σ' H'
  | .cont => ∃ σ' H', Inv X pins σ' H' s' ∧ D.ct σ' H'
  | .ret u => ∃ v σ' H', Inv X pins σ' H' s' ∧ RelV v u ∧ D.rt v H'
def PE (X : Cx) (e : Expr) (t : TE) : Prop :=
  ∀ (pins : List (Addr × Obj)) (s : Shared) (σ : St) (H : Hp) (Q : VK), Inv X pins σ H s → t σ H Q → wpAny (model X.prog X.w) X.A (eval e X.env) (EP X pins σ Q) X.xe s
def PT (X : Cx) (e : Expr) (t : TT) : Prop :=
  ∀ (pins : List (Addr × Obj)) (s : Shared) (σ : St) (H : Hp) (Q : Bool → Hp → Prop), Inv X pins σ H s → t σ H Q → wpAny (model X.prog X.w) X.A (isTrue e X.env (eval e X.env)) (TP X pins σ Q) X.xe s
def PW (X : Cx) (e : Expr) (t : TT) : Prop :=
  ∀ (whole : Sem Value) (pins : List (Addr × Obj)) (s : Shared) (σ : St) (H : Hp) (Q : Bool → Hp → Prop), Inv X pins σ H s → t σ H Q → wpAny (model X.prog X.w) X.A (isTrue e X.env whole) (TP X pins σ Q) X.xe s
theorem PW.pt {X : Cx} {e : Expr} {t : TT} (h : PW X e t) : PT X e t := h _
def PA (X : Cx) (es : List Expr) (t : TA) : Prop :=
  ∀ (pos : Pos) (pins : List (Addr × Obj)) (s : Shared) (σ : St) (H : Hp) (Q : List V → Hp → Prop), Inv X pins σ H s → t σ H Q → wpAny (model X.prog X.w) X.A (spliced (backTo pos (starEach es X.env))) (AP X pins σ Q) X.xe s
def PS (X : Cx) (st : Stmt) (t : TS) : Prop :=
  ∀ (pins : List (Addr × Obj)) (s : Shared) (σ : St) (H : Hp) (D : Ends), Inv X pins σ H s → t D σ H → wpAny (model X.prog X.w) X.A (exec st X.env) (SP X pins D) X.xe s
def PSs (X : Cx) (st : List Stmt) (t : TS) : Prop :=
  ∀ (pins : List (Addr × Obj)) (s : Shared) (σ : St) (H : Hp) (D : Ends), Inv X pins σ H s → t D σ H → wpAny (model X.prog X.w) X.A (execs st X.env) (SP X pins D) X.xe s
theorem thn {α : Type} {t : Sem α} {Q Q' : α → Shared → Prop} {M : Model} {A : Around} {E : Value → Shared → Prop} {s : Shared} (h : wpAny M A t Q E s) (hQ : ∀ a s, Q a s → Q' a s) : wpAny M A t Q' E s := wpAny_mono h hQ fun _ _ x => x
end L2
namespace L2
open PySem PySem.Spec PyProof.Rows
section
variable {X : Cx}
def tVar (i : Nat) : TE := fun σ H Q => ∃ v, σ[i]? = some (some v) ∧ Q v H
def tC (v : V) : TE := fun _ H Q => Q v H
theorem pe_var {i : Nat} {x : Str} {pos : Pos} (hN : X.N[i]? = some x) (hv : Vis X.env.scope x) (hd : (x == ("__debug__" : Str)) = false := by decide) (hcd : (x == ("__classdict__" : Str)) = false := by decide) : PE X (.Name x pos) (tVar i) := by
  intro pins s σ H Q I h
  obtain ⟨v, e, h⟩ := h
  obtain ⟨m, hn, hl⟩ := I.loc
  obtain ⟨u, r, l⟩ := hl i x v hN e hv
  have fin : EP X pins σ Q u s := ⟨v, H, I, r, h⟩
  rcases l with ⟨hk, hm⟩ | ⟨hk, c, hc, hcell⟩
  · exact wpAny_Name (wpAny_loadName_local I.ok.kind hk hn hm fin) hd
  · rcases hk with hk | hk
    · exact wpAny_Name (wpAny_loadName_cell I.ok.kind hk hc hcell fin) hd
    · exact wpAny_Name (wpAny_loadName_free I.ok.kind hk hc hcell fin hcd) hd
theorem pe_int {i j pos} : PE X (.Constant (.int i) j pos) (tC (.int i)) := fun _ _ _ H _ I h => wpAny_Constant_int ⟨.int i, H, I.tok _, ⟨_, rfl⟩, h⟩
theorem pe_bl {b j pos} : PE X (.Constant (.bool b) j pos) (tC (.bl b)) := fun _ _ _ H _ I h => Constant_bool ⟨.bl b, H, I, rfl, h⟩
theorem pe_non {j pos} : PE X (.Constant .none j pos) (tC .non) := fun _ _ _ H _ I h => Constant_none ⟨.non, H, I, rfl, h⟩
theorem pe_str {x j pos} : PE X (.Constant (.str x) j pos) (tC (.str x)) := fun _ _ _ H _ I h => Calls.Constant_str ⟨.str x, H, I.tok _, ⟨_, rfl⟩, h⟩
def Gl (X : Cx) (x : Str) : Prop := X.env.kindOf x = some .globalImplicit
theorem ld_glob {E : Value → Shared → Prop} {pins : List (Addr × Obj)} {s : Shared} {σ : St} {H : Hp} {x : Str} {u : Value} {pos : Pos} {Q : Value → Shared → Prop} (I : Inv X pins σ H s) (hg : Gl X x) (hm : X.mg x = some u) (h : Q u s)
    (hd : (x == ("__debug__" : Str)) = false := by decide) : wpAny (model X.prog X.w) X.A (eval (.Name x pos) X.env) Q E s :=
  Calls.Name_function_global I.ok.kind hg (Calls.loadGlobal_global (by rw [I.ok.glob]; exact I.mod.glob.keeps I.bk) hm h) hd
theorem ld_blt {E : Value → Shared → Prop} {pins : List (Addr × Obj)} {s : Shared} {σ : St} {H : Hp} {x : Str} {u : Value} {pos : Pos} {Q : Value → Shared → Prop} (I : Inv X pins σ H s) (hg : Gl X x) (hm : X.mg x = none) (hv : bootBuiltins x = some u) (h : Q u s)
    (hn : x ≠ "__name__" := by decide) (hd : (x == ("__debug__" : Str)) = false := by decide) : wpAny (model X.prog X.w) X.A (eval (.Name x pos) X.env) Q E s := by
  obtain ⟨mb, h1, h2⟩ := I.mod.blt
  exact Calls.Name_function_global I.ok.kind hg (Calls.loadGlobal_builtin (by rw [I.ok.glob]; exact I.mod.glob.keeps I.bk) hm (by rw [I.ok.blt]; exact h1.keeps I.bk) ((h2 x hn).trans hv) h) hd
theorem pe_bltn {x : Str} {v : V} {u : Value} {pos : Pos} (hg : Gl X x) (hm : X.mg x = none) (hv : bootBuiltins x = some u) (r : RelV v u) (hn : x ≠ "__name__" := by decide) (hd : (x == ("__debug__" : Str)) = false := by decide) : PE X (.Name x pos) (tC v) :=
  fun _ _ _ H _ I h => ld_blt I hg hm hv ⟨v, H, I, r, h⟩ hn hd
variable {a b : Expr} {ta tb : TE} {pos : Pos}
def PC (X : Cx) (op : CmpOp) (a b : Expr) (t : TE) : Prop :=
  ∀ (pins : List (Addr × Obj)) (s : Shared) (σ : St) (H : Hp) (Q : VK), Inv X pins σ H s → t σ H Q →
    wpAny (model X.prog X.w) X.A (eval a X.env) (fun v s₁ => wpAny (model X.prog X.w) X.A (eval b X.env) (fun u s₂ => wpAny (model X.prog X.w) X.A (compareOp op v u) (EP X pins σ Q) X.xe s₂) X.xe s₁) X.xe s
def tB (t : TE) : TT := fun σ H Q => t σ H fun x H1 => ∃ c, x = .bl c ∧ Q c H1
theorem pt_cmp {op : CmpOp} {t : TE} (h : PC X op a b t) (h1 : behindInMarks op b = false := by first | exact nobehind _ (by decide) (by decide) | rfl) : PT X (.Compare a [op] [b] pos) (tB t) := by
  intro pins s σ H Q I hw
  refine wpAny_isTrue_Compare1 (thn (h pins s σ H _ I hw) fun v s1 h1 => thn h1 fun u s2 h2 => thn h2 fun c s3 ⟨x, H1, I1, r1, q1⟩ => ?_) h1
  obtain ⟨d, rfl, q⟩ := q1
  cases r1
  exact wpAny_truthy_bool ⟨H1, I1, q⟩
theorem pt_val {e : Expr} {t : TE} (h : PE X e t) (he : ∀ whole, isTrue e X.env whole = (do let v ← whole; standAt e.pos; holding [v] (truthy v)) := by intro _; rfl) : PT X e (tB t) := by
  intro pins s σ H Q I hw
  refine isTrue_plain (thn (h pins s σ H _ I hw) fun v s1 ⟨x, H1, I1, r1, q1⟩ => ?_) (he _)
  obtain ⟨d, rfl, q⟩ := q1
  cases r1
  exact wpAny_truthy_bool ⟨H1, I1, q⟩
variable {tA tB' : TT} {rest : List Expr}
def tAnd (t u : TT) : TT := fun σ H Q => t σ H fun c H1 => if c = true then u σ H1 Q else Q false H1
def tOr (t u : TT) : TT := fun σ H Q => t σ H fun c H1 => if c = true then Q true H1 else u σ H1 Q
def tNot (t : TT) : TT := fun σ H Q => t σ H fun c H1 => Q (!c) H1
theorem pw_and1 (ha : PT X a tA) : PW X (.BoolOp .And [a] pos) tA := by
  intro wh pins s σ H Q I h
  refine isTrue_and (thn (ha pins s σ H Q I h) fun c s1 e => ?_)
  cases c with
  | true => exact isTrue_and_nil e
  | false => exact e
theorem pw_or1 (ha : PT X a tA) : PW X (.BoolOp .Or [a] pos) tA := by
  intro wh pins s σ H Q I h
  refine isTrue_or (thn (ha pins s σ H Q I h) fun c s1 e => ?_)
  cases c with
  | false => exact isTrue_or_nil e
  | true => exact e
theorem pw_and (ha : PT X a tA) (hb : PW X (.BoolOp .And (b :: rest) pos) tB') : PW X (.BoolOp .And (a :: b :: rest) pos) (tAnd tA tB') := by
  intro wh pins s σ H Q I h
  refine isTrue_and (thn (ha pins s σ H _ I h) fun c s1 ⟨H1, I1, q1⟩ => ?_)
  cases c with
  | true => exact hb wh pins s1 σ H1 Q I1 q1
  | false => exact ⟨H1, I1, q1⟩
theorem pw_or (ha : PT X a tA) (hb : PW X (.BoolOp .Or (b :: rest) pos) tB') : PW X (.BoolOp .Or (a :: b :: rest) pos) (tOr tA tB') := by
  intro wh pins s σ H Q I h
  refine isTrue_or (thn (ha pins s σ H _ I h) fun c s1 ⟨H1, I1, q1⟩ => ?_)
  cases c with
  | true => exact ⟨H1, I1, q1⟩
  | false => exact hb wh pins s1 σ H1 Q I1 q1
theorem pt_not (ha : PT X a tA) : PT X (.UnaryOp .Not a pos) (tNot tA) := by
  intro pins s σ H Q I h
  exact isTrue_not (ha pins s σ H (fun c H1 => Q (!c) H1) I h)
def tAndV (ta tb : TE) : TE := fun σ H Q => ta σ H fun x H1 => ∃ c, x = .bl c ∧ if c = true then tb σ H1 Q else Q (.bl false) H1
def tOrV (ta tb : TE) : TE := fun σ H Q => ta σ H fun x H1 => ∃ c, x = .bl c ∧ if c = true then Q (.bl true) H1 else tb σ H1 Q
def tNotV (ta : TE) : TE := fun σ H Q => ta σ H fun x H1 => ∃ c, x = .bl c ∧ Q (.bl (!c)) H1
theorem pe_one {op} {t : TE} (h : PE X a t) : PE X (.BoolOp op [a] pos) t := fun pins s σ H Q I hw => BoolOp_one (h pins s σ H Q I hw)
theorem pe_and (ha : PE X a ta) (hb : PE X (.BoolOp .And (b :: rest) pos) tb) : PE X (.BoolOp .And (a :: b :: rest) pos) (tAndV ta tb) := by
  intro pins s σ H Q I h
  refine BoolOp_and (thn (ha pins s σ H _ I h) fun v s1 ⟨x, H1, I1, r1, q1⟩ => ?_)
  obtain ⟨c, rfl, q1⟩ := q1
  cases r1
  refine wpAny_truthy_bool ?_
  cases c with
  | true => exact hb pins s1 σ H1 Q I1 q1
  | false => exact ⟨.bl false, H1, I1, rfl, q1⟩
def tIf (t : TT) (ta tb : TE) : TE := fun σ H Q => t σ H fun c H1 => if c = true then ta σ H1 Q else tb σ H1 Q
end
end L2
namespace L2
open PySem PySem.Spec PyProof.Rows
def SqL (K : PySem.W.Frag) (H : Hp) (a : Addr) (xs : List V) : Prop :=
  Rd H a (.lst xs) ∨
    ∃ (o : Obj) (its : Array Value) (n : Nat), K.lookup a = some o ∧ o.cls = .type "list" ∧ o.dict = none ∧ o.data = .seq its n ∧ its.size ≤ sizeLine ∧ Vals xs its.toList
def SqT (K : PySem.W.Frag) (H : Hp) (a : Addr) (xs : List V) : Prop :=
  Rd H a (.tup xs) ∨
    ∃ (o : Obj) (its : Array Value) (n : Nat), K.lookup a = some o ∧ o.cls = .type "tuple" ∧ o.data = .seq its n ∧ its.size ≤ sizeLine ∧ Vals xs its.toList
def absV : Value → Option V
  | .none => some .non
  | .bool b => some (.bl b)
  | .int i _ => some (.int i)
  | .str x _ => some (.str x)
  | .bytes b _ => some (.byt b)
  | .float b _ => some (.flt b)
  | .ref a => some (.ref a)
  | .type n => some (.ty n)
  | _ => none
theorem RelV.abs {x : V} {u : Value} (r : RelV x u) : absV u = some x := by
  cases x with
  | non => cases r; rfl
  | bl _ => cases r; rfl
  | int _ => obtain ⟨t, rfl⟩ := r; rfl
  | str _ => obtain ⟨t, rfl⟩ := r; rfl
  | byt _ => obtain ⟨t, rfl⟩ := r; rfl
  | flt _ => obtain ⟨t, rfl⟩ := r; rfl
  | ref _ => cases r; rfl
  | ty _ => cases r; rfl
theorem RelV.inj {x y : V} {u : Value} (r : RelV x u) (q : RelV y u) : x = y := Option.some.inj (r.abs.symm.trans q.abs)
theorem Vals.inj : ∀ {xs ys : List V} {us : List Value}, Vals xs us → Vals ys us → xs = ys
  | _, _, _, .nil, .nil => rfl
  | _, _, _, .cons r t, .cons r' t' => by rw [r.inj r', Vals.inj t t']
section
variable {X : Cx} {pins : List (Addr × Obj)} {σ : St} {H : Hp} {s : Shared} {a : Addr} {xs ys : List V}
theorem SqL.of {K : PySem.W.Frag} (h : H a = some (.lst xs)) : SqL K H a xs := .inl (.inl h)
theorem SqT.of {K : PySem.W.Frag} (h : H a = some (.tup xs)) : SqT K H a xs := .inl (.inl h)
theorem Inv.list (I : Inv X pins σ H s) (h : SqL X.K H a xs) : ∃ its : List Value, Vals xs its ∧ PlainL s.heap a its.toArray ∧ xs.length ≤ sizeLine := by
  rcases h with h | ⟨o, its, n, hk, hc, hd, hs, hz, r⟩
  · obtain ⟨z, its, n, r, e⟩ := h.ok I.hok
    exact ⟨its, r, ⟨_, n, e, rfl, rfl, rfl⟩, z⟩
  · refine ⟨its.toList, r, ⟨o, n, I.kIn a o hk, hc, hd, by simpa using hs⟩, ?_⟩
    have e := r.length
    simp only [Array.length_toList] at e
    omega
theorem Inv.tuple (I : Inv X pins σ H s) (h : SqT X.K H a xs) : ∃ its : List Value, Vals xs its ∧ IsTup s.heap a its.toArray ∧ xs.length ≤ sizeLine := by
  rcases h with h | ⟨o, its, n, hk, hc, hs, hz, r⟩
  · obtain ⟨z, its, r, p⟩ := h.ok I.hok
    exact ⟨its, r, p, z⟩
  · refine ⟨its.toList, r, ⟨o, I.kIn a o hk, hc, n, by simpa using hs⟩, ?_⟩
    have e := r.length
    simp only [Array.length_toList] at e
    omega
theorem Inv.list_inj (I : Inv X pins σ H s) (h : SqL X.K H a xs) (h' : SqL X.K H a ys) : xs = ys := by
  obtain ⟨its, r, ⟨o, n, e, _, _, d⟩, _⟩ := I.list h
  obtain ⟨its', r', ⟨o', n', e', _, _, d'⟩, _⟩ := I.list h'
  rw [e] at e'; cases e'
  rw [d] at d'
  injection d' with d1 _
  have : its = its' := by simpa using congrArg Array.toList d1
  subst this
  exact r.inj r'
theorem Inv.tuple_inj (I : Inv X pins σ H s) (h : SqT X.K H a xs) (h' : SqT X.K H a ys) : xs = ys := by
  obtain ⟨its, r, ⟨o, e, _, n, d⟩, _⟩ := I.tuple h
  obtain ⟨its', r', ⟨o', e', _, n', d'⟩, _⟩ := I.tuple h'
  rw [e] at e'; cases e'
  rw [d] at d'
  injection d' with d1 _
  have : its = its' := by simpa using congrArg Array.toList d1
  subst this
  exact r.inj r'
end
abbrev Cx.wish (X : Cx) (E : Value → Shared → Prop) : Cx := { X with xe := E }
abbrev Cx.nox (X : Cx) : Cx := X.wish fun _ _ => False
theorem Cx.Ok.wish {X : Cx} (ok : X.Ok) (E : Value → Shared → Prop) : (X.wish E).Ok :=
  ⟨ok.mod, ok.kind, ok.glob, ok.blt, ok.above, ok.inj, ok.has, ok.cab, ok.hd, ok.frames, ok.stk, ok.exf, ok.bs, ok.bsz, ok.noex, ok.exfs, ok.funs, ok.frf⟩
theorem Cx.Ok.unwish {X : Cx} {E : Value → Shared → Prop} (ok : (X.wish E).Ok) : X.Ok :=
  ⟨ok.mod, ok.kind, ok.glob, ok.blt, ok.above, ok.inj, ok.has, ok.cab, ok.hd, ok.frames, ok.stk, ok.exf, ok.bs, ok.bsz, ok.noex, ok.exfs, ok.funs, ok.frf⟩
section
variable {X : Cx} {pins : List (Addr × Obj)} {σ : St} {H : Hp} {s : Shared} {E : Value → Shared → Prop}
theorem Inv.wish (I : Inv X pins σ H s) (E : Value → Shared → Prop) : Inv (X.wish E) pins σ H s := ⟨I.ok.wish E, I.os, I.bare, I.base, I.loc, I.cell, I.free, I.freeC, I.pin, I.hok, I.len⟩
theorem Inv.unwish (I : Inv (X.wish E) pins σ H s) : Inv X pins σ H s := ⟨I.ok.unwish, I.os, I.bare, I.base, I.loc, I.cell, I.free, I.freeC, I.pin, I.hok, I.len⟩
theorem SP.unwish {D : Ends} {f : Flow} {s' : Shared} (h : SP (X.wish E) pins D f s') : SP X pins D f s' := by
  cases f with
  | next => obtain ⟨σ', H', I, q⟩ := h; exact ⟨σ', H', I.unwish, q⟩
  | brk => obtain ⟨σ', H', I, q⟩ := h; exact ⟨σ', H', I.unwish, q⟩
  | cont => obtain ⟨σ', H', I, q⟩ := h; exact ⟨σ', H', I.unwish, q⟩
  | ret u => obtain ⟨v, σ', H', I, r, q⟩ := h; exact ⟨v, σ', H', I.unwish, r, q⟩
theorem PSs.nox {st : List Stmt} {t : TS} (h : PSs X.nox st t) : PSs X st t := fun pins s σ H D I hw =>
  wpAny_mono (h pins s σ H D (I.wish _) hw) (fun _ _ q => q.unwish) fun _ _ z => False.elim z
end
section
variable {X : Cx} {st : Stmt} {rest : List Stmt} {t u : TS} {e : Expr} {te : TE} {pos : Pos}
def tNext : TS := fun D σ H => D.nx σ H
def tSeq (t u : TS) : TS := fun D σ H => t { D with nx := u D } σ H
theorem pss_nil : PSs X [] tNext := fun _ _ σ H _ I h => wpAny_execs_nil ⟨σ, H, I, h⟩
theorem pss_cons (h1 : PS X st t) (h2 : PSs X rest u) : PSs X (st :: rest) (tSeq t u) := by
  intro pins s σ H D I h
  refine wpAny_execs_cons (thn (h1 pins s σ H { D with nx := u D } I h) fun f s1 q => ?_)
  cases f with
  | next =>
    obtain ⟨σ', H', I', q⟩ := q
    exact h2 pins s1 σ' H' D I' q
  | ret v => exact q
  | brk => exact q
  | cont => exact q
theorem pss_one (h1 : PS X st t) : PSs X [st] t := by
  intro pins s σ H D I h
  refine wpAny_execs_cons (thn (h1 pins s σ H D I h) fun f s1 q => ?_)
  cases f with
  | next => exact wpAny_execs_nil q
  | ret v => exact q
  | brk => exact q
  | cont => exact q
def tBreak : TS := fun D σ H => D.bk σ H
def tCont : TS := fun D σ H => D.ct σ H
theorem Inv.quiet {pins : List (Addr × Obj)} {σ : St} {H : Hp} {s : Shared} (I : Inv X pins σ H s) : interactive X.env = false := by simp [interactive, I.ok.kind]
def tDrop (te : TE) : TS := fun D σ H => te σ H fun _ H1 => D.nx σ H1
theorem ps_expr (he : PE X e te) (hs : swapsWith e none pos.line X.env = pure false := by rfl) : PS X (.Expr e pos) (tDrop te) := by
  intro pins s σ H D I h
  exact wpAny_Expr_any (thn (he pins s σ H _ I h) fun v s1 ⟨x, H1, I1, r1, q1⟩ => ⟨σ, H1, I1, q1⟩) I.quiet hs
def tRet (te : TE) : TS := fun D σ H => te σ H D.rt
theorem ps_ret (he : PE X e te) : PS X (.Return (some e) pos) (tRet te) := by
  intro pins s σ H D I h
  exact wpAny_Return_some (thn (he pins s σ H _ I h) fun v s1 ⟨x, H1, I1, r1, q1⟩ => ⟨x, σ, H1, I1, r1, q1⟩)
def tRetN : TS := fun D _ H => D.rt .non H
def tIfS (c : TT) (t u : TS) : TS := fun D σ H => c σ H fun b H1 => if b = true then t D σ H1 else u D σ H1
theorem ps_if {c : Expr} {a b : List Stmt} {tc : TT} (hc : PT X c tc) (ha : PSs X a t) (hb : PSs X b u) : PS X (.If c a b pos) (tIfS tc t u) := by
  intro pins s σ H D I h
  refine wpAny_If (thn (hc pins s σ H _ I h) fun d s1 ⟨H1, I1, q1⟩ => ?_)
  cases d with
  | true => exact ha pins s1 σ H1 D I1 q1
  | false => exact hb pins s1 σ H1 D I1 q1
end
abbrev TG := V → St → Hp → (St → Hp → Prop) → Prop
abbrev TGs := List V → St → Hp → (St → Hp → Prop) → Prop
def PG (X : Cx) (target : Expr) (t : TG) : Prop :=
  ∀ (pins : List (Addr × Obj)) (s : Shared) (σ : St) (H : Hp) (v : V) (u : Value) (Q : St → Hp → Prop), Inv X pins σ H s → RelV v u → t v σ H Q →
    wpAny (model X.prog X.w) X.A (assign target X.env u) (fun _ s' => ∃ σ' H', Inv X pins σ' H' s' ∧ Q σ' H') X.xe s
def PGs (X : Cx) (ts : List Expr) (t : TGs) : Prop :=
  ∀ (pins : List (Addr × Obj)) (s : Shared) (σ : St) (H : Hp) (vs : List V) (us : List Value) (Q : St → Hp → Prop), Inv X pins σ H s → Vals vs us → t vs σ H Q →
    wpAny (model X.prog X.w) X.A (assignInOrder ((assignEach ts X.env).map (·.2)) us) (fun _ s' => ∃ σ' H', Inv X pins σ' H' s' ∧ Q σ' H') X.xe s
abbrev TSet := V → V → V → Hp → (Hp → Prop) → Prop
def PSet (X : Cx) (t : TSet) : Prop :=
  ∀ (pins : List (Addr × Obj)) (s : Shared) (σ : St) (H : Hp) (o i v : V) (ov iv u : Value) (Q : Hp → Prop), Inv X pins σ H s → RelV o ov → RelV i iv → RelV v u → t o i v H Q →
    wpAny (model X.prog X.w) X.A (setItem ov iv u) (fun _ s' => ∃ H', Inv X pins σ H' s' ∧ Q H') X.xe s
section
variable {X : Cx} {pos : Pos}
def gName (i : Nat) : TG := fun v σ H Q => Q (σ.set i (some v)) H
theorem pg_name {i : Nat} {x : Str} (hN : X.N.Nodup) (hi : X.N[i]? = some x) (hx : Loc X.env.scope x) (hf : X.fn x = true ∨ X.env.scope.names.lookup x = some .local := by first | exact .inl rfl | exact .inr rfl | assumption) : PG X (.Name x pos) (gName i) := by
  intro pins s σ H v u Q I r h
  exact wpAny_assign_Name (store_ok I hN hi hx r (fun s' I' => ⟨_, H, I', h⟩) hf)
def gNil : TGs := fun vs σ H Q => vs = [] ∧ Q σ H
def gCons (t : TG) (u : TGs) : TGs := fun vs σ H Q => ∃ v r, vs = v :: r ∧ t v σ H fun σ' H' => u r σ' H' Q
theorem pgs_nil : PGs X [] gNil := by
  intro pins s σ H vs us Q I r h
  obtain ⟨e, h⟩ := h
  subst e
  cases r
  exact assignInOrder_nil ⟨σ, H, I, h⟩
theorem pgs_cons {e : Expr} {es : List Expr} {t : TG} {u : TGs} (h1 : PG X e t) (h2 : PGs X es u)
    (hs : (assignEach (e :: es) X.env).map (·.2) = assign e X.env :: (assignEach es X.env).map (·.2) := by rfl) : PGs X (e :: es) (gCons t u) := by
  intro pins s σ H vs us Q I r h
  obtain ⟨v, vr, e1, h⟩ := h
  subst e1
  cases r with
  | cons r rr =>
    rw [hs]
    refine assignInOrder_cons (thn (h1 pins s σ H _ _ _ I r h) fun _ s1 ⟨σ1, H1, I1, q1⟩ => ?_)
    exact h2 pins s1 σ1 H1 _ _ Q I1 rr q1
def gTup (K : PySem.W.Frag) (n : Nat) (t : TGs) : TG := fun v σ H Q => ∃ a xs, v = .ref a ∧ SqT K H a xs ∧ xs.length = n ∧ t xs σ H Q
theorem pg_tup {es : List Expr} {k : Nat} {t : TGs} {n : Nat} (hc : X.calm = true) (h : PGs X es t)
    (hn : (assignEach es X.env).length = n := by rfl) (hst : (assignEach es X.env).findIdx? (·.1) = none := by rfl) : PG X (.Tuple es k pos) (gTup X.K n t) := by
  intro pins s σ H v u Q I r hw
  obtain ⟨a, xs, e1, hq, hl, hw⟩ := hw
  subst e1
  cases r
  obtain ⟨its, rv, ht, hz⟩ := I.tuple hq
  refine assign_Tuple_tuple (I.ok.hd hc) ht (by simp [hn, ← hl, rv.length]) hst fun h' hx => ?_
  have I1 : Inv X pins σ H { s with heap := h' } := I.kept (t' := s.toks) fun b o e => hx b o (Nat.ne_of_lt (Heap.lt_size e)) e
  exact h pins _ σ H xs _ Q I1 (by simpa using rv) hw
def gSub (to ti : TE) (t : TSet) : TG := fun v σ H Q => to σ H fun o H1 => ti σ H1 fun i H2 => t o i v H2 fun H3 => Q σ H3
theorem pg_sub {o i : Expr} {to ti : TE} {t : TSet} (ho : PE X o to) (hi : PE X i ti) (hs : PSet X t)
    (ha : ∀ v, assign (.Subscript o i pos) X.env v = (do
      let ov ← holding [v] (eval o X.env)
      let iv ← holding [v, ov] (eval i X.env)
      standAt pos
      holding [v, ov, iv] (setItem ov iv v)
      release [v, ov, iv] []) := by intro _; rfl) : PG X (.Subscript o i pos) (gSub to ti t) := by
  intro pins s σ H v u Q I r h
  rw [ha]
  refine wpAny_bind (wpAny_holding (thn (ho pins s σ H _ I h) fun ov s1 ⟨x, H1, I1, r1, q1⟩ => ?_))
  refine wpAny_bind (wpAny_holding (thn (hi pins s1 σ H1 _ I1 q1) fun iv s2 ⟨y, H2, I2, r2, q2⟩ => ?_))
  refine wpAny_bind (wpAny_standAt (wpAny_bind (wpAny_holding (thn (hs pins s2 σ H2 x y v ov iv u _ I2 r1 r2 r q2) fun _ s3 ⟨H3, I3, q3⟩ => ?_))))
  exact wpAny_release ⟨σ, H3, I3, q3⟩
def tAsg (te : TE) (g : TG) : TS := fun D σ H => te σ H fun x H1 => g x σ H1 D.nx
theorem ps_asg {tg e : Expr} {te : TE} {g : TG} (he : PE X e te) (hg : PG X tg g) (hs : swapsWithSole [tg] e pos.line X.env = pure false := by rfl) (hw : swappedStores [tg] e X.env = pure none := by rfl)
    (h1 : (assignEach [tg] X.env).map (·.2) = [assign tg X.env] := by rfl) : PS X (.Assign [tg] e pos) (tAsg te g) := by
  intro pins s σ H D I h
  refine wpAny_Assign_stores (thn (he pins s σ H _ I h) fun v s1 ⟨x, H1, I1, r1, q1⟩ => ?_) hs hw
  rw [h1]
  exact thn (hg pins s1 σ H1 x v _ I1 r1 q1) fun _ s2 q => q
theorem ps_set {i : Nat} {x : Str} {e : Expr} {te : TE} {pos' : Pos} (hN : X.N.Nodup) (hi : X.N[i]? = some x) (hx : Loc X.env.scope x) (he : PE X e te) (hs : swapsWith e (some (.Name x pos')) pos.line X.env = pure false := by rfl) (hf : X.fn x = true ∨ X.env.scope.names.lookup x = some .local := by first | exact .inl rfl | exact .inr rfl | assumption) :
    PS X (.Assign [.Name x pos'] e pos) (tAsg te (gName i)) := by
  intro pins s σ H D I h
  refine wpAny_Assign_Name (thn (he pins s σ H _ I h) fun v s1 ⟨y, H1, I1, r1, q1⟩ => ?_) hs
  exact store_ok I1 hN hi hx r1 (fun s2 I2 => ⟨_, H1, I2, q1⟩) hf
end
section
variable {X : Cx} {pos : Pos}
def tWhile (c : TT) (tb : TS) : TS := fun D σ H => ∃ W : Nat → St → Hp → Prop, (∃ m, W m σ H) ∧ ∀ m σ H, W m σ H →
  c σ H fun b H1 => if b = true then ∃ N : St → Hp → Prop, (∀ σ' H', N σ' H' → ∃ m', m' < m ∧ W m' σ' H') ∧ tb { D with nx := N, ct := N, bk := D.nx } σ H1 else D.nx σ H1
theorem ps_while {c : Expr} {body : List Stmt} {tc : TT} {tb : TS} (hp : PassesOwn (model X.prog X.w) X.A X.env X.xe) (hc : PT X c tc) (hb : PSs X body tb) : PS X (.While c body [] pos) (tWhile tc tb) := by
  intro pins s σ H D I h
  obtain ⟨W, ⟨m0, w0⟩, turn⟩ := h
  refine wpAny_While (codeAny_whileLoop (fun n s' => ∃ σ' H', Inv X pins σ' H' s' ∧ W n σ' H') ?_ m0 ⟨σ, H, I, w0⟩)
  rintro n s1 ⟨σ1, H1, I1, w1⟩
  refine wpAny_passesOwn hp (thn (hc pins s1 σ1 H1 _ I1 (turn n σ1 H1 w1)) fun b s2 ⟨H2, I2, q2⟩ => ?_)
  cases b with
  | true =>
    obtain ⟨N, hN, q2⟩ := q2
    rw [if_pos rfl]
    refine wpAny_passesOwn hp (thn (hb pins s2 σ1 H2 _ I2 q2) fun f s3 q3 => ?_)
    cases f with
    | next =>
      obtain ⟨σ3, H3, I3, n3⟩ := q3
      obtain ⟨m', hm, w3⟩ := hN σ3 H3 n3
      exact ⟨m', hm, σ3, H3, I3, w3⟩
    | cont =>
      obtain ⟨σ3, H3, I3, n3⟩ := q3
      obtain ⟨m', hm, w3⟩ := hN σ3 H3 n3
      exact ⟨m', hm, σ3, H3, I3, w3⟩
    | brk => exact q3
    | ret v => exact q3
  | false =>
    rw [if_neg Bool.false_ne_true]
    exact wpAny_execs_nil ⟨σ1, H2, I2, q2⟩
end
structure It where
  go : Nat → Hp → Prop
  yld : Nat → Hp → V → Hp → Prop
  stop : Nat → Hp → Prop
def FpOk (X : Cx) (pins : List (Addr × Obj)) (H : Hp) (b : Addr) : Prop :=
  H b = none ∧ b ≠ X.env.locals ∧ b ∉ X.fs ∧ (b ∈ X.ex ∨ X.s₀.heap.objs.size ≤ b) ∧ (∀ x c, X.env.cells.lookup x = some c → c ≠ b) ∧ ∀ p ∈ X.pn ++ pins, p.1 ≠ b
theorem Inv.fpOk {X : Cx} {pins : List (Addr × Obj)} {σ : St} {H H' : Hp} {s : Shared} {b : Addr} (I : Inv X pins σ H s) (hb : s.heap.objs.size ≤ b) (hn : H' b = none) : FpOk X pins H' b := by
  refine ⟨hn, Nat.ne_of_gt (Nat.lt_of_lt_of_le I.lt hb), I.nofs hb, .inr (Nat.le_trans I.sz hb), fun x c e z => ?_, fun p hp z => ?_⟩
  · obtain ⟨v, q⟩ := I.cell x c e
    exact absurd (Nat.lt_of_lt_of_le q.lt (by rw [z]; exact hb)) (Nat.lt_irrefl _)
  · exact absurd (Nat.lt_of_lt_of_le (Heap.lt_size (I.pin p hp).1) (by rw [z]; exact hb)) (Nat.lt_irrefl _)
structure Turn (P : Program) (w : World) (K : PySem.W.Frag) (tg : Expr) (J : It) (fp : List Addr) (it : Addr) (tn : Nat → Heap → Prop) : Prop where
  mem : it ∈ fp
  obj : ∀ i h, tn i h → ∀ b ∈ fp, ∃ o, h.get? b = some o ∧ ∀ v, o.data ≠ .cell v
  keep : ∀ i h h', tn i h → (∀ b ∈ fp, ∀ o, h.get? b = some o → h'.get? b = some o) → tn i h'
  item : ∀ (X : Cx), X.prog = P → X.w = w → X.K = K → X.calm = true → ∀ (i : Nat) (pins : List (Addr × Obj)) (s : Shared) (σ : St) (H : Hp) (E : Value → Shared → Prop), Inv X pins σ H s → (∀ b ∈ fp, FpOk X pins H b) → tn i s.heap → J.go i H →
    wpAny (model P w) X.A (pyNext (.ref it)) (fun r s1 => ∃ u, r = some u ∧
      wpAny (model P w) X.A (letOwnedTupleGo tg (.ref it) u) (fun _ s2 => ∃ x H', Inv X pins σ H' s2 ∧ RelV x u ∧ J.yld i H x H' ∧ tn (i + 1) s2.heap ∧ ∀ b ∈ fp, H' b = none) E s1) E s
  done : ∀ (X : Cx), X.prog = P → X.w = w → X.K = K → X.calm = true → ∀ (i : Nat) (pins : List (Addr × Obj)) (s : Shared) (σ : St) (H : Hp) (E : Value → Shared → Prop), Inv X pins σ H s → (∀ b ∈ fp, FpOk X pins H b) → tn i s.heap → J.stop i H →
    wpAny (model P w) X.A (pyNext (.ref it)) (fun r s1 => r = none ∧ Inv X pins σ H s1) E s
  self : ∀ (A : Around) (i : Nat) (s : Shared) (Q : Value → Shared → Prop) (E : Value → Shared → Prop), tn i s.heap → Q (.ref it) s → wpAny (model P w) A (pyIter (.ref it)) Q E s
abbrev TI := St → Hp → (It → Hp → Prop) → Prop
def PIE (X : Cx) (pins : List (Addr × Obj)) (σ : St) (tg : Expr) (R : It → Hp → Prop) (itv : Value) (s2 : Shared) : Prop :=
  ∃ (it : Addr) (fp : List Addr) (tn : Nat → Heap → Prop) (J : It) (H' : Hp), itv = .ref it ∧ Inv X pins σ H' s2 ∧ Turn X.prog X.w X.K tg J fp it tn ∧ tn 0 s2.heap ∧ (∀ b ∈ fp, FpOk X pins H' b) ∧ R J H'
def PI (X : Cx) (tg iter : Expr) (wi : TI) : Prop :=
  ∀ (pins : List (Addr × Obj)) (s : Shared) (σ : St) (H : Hp) (R : It → Hp → Prop), Inv X pins σ H s → wi σ H R →
    wpAny (model X.prog X.w) X.A (eval iter X.env) (fun v s1 => wpAny (model X.prog X.w) X.A (pyIter v) (PIE X pins σ tg R) X.xe s1) X.xe s
theorem go_of {M : Model} {A : Around} {E : Value → Shared → Prop} {s : Shared} {tg : Expr} {it : Addr} {u : Value} {o : Obj} {n : String} {vs : Array Value} {Q : Unit → Shared → Prop} (ho : s.heap.get? it = some o) (hc : o.cls = .type n) (hd : o.data = .fields vs)
    (hn : ["enumerate", "zip", "dict_itemiterator", "dict_reverseitemiterator", "odict_iterator", "itertools.zip_longest", "itertools.pairwise"].contains n = false) (hQ : Q () s) : wpAny M A (letOwnedTupleGo tg (.ref it) u) Q E s := by
  unfold letOwnedTupleGo
  cases tg <;> first
    | exact wpAny_pure hQ
    | (cases u <;> first
        | exact wpAny_pure hQ
        | (refine wpAny_bind (wpAny_load ho ?_)
           rw [hc, hd]
           show wpAny M A (if (["enumerate", "zip", "dict_itemiterator", "dict_reverseitemiterator", "odict_iterator", "itertools.zip_longest", "itertools.pairwise"].contains n && vs[0]? == some (rawInt _)) = true then _ else _) Q E s
           rw [if_neg (by intro h; rw [hn, Bool.false_and] at h; cases h)]
           exact wpAny_pure hQ))
def Itl (K : PySem.W.Frag) (a : Addr) : It :=
  ⟨fun i H => ∃ xs x, SqL K H a xs ∧ xs[i]? = some x, fun i H x H' => H' = H ∧ ∀ xs, SqL K H a xs → xs[i]? = some x, fun i H => ∃ xs, SqL K H a xs ∧ xs.length ≤ i⟩
def Itt (K : PySem.W.Frag) (a : Addr) : It :=
  ⟨fun i H => ∃ xs x, SqT K H a xs ∧ xs[i]? = some x, fun i H x H' => H' = H ∧ ∀ xs, SqT K H a xs → xs[i]? = some x, fun i H => ∃ xs, SqT K H a xs ∧ xs.length ≤ i⟩
def Itr (lo : Int) (n : Nat) : It := ⟨fun i _ => i < n, fun i H x H' => H' = H ∧ x = .int (lo + i), fun i _ => n ≤ i⟩
theorem turn_list {P : Program} {w : World} {K : PySem.W.Frag} {tg : Expr} (a it : Addr) : Turn P w K tg (Itl K a) [it] it (fun i h => h.IsListIter it a i) where
  mem := by simp
  obj := fun i h st b hb => by
    have e : b = it := by simpa using hb
    subst e
    obtain ⟨o, e, c, d⟩ := st
    exact ⟨o, e, fun v z => by rw [d] at z; cases z⟩
  keep := fun i h h' st k => st.at fun o e => k it (by simp) o e
  item := by
    intro X hP hw hK hc i pins s σ H E I hf st hg
    subst hP hw hK
    obtain ⟨xs, x, hq, hx⟩ := hg
    obtain ⟨its, rv, p, hz⟩ := I.list hq
    obtain ⟨u, hu, ru⟩ := rv.get hx
    obtain ⟨f0, f1, f2, f3, f4, f5⟩ := hf it (by simp)
    refine wpAny_pyNext_list_item st p.isList (x := u) (by simpa using hu) fun h' st' sb => ?_
    have I1 : Inv X pins σ H { s with heap := h' } := I.turned (t' := s.toks) (fun b o hb e => (sb.2 b hb).trans e) f0 f1 f3 f4 f5
    obtain ⟨o, e, c, d⟩ := id st'
    exact ⟨u, rfl, go_of (s := { s with heap := h' }) e c d (by decide) ⟨x, H, I1, ru, ⟨rfl, fun ys hy => by rw [I.list_inj hy hq]; exact hx⟩, st', fun b hb => (hf b hb).1⟩⟩
  done := by
    intro X hP hw hK hc i pins s σ H E I hf st hg
    subst hP hw hK
    obtain ⟨xs, hq, hx⟩ := hg
    obtain ⟨its, rv, p, hz⟩ := I.list hq
    obtain ⟨f0, f1, f2, f3, f4, f5⟩ := hf it (by simp)
    have hl := rv.length
    exact wpAny_pyNext_list_end (I.ok.hd hc) st p.isList (by simp; omega) fun h' eb => ⟨rfl, I.turned (t' := s.toks) (fun b o hb e => eb b o hb e) f0 f1 f3 f4 f5⟩
  self := fun _ _ _ _ _ st h => wpAny_pyIter_listiter st h
theorem turn_tuple {P : Program} {w : World} {K : PySem.W.Frag} {tg : Expr} (a it : Addr) : Turn P w K tg (Itt K a) [it] it (fun i h => h.IsTupleIter it a i) where
  mem := by simp
  obj := fun i h st b hb => by
    have e : b = it := by simpa using hb
    subst e
    obtain ⟨o, e, c, d⟩ := st
    exact ⟨o, e, fun v z => by rw [d] at z; cases z⟩
  keep := fun i h h' st k => st.at fun o e => k it (by simp) o e
  item := by
    intro X hP hw hK hc i pins s σ H E I hf st hg
    subst hP hw hK
    obtain ⟨xs, x, hq, hx⟩ := hg
    obtain ⟨its, rv, p, hz⟩ := I.tuple hq
    obtain ⟨u, hu, ru⟩ := rv.get hx
    obtain ⟨f0, f1, f2, f3, f4, f5⟩ := hf it (by simp)
    refine wpAny_pyNext_tuple_item st (show s.heap.IsTuple a its.toArray from p) (x := u) (by simpa using hu) fun h' st' sb => ?_
    have I1 : Inv X pins σ H { s with heap := h' } := I.turned (t' := s.toks) (fun b o hb e => (sb.2 b hb).trans e) f0 f1 f3 f4 f5
    obtain ⟨o, e, c, d⟩ := id st'
    exact ⟨u, rfl, go_of (s := { s with heap := h' }) e c d (by decide) ⟨x, H, I1, ru, ⟨rfl, fun ys hy => by rw [I.tuple_inj hy hq]; exact hx⟩, st', fun b hb => (hf b hb).1⟩⟩
  done := by
    intro X hP hw hK hc i pins s σ H E I hf st hg
    subst hP hw hK
    obtain ⟨xs, hq, hx⟩ := hg
    obtain ⟨its, rv, p, hz⟩ := I.tuple hq
    obtain ⟨f0, f1, f2, f3, f4, f5⟩ := hf it (by simp)
    have hl := rv.length
    exact wpAny_pyNext_tuple_end (I.ok.hd hc) st (show s.heap.IsTuple a its.toArray from p) (by simp; omega) fun h' eb => ⟨rfl, I.turned (t' := s.toks) (fun b o hb e => eb b o hb e) f0 f1 f3 f4 f5⟩
  self := fun _ _ _ _ _ st h => wpAny_pyIter_tupleiter st h
theorem turn_range {P : Program} {w : World} {K : PySem.W.Frag} {tg : Expr} (it : Addr) (lo : Int) (n : Nat) : Turn P w K tg (Itr lo n) [it] it (fun i h => IsRangeIter h it (lo + (i : Nat) * 1) ((n : Int) - (i : Nat)) 1) where
  mem := by simp
  obj := fun i h st b hb => by
    have e : b = it := by simpa using hb
    subst e
    exact ⟨_, st, fun v z => by
      have z' : Data.fields _ = Data.cell v := z
      cases z'⟩
  keep := fun i h h' st k => k it (by simp) _ st
  item := by
    intro X hP hw hK hc i pins s σ H E I hf st hg
    subst hP hw hK
    obtain ⟨f0, f1, f2, f3, f4, f5⟩ := hf it (by simp)
    have W := Walks.range (prog := X.prog) (w := X.w) (I.ok.hd hc) it lo 1 n
    refine W.item i s _ _ hg st fun v h' tk hv st' kk => ?_
    obtain ⟨t, rfl⟩ := hv
    have I1 : Inv X pins σ H { s with heap := h', toks := tk } := I.turned (fun b o hb e => kk b o (by simpa using hb) e) f0 f1 f3 f4 f5
    refine ⟨_, rfl, go_of (s := { s with heap := h', toks := tk }) (n := "range_iterator") st' rfl rfl (by decide) ⟨.int (lo + i), H, I1, ⟨t, ?_⟩, ⟨rfl, rfl⟩, st', fun b hb => (hf b hb).1⟩⟩
    rw [Int.mul_one]
  done := by
    intro X hP hw hK hc i pins s σ H E I hf st hg
    subst hP hw hK
    obtain ⟨f0, f1, f2, f3, f4, f5⟩ := hf it (by simp)
    exact wpAny_pyNext_range_end (I.ok.hd hc) st (by have : n ≤ i := hg; omega) fun h' eb => ⟨rfl, I.turned (t' := s.toks) (fun b o hb e => eb b o hb e) f0 f1 f3 f4 f5⟩
  self := fun _ _ _ _ _ st h => wpAny_pyIter_rangeiter st h
end L2
namespace L2
open PySem PySem.Spec PyProof.Rows
section
variable {X : Cx} {tg : Expr}
def iList (K : PySem.W.Frag) (tl : TE) : TI := fun σ H R => tl σ H fun x H1 => ∃ a, x = .ref a ∧ (∃ xs, SqL K H1 a xs) ∧ R (Itl K a) H1
def iTup (K : PySem.W.Frag) (tl : TE) : TI := fun σ H R => tl σ H fun x H1 => ∃ a, x = .ref a ∧ (∃ xs, SqT K H1 a xs) ∧ R (Itt K a) H1
theorem pi_list {l : Expr} {tl : TE} (hl : PE X l tl) : PI X tg l (iList X.K tl) := by
  intro pins s σ H R I h
  refine thn (hl pins s σ H _ I h) fun v s1 ⟨x, H1, I1, r1, q1⟩ => ?_
  obtain ⟨a, e, ⟨xs, hq⟩, q⟩ := q1
  subst e
  cases r1
  obtain ⟨its, rv, p, hz⟩ := I1.list hq
  refine wpAny_pyIter_list p.isList ?_
  refine ⟨s1.heap.objs.size, [s1.heap.objs.size], _, _, H1, rfl, I1.kept (t' := s1.toks) fun b o e => Heap.get?_push_of_some _ e, turn_list a _, ⟨_, Heap.get?_push_size _ rfl, rfl, rfl⟩, fun b hb => ?_, q⟩
  have e : b = s1.heap.objs.size := by simpa using hb
  subst e
  exact I1.fpOk (Nat.le_refl _) (I1.hok.fresh (Nat.le_refl _))
theorem pi_tup {l : Expr} {tl : TE} (hl : PE X l tl) : PI X tg l (iTup X.K tl) := by
  intro pins s σ H R I h
  refine thn (hl pins s σ H _ I h) fun v s1 ⟨x, H1, I1, r1, q1⟩ => ?_
  obtain ⟨a, e, ⟨xs, hq⟩, q⟩ := q1
  subst e
  cases r1
  obtain ⟨its, rv, p, hz⟩ := I1.tuple hq
  refine wpAny_pyIter_tuple (show s1.heap.IsTuple a its.toArray from p) ?_
  refine ⟨s1.heap.objs.size, [s1.heap.objs.size], _, _, H1, rfl, I1.kept (t' := s1.toks) fun b o e => Heap.get?_push_of_some _ e, turn_tuple a _, ⟨_, Heap.get?_push_size _ rfl, rfl, rfl⟩, fun b hb => ?_, q⟩
  have e : b = s1.heap.objs.size := by simpa using hb
  subst e
  exact I1.fpOk (Nat.le_refl _) (I1.hok.fresh (Nat.le_refl _))
theorem range_it {pins : List (Addr × Obj)} {σ : St} {H : Hp} {s : Shared} {R : It → Hp → Prop} {E : Value → Shared → Prop} {lo hi : Int} {t u v : Tok} {tk : Nat} (I : Inv X pins σ H s) (h1 : -(2 ^ 62) ≤ lo) (h2 : lo < 2 ^ 62) (h3 : -(2 ^ 62) ≤ hi) (h4 : hi < 2 ^ 62)
    (q : R (Itr lo (hi - lo).toNat) H) : wpAny (model X.prog X.w) X.A (pyIter (.ref s.heap.objs.size)) (PIE X pins σ tg R) E { s with heap := s.heap.push { cls := .type "range", data := .fields #[.int lo t, .int hi u, .int 1 v] }, toks := tk } := by
  refine wpAny_pyIter_range (IsRange.new ..) (small_one h1 h2 h3 h4) ?_
  have I1 : Inv X pins σ H { s with heap := s.heap.push { cls := .type "range", data := .fields #[.int lo t, .int hi u, .int 1 v] }, toks := tk } := I.kept fun b o e => Heap.get?_push_of_some _ e
  refine ⟨(s.heap.push { cls := .type "range", data := .fields #[.int lo t, .int hi u, .int 1 v] }).objs.size, [(s.heap.push { cls := .type "range", data := .fields #[.int lo t, .int hi u, .int 1 v] }).objs.size], _, _, H, rfl,
    I1.kept (t' := tk) fun b o e => Heap.get?_push_of_some _ e, turn_range _ lo (hi - lo).toNat, ?_, fun b hb => ?_, q⟩
  · have e1 : lo + ((0 : Nat) : Int) * 1 = lo := by simp
    have e2 : (((hi - lo).toNat : Nat) : Int) - ((0 : Nat) : Int) = Builtin.Range.rangeSize lo hi 1 := by rw [rangeSize_one]; split <;> omega
    show IsRangeIter _ _ (lo + ((0 : Nat) : Int) * 1) ((((hi - lo).toNat : Nat) : Int) - ((0 : Nat) : Int)) 1
    rw [e1, e2]
    exact Heap.get?_push_size _ rfl
  · have e : b = (s.heap.push { cls := .type "range", data := .fields #[.int lo t, .int hi u, .int 1 v] }).objs.size := by simpa using hb
    subst e
    exact I1.fpOk (Nat.le_refl _) (I1.hok.fresh (Nat.le_refl _))
def iRng1 (ta : TA) : TI := fun σ H R => ta σ H fun vs H1 => ∃ j : Int, vs = [.int j] ∧ -(2 ^ 62) ≤ j ∧ j < 2 ^ 62 ∧ R (Itr 0 j.toNat) H1
theorem pi_range1 {a : Expr} {ta : TA} {p pos : Pos} (hg : Gl X "range") (hm : X.mg "range" = none) (ha : PA X [a] ta) (hs : starEach [a] X.env = [(false, eval a X.env)] := by rfl) : PI X tg (.Call (.Name "range" p) [a] [] pos) (iRng1 ta) := by
  intro pins s σ H R I h
  refine Call_ (ld_blt I hg hm boot_range (PyProof.Rows.callWith_type1 (thn (ha pos pins s σ H _ I h) fun us s1 ⟨vs, H1, I1, r1, q1⟩ => ?_) hs rfl))
  obtain ⟨j, e, q1, q2, q⟩ := q1
  subst e
  cases r1 with
  | cons r rr =>
    cases rr
    obtain ⟨t, rfl⟩ := r
    exact call_range_1 (range_it I1 (by omega) (by omega) q1 q2 (by simpa using q))
def tFor (wi : TI) (g : TG) (tb : TS) : TS := fun D σ H => wi σ H fun J H1 => ∃ W : Nat → Nat → St → Hp → Prop, (∃ m, W 0 m σ H1) ∧ ∀ i m σ H, W i m σ H →
  (J.stop i H ∧ D.nx σ H) ∨ (J.go i H ∧ ∃ N : St → Hp → Prop, (∀ σ' H', N σ' H' → ∃ m', m' < m ∧ W (i + 1) m' σ' H') ∧ ∀ x H', J.yld i H x H' → g x σ H' fun σ2 H2 => tb { D with nx := N, ct := N, bk := D.nx } σ2 H2)
def pinsAt (fp : List Addr) (h : Heap) : List (Addr × Obj) := fp.filterMap fun b => (h.get? b).map fun o => (b, o)
theorem mem_pinsAt {fp : List Addr} {h : Heap} {b : Addr} {o : Obj} (hb : b ∈ fp) (e : h.get? b = some o) : (b, o) ∈ pinsAt fp h := List.mem_filterMap.mpr ⟨b, hb, by rw [e]; rfl⟩
theorem of_pinsAt {fp : List Addr} {h : Heap} {p : Addr × Obj} (hp : p ∈ pinsAt fp h) : p.1 ∈ fp ∧ h.get? p.1 = some p.2 := by
  obtain ⟨b, hb, e⟩ := List.mem_filterMap.mp hp
  cases q : h.get? b with
  | none => rw [q] at e; cases e
  | some o =>
    rw [q] at e
    have e' : (b, o) = p := Option.some.inj e
    subst e'
    exact ⟨hb, q⟩
theorem Inv.pinned {pins : List (Addr × Obj)} {σ : St} {H : Hp} {s : Shared} {fp : List Addr} (I : Inv X pins σ H s) (hf : ∀ b ∈ fp, FpOk X pins H b) (ho : ∀ b ∈ fp, ∃ o, s.heap.get? b = some o ∧ ∀ v, o.data ≠ .cell v) : Inv X (pins ++ pinsAt fp s.heap) σ H s :=
  I.pins_of fun p hp => (List.mem_append.mp hp).elim (fun z => I.pin p (List.mem_append_right _ z)) fun z => by
    obtain ⟨hb, e⟩ := of_pinsAt z
    obtain ⟨f0, f1, f2, _⟩ := hf p.1 hb
    obtain ⟨o, e', d⟩ := ho p.1 hb
    rw [e] at e'; cases e'
    exact ⟨e, f0, f1, f2, d⟩
theorem Inv.unpinned {pins pl : List (Addr × Obj)} {σ : St} {H : Hp} {s : Shared} (I : Inv X (pins ++ pl) σ H s) : Inv X pins σ H s := I.pins_of fun p hp => I.pin p (List.mem_append_right _ (List.mem_append_left _ hp))
theorem ps_for {iter : Expr} {body : List Stmt} {wi : TI} {g : TG} {tb : TS} {pos : Pos} (hp : PassesOwn (model X.prog X.w) X.A X.env X.xe) (hc : X.calm = true) (hi : PI X tg iter wi) (hg : PG X tg g) (hb : PSs X body tb)
    (hs : ∀ x, foldedSetIterable iter X.env x = pure x := by intro _; rfl) : PS X (.For tg iter body [] pos) (tFor wi g tb) := by
  intro pins s σ H D I h
  refine wpAny_For (thn (hi pins s σ H _ I h) fun v s1 h1 => thn h1 fun itv s2 h2 => ?_) hs
  obtain ⟨it, fp, tn, J, H2, e, I2, T, st2, f2, W, ⟨m0, w0⟩, turn⟩ := h2
  subst e
  -- what stays true of the iterator's objects through the loop
  have stat : ∀ {H' : Hp}, (∀ b ∈ fp, H' b = none) → ∀ b ∈ fp, FpOk X pins H' b := fun hn b hb => ⟨hn b hb, (f2 b hb).2⟩
  refine codeAny_forLoop_any (fun n s' => ∃ i σ' H', Inv X pins σ' H' s' ∧ tn i s'.heap ∧ (∀ b ∈ fp, H' b = none) ∧ W i n σ' H') ?_ m0 ⟨0, σ, H2, I2, st2, fun b hb => (f2 b hb).1, w0⟩
  rintro n s3 ⟨i, σ3, H3, I3, st3, fr3, w3⟩
  rcases turn i n σ3 H3 w3 with ⟨stop, qn⟩ | ⟨go, N, hN, step⟩
  · refine wpAny_passesOwn hp (thn (T.done X rfl rfl rfl hc i pins s3 σ3 H3 X.xe I3 (stat fr3) st3 stop) fun r s4 ⟨hr, I4⟩ => ?_)
    subst hr
    exact wpAny_execs_nil ⟨σ3, H3, I4, qn⟩
  · refine wpAny_passesOwn hp (thn (T.item X rfl rfl rfl hc i pins s3 σ3 H3 X.xe I3 (stat fr3) st3 go) fun r s4 ⟨u, hr, h4⟩ => ?_)
    subst hr
    refine wpAny_passesOwn hp (thn h4 fun _ s5 ⟨x, H5, I5, r5, y5, st5, fr5⟩ => ?_)
    have I5' := I5.pinned (stat fr5) (T.obj _ _ st5)
    refine wpAny_passesOwn hp (thn (hg _ s5 σ3 H5 x u _ I5' r5 (step x H5 y5)) fun _ s6 ⟨σ6, H6, I6, q6⟩ => ?_)
    refine wpAny_passesOwn hp (thn (hb _ s6 σ6 H6 _ I6 q6) fun f s7 q7 => ?_)
    have again : ∀ {σ7 : St} {H7 : Hp}, Inv X (pins ++ pinsAt fp s5.heap) σ7 H7 s7 → N σ7 H7 → ∃ m, m < n ∧ ∃ i σ' H', Inv X pins σ' H' s7 ∧ tn i s7.heap ∧ (∀ b ∈ fp, H' b = none) ∧ W i m σ' H' := fun {σ7 H7} I7 n7 => by
      obtain ⟨m', hm, w7⟩ := hN σ7 H7 n7
      refine ⟨m', hm, i + 1, σ7, H7, I7.unpinned, T.keep _ _ _ st5 fun b hb o e => (I7.pin (b, o) (List.mem_append_right _ (List.mem_append_right _ (mem_pinsAt hb e)))).1, fun b hb => ?_, w7⟩
      obtain ⟨o, e, d⟩ := T.obj _ _ st5 b hb
      exact (I7.pin (b, o) (List.mem_append_right _ (List.mem_append_right _ (mem_pinsAt hb e)))).2.1
    cases f with
    | next => obtain ⟨σ7, H7, I7, n7⟩ := q7; exact again I7 n7
    | cont => obtain ⟨σ7, H7, I7, n7⟩ := q7; exact again I7 n7
    | brk => obtain ⟨σ7, H7, I7, q7⟩ := q7; exact ⟨σ7, H7, I7.unpinned, q7⟩
    | ret v => obtain ⟨x7, σ7, H7, I7, r7, q7⟩ := q7; exact ⟨x7, σ7, H7, I7.unpinned, r7, q7⟩
end
theorem for_list {K : PySem.W.Frag} {a : Addr} {xs : List V} {g : TG} {tb : TS} {D : Ends} {σ : St} {H : Hp} (Pv : Nat → St → Hp → Prop) (h0 : Pv 0 σ H) (hl : ∀ i σ H, i ≤ xs.length → Pv i σ H → SqL K H a xs)
    (hs : ∀ i x σ H, xs[i]? = some x → Pv i σ H → g x σ H fun σ2 H2 => tb { D with nx := Pv (i + 1), ct := Pv (i + 1), bk := D.nx } σ2 H2) (hd : ∀ σ H, Pv xs.length σ H → D.nx σ H) :
    ∃ W : Nat → Nat → St → Hp → Prop, (∃ m, W 0 m σ H) ∧ ∀ i m σ H, W i m σ H →
      ((Itl K a).stop i H ∧ D.nx σ H) ∨ ((Itl K a).go i H ∧ ∃ N : St → Hp → Prop, (∀ σ' H', N σ' H' → ∃ m', m' < m ∧ W (i + 1) m' σ' H') ∧ ∀ x H', (Itl K a).yld i H x H' → g x σ H' fun σ2 H2 => tb { D with nx := N, ct := N, bk := D.nx } σ2 H2) := by
  refine ⟨fun i m σ H => m = xs.length - i ∧ i ≤ xs.length ∧ Pv i σ H, ⟨xs.length, by simp, Nat.zero_le _, h0⟩, ?_⟩
  rintro i m σ H ⟨rfl, hi, p⟩
  have q := hl i σ H hi p
  by_cases hlt : i < xs.length
  · refine .inr ⟨⟨xs, xs[i], q, by simp [hlt]⟩, Pv (i + 1), fun σ' H' p' => ⟨xs.length - (i + 1), by omega, rfl, hlt, p'⟩, fun x H' y => ?_⟩
    obtain ⟨e, y⟩ := y
    subst e
    exact hs i x σ _ (y xs q) p
  · have e : i = xs.length := by omega
    subst e
    exact .inl ⟨⟨xs, q, Nat.le_refl _⟩, hd σ H p⟩
theorem for_tup {K : PySem.W.Frag} {a : Addr} {xs : List V} {g : TG} {tb : TS} {D : Ends} {σ : St} {H : Hp} (Pv : Nat → St → Hp → Prop) (h0 : Pv 0 σ H) (hl : ∀ i σ H, i ≤ xs.length → Pv i σ H → SqT K H a xs)
    (hs : ∀ i x σ H, xs[i]? = some x → Pv i σ H → g x σ H fun σ2 H2 => tb { D with nx := Pv (i + 1), ct := Pv (i + 1), bk := D.nx } σ2 H2) (hd : ∀ σ H, Pv xs.length σ H → D.nx σ H) :
    ∃ W : Nat → Nat → St → Hp → Prop, (∃ m, W 0 m σ H) ∧ ∀ i m σ H, W i m σ H →
      ((Itt K a).stop i H ∧ D.nx σ H) ∨ ((Itt K a).go i H ∧ ∃ N : St → Hp → Prop, (∀ σ' H', N σ' H' → ∃ m', m' < m ∧ W (i + 1) m' σ' H') ∧ ∀ x H', (Itt K a).yld i H x H' → g x σ H' fun σ2 H2 => tb { D with nx := N, ct := N, bk := D.nx } σ2 H2) := by
  refine ⟨fun i m σ H => m = xs.length - i ∧ i ≤ xs.length ∧ Pv i σ H, ⟨xs.length, by simp, Nat.zero_le _, h0⟩, ?_⟩
  rintro i m σ H ⟨rfl, hi, p⟩
  have q := hl i σ H hi p
  by_cases hlt : i < xs.length
  · refine .inr ⟨⟨xs, xs[i], q, by simp [hlt]⟩, Pv (i + 1), fun σ' H' p' => ⟨xs.length - (i + 1), by omega, rfl, hlt, p'⟩, fun x H' y => ?_⟩
    obtain ⟨e, y⟩ := y
    subst e
    exact hs i x σ _ (y xs q) p
  · have e : i = xs.length := by omega
    subst e
    exact .inl ⟨⟨xs, q, Nat.le_refl _⟩, hd σ H p⟩
theorem for_range {lo : Int} {n : Nat} {g : TG} {tb : TS} {D : Ends} {σ : St} {H : Hp} (Pv : Nat → St → Hp → Prop) (h0 : Pv 0 σ H)
    (hs : ∀ i σ H, i < n → Pv i σ H → g (.int (lo + i)) σ H fun σ2 H2 => tb { D with nx := Pv (i + 1), ct := Pv (i + 1), bk := D.nx } σ2 H2) (hd : ∀ σ H, Pv n σ H → D.nx σ H) :
    ∃ W : Nat → Nat → St → Hp → Prop, (∃ m, W 0 m σ H) ∧ ∀ i m σ H, W i m σ H →
      ((Itr lo n).stop i H ∧ D.nx σ H) ∨ ((Itr lo n).go i H ∧ ∃ N : St → Hp → Prop, (∀ σ' H', N σ' H' → ∃ m', m' < m ∧ W (i + 1) m' σ' H') ∧ ∀ x H', (Itr lo n).yld i H x H' → g x σ H' fun σ2 H2 => tb { D with nx := N, ct := N, bk := D.nx } σ2 H2) := by
  refine ⟨fun i m σ H => m = n - i ∧ i ≤ n ∧ Pv i σ H, ⟨n, by simp, Nat.zero_le _, h0⟩, ?_⟩
  rintro i m σ H ⟨rfl, hi, p⟩
  by_cases hlt : i < n
  · refine .inr ⟨hlt, Pv (i + 1), fun σ' H' p' => ⟨n - (i + 1), by omega, rfl, hlt, p'⟩, fun x H' y => ?_⟩
    obtain ⟨e, y⟩ := y
    subst e y
    exact hs i σ _ hlt p
  · have e : i = n := by omega
    subst e
    exact .inl ⟨Nat.le_refl _, hd σ H p⟩
end L2
namespace L2
open PySem PySem.Spec PyProof.Rows
abbrev R2 := V → V → Hp → VK → Prop
def OpR (X : Cx) (f : Value → Value → Sem Value) (r : R2) : Prop :=
  ∀ (pins : List (Addr × Obj)) (s : Shared) (σ : St) (H : Hp) (x y : V) (v u : Value) (Q : VK), Inv X pins σ H s → RelV x v → RelV y u → r x y H Q →
    wpAny (model X.prog X.w) X.A (f v u) (EP X pins σ Q) X.xe s
def UnR (X : Cx) (f : Value → Sem Value) (r : V → Hp → VK → Prop) : Prop :=
  ∀ (pins : List (Addr × Obj)) (s : Shared) (σ : St) (H : Hp) (x : V) (v : Value) (Q : VK), Inv X pins σ H s → RelV x v → r x H Q →
    wpAny (model X.prog X.w) X.A (f v) (EP X pins σ Q) X.xe s
def CallR (X : Cx) (f : Value) (r : List V → Hp → VK → Prop) : Prop :=
  ∀ (pins : List (Addr × Obj)) (s : Shared) (σ : St) (H : Hp) (xs : List V) (us : List Value) (Q : VK), Inv X pins σ H s → Vals xs us → r xs H Q →
    wpAny (model X.prog X.w) X.A (call f us) (EP X pins σ Q) X.xe s
def TruR (X : Cx) (r : V → Hp → (Bool → Hp → Prop) → Prop) : Prop :=
  ∀ (pins : List (Addr × Obj)) (s : Shared) (σ : St) (H : Hp) (x : V) (v : Value) (Q : Bool → Hp → Prop), Inv X pins σ H s → RelV x v → r x H Q →
    wpAny (model X.prog X.w) X.A (truthy v) (TP X pins σ Q) X.xe s
def tOp (r : R2) (ta tb : TE) : TE := fun σ H Q => ta σ H fun x H1 => tb σ H1 fun y H2 => r x y H2 Q
def tUn (r : V → Hp → VK → Prop) (ta : TE) : TE := fun σ H Q => ta σ H fun x H1 => r x H1 Q
def rI (C : Int → Int → Prop) (g : Int → Int → V) : R2 := fun x y H Q => ∃ i j, x = .int i ∧ y = .int j ∧ C i j ∧ Q (g i j) H
def rI0 (g : Int → Int → V) : R2 := fun x y H Q => ∃ i j, x = .int i ∧ y = .int j ∧ Q (g i j) H
def rU (g : Int → V) : V → Hp → VK → Prop := fun x H Q => ∃ i, x = .int i ∧ Q (g i) H
section
variable {X : Cx} {a b c : Expr} {ta tb tc : TE} {pos : Pos}
theorem binT (ha : PE X a ta) (hb : PE X b tb) {pins : List (Addr × Obj)} {s : Shared} {σ : St} {H : Hp} {R : V → V → Hp → Prop} (I : Inv X pins σ H s)
    (h : ta σ H fun x H1 => tb σ H1 fun y H2 => R x y H2) {Q : Value → Shared → Prop} {f : Value → Value → Sem Value}
    (hf : ∀ v u s2 x y H2, Inv X pins σ H2 s2 → RelV x v → RelV y u → R x y H2 → wpAny (model X.prog X.w) X.A (f v u) Q X.xe s2) :
    wpAny (model X.prog X.w) X.A (eval a X.env) (fun v s₁ => wpAny (model X.prog X.w) X.A (eval b X.env) (fun u s₂ => wpAny (model X.prog X.w) X.A (f v u) Q X.xe s₂) X.xe s₁) X.xe s := by
  refine thn (ha pins s σ H _ I h) fun v s1 ⟨x, H1, I1, r1, q1⟩ => ?_
  refine thn (hb pins s1 σ H1 _ I1 q1) fun u s2 ⟨y, H2, I2, r2, q2⟩ => ?_
  exact hf v u s2 x y H2 I2 r1 r2 q2
theorem pe_op {op : Operator} {r : R2} (ho : OpR X (binaryOp op) r) (ha : PE X a ta) (hb : PE X b tb) : PE X (.BinOp a op b pos) (tOp r ta tb) := by
  intro pins s σ H Q I h
  exact wpAny_BinOp (binT ha hb I h fun v u s2 x y H2 I2 rx ry q => ho pins s2 σ H2 x y v u Q I2 rx ry q)
theorem pe_un {op : UnaryOp} {r : V → Hp → VK → Prop} (ho : UnR X (unaryOp op) r) (ha : PE X a ta) : PE X (.UnaryOp op a pos) (tUn r ta) := by
  intro pins s σ H Q I h
  exact UnaryOp_ (thn (ha pins s σ H _ I h) fun v s1 ⟨x, H1, I1, r1, q1⟩ => ho pins s1 σ H1 x v Q I1 r1 q1)
theorem opI {f : Value → Value → Sem Value} {C : Int → Int → Prop} {g : Int → Int → Int}
    (rule : ∀ (i j : Int) (t u : Tok) (s : Shared) (Q : Value → Shared → Prop) (E : Value → Shared → Prop), C i j → Q (.int (g i j) s.toks) { s with toks := s.toks + 1 } → wpAny (model X.prog X.w) X.A (f (.int i t) (.int j u)) Q E s) :
    OpR X f (rI C fun i j => .int (g i j)) := by
  intro pins s σ H x y v u Q I rx ry h
  obtain ⟨i, j, rfl, rfl, hc, q⟩ := h
  obtain ⟨t, rfl⟩ := rx
  obtain ⟨t', rfl⟩ := ry
  exact rule i j t t' s _ _ hc ⟨.int (g i j), H, I.tok _, ⟨_, rfl⟩, q⟩
theorem opI0 {f : Value → Value → Sem Value} {g : Int → Int → Int}
    (rule : ∀ (i j : Int) (t u : Tok) (s : Shared) (Q : Value → Shared → Prop) (E : Value → Shared → Prop), Q (.int (g i j) s.toks) { s with toks := s.toks + 1 } → wpAny (model X.prog X.w) X.A (f (.int i t) (.int j u)) Q E s) :
    OpR X f (rI0 fun i j => .int (g i j)) := by
  intro pins s σ H x y v u Q I rx ry h
  obtain ⟨i, j, rfl, rfl, q⟩ := h
  obtain ⟨t, rfl⟩ := rx
  obtain ⟨t', rfl⟩ := ry
  exact rule i j t t' s _ _ ⟨.int (g i j), H, I.tok _, ⟨_, rfl⟩, q⟩
theorem opB0 {f : Value → Value → Sem Value} {g : Int → Int → Bool}
    (rule : ∀ (i j : Int) (t u : Tok) (s : Shared) (Q : Value → Shared → Prop) (E : Value → Shared → Prop), Q (.bool (g i j)) s → wpAny (model X.prog X.w) X.A (f (.int i t) (.int j u)) Q E s) :
    OpR X f (rI0 fun i j => .bl (g i j)) := by
  intro pins s σ H x y v u Q I rx ry h
  obtain ⟨i, j, rfl, rfl, q⟩ := h
  obtain ⟨t, rfl⟩ := rx
  obtain ⟨t', rfl⟩ := ry
  exact rule i j t t' s _ _ ⟨.bl (g i j), H, I, rfl, q⟩
def CDiv (i j : Int) : Prop := 0 < j ∧ j < 1073741824
def CPow (i j : Int) : Prop := 0 ≤ j ∧ j ≤ 1000000 ∧ i.natAbs < 2 ^ 64
def CMul (i j : Int) : Prop := (-(2 ^ 64) < i ∧ i < 2 ^ 64) ∨ (-(2 ^ 64) < j ∧ j < 2 ^ 64)
theorem CMul.ok {i j : Int} (h : CMul i j) : IntMulOk i j := by
  rcases h with ⟨h1, h2⟩ | ⟨h1, h2⟩
  · exact .of_left (intBits_le_64 h1 h2)
  · exact .of_right (intBits_le_64 h1 h2)
theorem two_pow_nn (k : Nat) : (0 : Int) ≤ 2 ^ k := by
  rw [two_pow_cast]
  exact Int.natCast_nonneg _
theorem op_add : OpR X (binaryOp .Add) (rI0 fun i j => .int (i + j)) := opI0 fun _ _ _ _ _ _ _ q => add_int q
theorem op_sub : OpR X (binaryOp .Sub) (rI0 fun i j => .int (i - j)) := opI0 fun _ _ _ _ _ _ _ q => sub_int q
theorem op_mul : OpR X (binaryOp .Mult) (rI CMul fun i j => .int (i * j)) := opI fun _ _ _ _ _ _ _ hc q => mul_int q hc.ok
theorem op_fdiv : OpR X (binaryOp .FloorDiv) (rI CDiv fun i j => .int (i / j)) := opI fun i j _ _ _ _ _ hc q => by
  have h1 : (0 : Int) < j := hc.1
  have h2 : j < 1073741824 := hc.2
  exact floordiv_int (by omega) (by rw [Int.fdiv_eq_ediv_of_nonneg i (by omega)]; exact q) (.inl (PyProof.noPylong_small (by omega)))
theorem op_mod : OpR X (binaryOp .Mod) (rI (fun _ j => 0 < j) fun i j => .int (i % j)) := opI fun i j _ _ _ _ _ hc q => by
  have h1 : (0 : Int) < j := hc
  exact mod_int' (by omega) (by rw [Int.fmod_eq_emod_of_nonneg i (by omega)]; exact q)
theorem op_pow : OpR X (binaryOp .Pow) (rI CPow fun i j => .int (i ^ j.toNat)) := opI fun _ _ _ _ _ _ _ hc q => pow_int_small hc.1 hc.2.1 hc.2.2 q
theorem op_shr : OpR X (binaryOp .RShift) (rI (fun _ j => 0 ≤ j) fun i j => .int (i / 2 ^ j.toNat)) := opI fun i j _ _ _ _ _ hc q =>
  rshift_int hc (by rw [Int.fdiv_eq_ediv_of_nonneg i (two_pow_nn _)]; exact q)
theorem unI {f : Value → Sem Value} {g : Int → Int}
    (rule : ∀ (i : Int) (t : Tok) (s : Shared) (Q : Value → Shared → Prop) (E : Value → Shared → Prop), Q (.int (g i) s.toks) { s with toks := s.toks + 1 } → wpAny (model X.prog X.w) X.A (f (.int i t)) Q E s) :
    UnR X f (rU fun i => .int (g i)) := by
  intro pins s σ H x v Q I rx h
  obtain ⟨i, rfl, q⟩ := h
  obtain ⟨t, rfl⟩ := rx
  exact rule i t s _ _ ⟨.int (g i), H, I.tok _, ⟨_, rfl⟩, q⟩
theorem un_neg : UnR X (unaryOp .USub) (rU fun i => .int (-i)) := unI fun _ _ _ _ _ q => neg_int q
end
def scal : V → V → Bool
  | .non, .non => true | .non, .int _ => true | .int _, .non => true | .non, .bl _ => true | .bl _, .non => true | .non, .str _ => true | .str _, .non => true
  | .int _, .int _ => true | .bl _, .bl _ => true | .str _, .str _ => true | .byt _, .byt _ => true
  | .int _, .str _ => true | .str _, .int _ => true | .bl _, .str _ => true | .str _, .bl _ => true
  | _, _ => false
def rEq : R2 := fun x y H Q => scal x y = true ∧ Q (.bl (decide (x = y))) H
def rNe : R2 := fun x y H Q => scal x y = true ∧ Q (.bl (!decide (x = y))) H
theorem dec_int {i j : Int} : decide (V.int i = V.int j) = (i == j) := by
  rw [Bool.eq_iff_iff]
  simp
theorem dec_bl {i j : Bool} : decide (V.bl i = V.bl j) = (i == j) := by
  rw [Bool.eq_iff_iff]
  simp
theorem dec_str {i j : Str} : decide (V.str i = V.str j) = (i == j) := by
  rw [Bool.eq_iff_iff]
  simp
theorem dec_byt {i j : Array UInt8} : decide (V.byt i = V.byt j) = (i.toList == j.toList) := by
  rw [Bool.eq_iff_iff]
  cases i
  cases j
  simp
section
variable {X : Cx} {a b c : Expr} {ta tb tc : TE} {pos : Pos}
theorem fin_bl {pins : List (Addr × Obj)} {σ : St} {H : Hp} {s : Shared} {Q : VK} {k k' : Bool} (I : Inv X pins σ H s) (q : Q (.bl k) H) (e : k = k') : EP X pins σ Q (.bool k') s := by
  subst e
  exact ⟨.bl k, H, I, rfl, q⟩
theorem op_eq : OpR X (compareOp .Eq) rEq := by
  intro pins s σ H x y v u Q I rx ry h
  obtain ⟨hs, q⟩ := h
  cases x with
  | non =>
    cases rx
    cases y with
    | non => cases ry; exact PySem.EqNone.eq_none_none (fin_bl I q (by simp))
    | bl j => cases ry; exact PySem.EqNone.eq_none_bool (fin_bl I q (by simp))
    | int j => obtain ⟨t', rfl⟩ := ry; exact PySem.EqNone.eq_none_int (fin_bl I q (by simp))
    | str j => obtain ⟨t', rfl⟩ := ry; exact PySem.EqNone.eq_none_str (fin_bl I q (by simp))
    | _ => exact absurd (show false = true from hs) Bool.false_ne_true
  | bl i =>
    cases rx
    cases y with
    | non => cases ry; exact PySem.EqNone.eq_bool_none (fin_bl I q (by simp))
    | bl j => cases ry; exact eq_bool (fin_bl I q dec_bl)
    | str j => obtain ⟨t', rfl⟩ := ry; exact PySem.EqMixed.eq_bool_str (fin_bl I q (by simp))
    | _ => exact absurd (show false = true from hs) Bool.false_ne_true
  | int i =>
    obtain ⟨t, rfl⟩ := rx
    cases y with
    | non => cases ry; exact PySem.EqNone.eq_int_none (fin_bl I q (by simp))
    | int j => obtain ⟨t', rfl⟩ := ry; exact eq_int (fin_bl I q dec_int)
    | str j => obtain ⟨t', rfl⟩ := ry; exact PySem.EqMixed.eq_int_str (fin_bl I q (by simp))
    | _ => exact absurd (show false = true from hs) Bool.false_ne_true
  | str i =>
    obtain ⟨t, rfl⟩ := rx
    cases y with
    | non => cases ry; exact PySem.EqNone.eq_str_none (fin_bl I q (by simp))
    | bl j => cases ry; exact PySem.EqMixed.eq_str_bool (fin_bl I q (by simp))
    | int j => obtain ⟨t', rfl⟩ := ry; exact PySem.EqMixed.eq_str_int (fin_bl I q (by simp))
    | str j => obtain ⟨t', rfl⟩ := ry; exact eq_str (fin_bl I q dec_str)
    | _ => exact absurd (show false = true from hs) Bool.false_ne_true
  | byt i =>
    obtain ⟨t, rfl⟩ := rx
    cases y with
    | byt j => obtain ⟨t', rfl⟩ := ry; exact PySem.W.eq_bytes (fin_bl I q dec_byt)
    | _ => exact absurd (show false = true from hs) Bool.false_ne_true
  | _ => cases y <;> exact absurd (show false = true from hs) Bool.false_ne_true
theorem op_ne : OpR X (compareOp .NotEq) rNe := by
  intro pins s σ H x y v u Q I rx ry h
  obtain ⟨hs, q⟩ := h
  cases x with
  | non =>
    cases rx
    cases y with
    | non => cases ry; exact PySem.EqNone.ne_none_none (fin_bl I q (by simp))
    | bl j => cases ry; exact PySem.EqNone.ne_none_bool (fin_bl I q (by simp))
    | int j => obtain ⟨t', rfl⟩ := ry; exact PySem.EqNone.ne_none_int (fin_bl I q (by simp))
    | str j => obtain ⟨t', rfl⟩ := ry; exact PySem.EqNone.ne_none_str (fin_bl I q (by simp))
    | _ => exact absurd (show false = true from hs) Bool.false_ne_true
  | bl i =>
    cases rx
    cases y with
    | non => cases ry; exact PySem.EqNone.ne_bool_none (fin_bl I q (by simp))
    | bl j => cases ry; exact ne_bool (fin_bl I q (congrArg not dec_bl))
    | str j => obtain ⟨t', rfl⟩ := ry; exact PySem.EqMixed.ne_bool_str (fin_bl I q (by simp))
    | _ => exact absurd (show false = true from hs) Bool.false_ne_true
  | int i =>
    obtain ⟨t, rfl⟩ := rx
    cases y with
    | non => cases ry; exact PySem.EqNone.ne_int_none (fin_bl I q (by simp))
    | int j => obtain ⟨t', rfl⟩ := ry; exact ne_int (fin_bl I q (congrArg not dec_int))
    | str j => obtain ⟨t', rfl⟩ := ry; exact PySem.EqMixed.ne_int_str (fin_bl I q (by simp))
    | _ => exact absurd (show false = true from hs) Bool.false_ne_true
  | str i =>
    obtain ⟨t, rfl⟩ := rx
    cases y with
    | non => cases ry; exact PySem.EqNone.ne_str_none (fin_bl I q (by simp))
    | bl j => cases ry; exact PySem.EqMixed.ne_str_bool (fin_bl I q (by simp))
    | int j => obtain ⟨t', rfl⟩ := ry; exact PySem.EqMixed.ne_str_int (fin_bl I q (by simp))
    | str j => obtain ⟨t', rfl⟩ := ry; exact ne_str (fin_bl I q (congrArg not dec_str))
    | _ => exact absurd (show false = true from hs) Bool.false_ne_true
  | byt i =>
    obtain ⟨t, rfl⟩ := rx
    cases y with
    | byt j => obtain ⟨t', rfl⟩ := ry; exact PySem.W.ne_bytes (fin_bl I q (congrArg not dec_byt))
    | _ => exact absurd (show false = true from hs) Bool.false_ne_true
  | _ => cases y <;> exact absurd (show false = true from hs) Bool.false_ne_true
theorem op_lt : OpR X (compareOp .Lt) (rI0 fun i j => .bl (decide (i < j))) := opB0 fun _ _ _ _ _ _ _ q => lt_int q
theorem op_le : OpR X (compareOp .LtE) (rI0 fun i j => .bl (decide (i ≤ j))) := opB0 fun _ _ _ _ _ _ _ q => le_int q
theorem op_gt : OpR X (compareOp .Gt) (rI0 fun i j => .bl (decide (j < i))) := opB0 fun _ _ _ _ _ _ _ q => gt_int q
theorem op_ge : OpR X (compareOp .GtE) (rI0 fun i j => .bl (decide (j ≤ i))) := opB0 fun _ _ _ _ _ _ _ q => ge_int q
theorem nomark (b : Expr) {op : CmpOp} (h : op ≠ .In := by decide) (h2 : op ≠ .NotIn := by decide) : behindInMarks op b = false := by
  have e1 : (op == CmpOp.In) = false := by cases op <;> first | rfl | exact absurd rfl h
  have e2 : (op == CmpOp.NotIn) = false := by cases op <;> first | rfl | exact absurd rfl h2
  cases b <;> simp [behindInMarks, e1, e2]
theorem pe_cmpR {op : CmpOp} {r : R2} (ho : OpR X (compareOp op) r) (ha : PE X a ta) (hb : PE X b tb) (hm : behindInMarks op b = false) : PE X (.Compare a [op] [b] pos) (tOp r ta tb) := by
  intro pins s σ H Q I h
  exact wpAny_Compare1 (binT ha hb I h fun v u s2 x y H2 I2 rx ry q => ho pins s2 σ H2 x y v u Q I2 rx ry q) hm
def tTest (t : TE) : TT := fun σ H Q => t σ H fun x H' => ∃ k, x = .bl k ∧ Q k H'
theorem pt_cmpR {op : CmpOp} {r : R2} (ho : OpR X (compareOp op) r) (ha : PE X a ta) (hb : PE X b tb) (hm : behindInMarks op b = false) : PT X (.Compare a [op] [b] pos) (tTest (tOp r ta tb)) := by
  intro pins s σ H Q I h
  refine wpAny_isTrue_Compare1 (thn (ha pins s σ H _ I h) fun v s1 ⟨x, H1, I1, r1, q1⟩ => thn (hb pins s1 σ H1 _ I1 q1) fun u s2 ⟨y, H2, I2, r2, q2⟩ =>
    thn (ho pins s2 σ H2 x y v u _ I2 r1 r2 q2) fun c s3 ⟨z, H3, I3, r3, k, e, q3⟩ => ?_) hm
  subst e
  cases r3
  exact wpAny_truthy_bool ⟨H3, I3, q3⟩
def tChain (r r' : R2) (ta tb tc : TE) : TE := fun σ H Q => ta σ H fun x H1 => tb σ H1 fun y H2 => r x y H2 fun z H3 => ∃ k, z = .bl k ∧
  (if k = true then tc σ H3 fun w' H4 => r' y w' H4 Q else Q (.bl false) H3)
def TruV (K : PySem.W.Frag) (x : V) (H : Hp) (k : Bool) : Prop :=
  match x with
  | .non => k = false
  | .bl b => k = b
  | .int i => k = (i != 0)
  | .str y => y.length ≤ sizeLine ∧ k = ((y.length : Int) != 0)
  | .byt y => y.size ≤ sizeLine ∧ k = ((y.size : Int) != 0)
  | .ref p => (∃ xs, SqL K H p xs ∧ k = !xs.isEmpty) ∨ (∃ xs, SqT K H p xs ∧ k = !xs.isEmpty) ∨ ∃ kvs, H p = some (.dK kvs) ∧ k = !kvs.isEmpty
  | _ => False
theorem isEmpty_kv {κ : Type} {kvs : List (κ × V)} {vs : List (κ × Value)} (r : KV kvs vs) : (!vs.isEmpty) = !kvs.isEmpty := by
  cases r <;> rfl
theorem isEmpty_of {xs : List V} {its : List Value} (r : Vals xs its) : (!its.toArray.isEmpty) = !xs.isEmpty := by
  cases r <;> simp
theorem line63 : (sizeLine : Nat) < 2 ^ 63 := by rw [sizeLine_eq]; decide
theorem tru_ok : TruR X (fun x H Q => ∃ k, TruV X.K x H k ∧ Q k H) := by
  intro pins s σ H x v Q I rx h
  obtain ⟨k, e, q⟩ := h
  have hl := line63
  have hs : sizeLine = 16777216 := sizeLine_eq
  cases x with
  | non =>
    cases rx
    have e' : k = false := e
    subst e'
    exact truthy_none ⟨H, I, q⟩
  | bl b =>
    cases rx
    have e' : k = b := e
    subst e'
    exact wpAny_truthy_bool ⟨H, I, q⟩
  | int i =>
    obtain ⟨t, rfl⟩ := rx
    have e' : k = (i != 0) := e
    subst e'
    exact PySem.P.truthy_int ⟨H, I, q⟩
  | str y =>
    obtain ⟨t, rfl⟩ := rx
    obtain ⟨hy, e'⟩ : y.length ≤ sizeLine ∧ k = ((y.length : Int) != 0) := e
    subst e'
    exact PySem.P.truthy_str (by omega) ⟨H, I.tok _, q⟩
  | byt y =>
    obtain ⟨t, rfl⟩ := rx
    obtain ⟨hy, e'⟩ : y.size ≤ sizeLine ∧ k = ((y.size : Int) != 0) := e
    subst e'
    exact PySem.W.truthy_bytes (by omega) ⟨H, I.tok _, q⟩
  | ref p =>
    cases rx
    have e' : (∃ xs, SqL X.K H p xs ∧ k = !xs.isEmpty) ∨ (∃ xs, SqT X.K H p xs ∧ k = !xs.isEmpty) ∨ ∃ kvs, H p = some (.dK kvs) ∧ k = !kvs.isEmpty := e
    rcases e' with ⟨xs, hx, e'⟩ | ⟨xs, hx, e'⟩ | ⟨kvs, hx, e'⟩
    · subst e'
      obtain ⟨its, r, pl, hz⟩ := I.list hx
      have hlen := r.length
      exact wpAny_truthy_list pl.isList (by simp only [List.size_toArray]; omega) ⟨H, I.tok _, by rw [isEmpty_of r]; exact q⟩
    · subst e'
      obtain ⟨its, r, pl, hz⟩ := I.tuple hx
      have hlen := r.length
      exact truthy_tuple pl (by simp only [List.size_toArray]; omega) ⟨H, I.tok _, by rw [isEmpty_of r]; exact q⟩
    · subst e'
      obtain ⟨hz, hS, vs, r, m⟩ : kvs.length ≤ sizeLine ∧ (p == sysModules) = false ∧ ∃ vs, KV kvs vs ∧ s.heap.DictOf (mixKind X.prog X.w) p vs := I.hok p _ hx
      have hlen : kvs.length = vs.length := Paired.length r
      exact wpAny_truthy_dict hS m (by omega) ⟨H, I.tok _, by rw [isEmpty_kv r]; exact q⟩
  | _ => exact (show False from e).elim
theorem pt_truth (ha : PE X a ta) (he : ∀ whole, isTrue a X.env whole = (do let v ← whole; standAt a.pos; holding [v] (truthy v))) :
    PT X a (fun σ H Q => ta σ H fun x H' => ∃ k, TruV X.K x H' k ∧ Q k H') := by
  intro pins s σ H Q I h
  exact isTrue_plain (thn (ha pins s σ H _ I h) fun v s1 ⟨x, H1, I1, r1, q1⟩ => tru_ok pins s1 σ H1 x v Q I1 r1 q1) (he _)
theorem op_add_str : OpR X (binaryOp .Add) (fun x y H Q => ∃ i j, x = .str i ∧ y = .str j ∧ i.length + j.length ≤ sizeLine ∧ Q (.str (i ++ j)) H) := by
  intro pins s σ H x y v u Q I rx ry h
  obtain ⟨i, j, rfl, rfl, hz, q⟩ := h
  obtain ⟨t, rfl⟩ := rx
  obtain ⟨t', rfl⟩ := ry
  exact add_str (fun t' tk => ⟨.str (i ++ j), H, I.tok _, ⟨_, rfl⟩, q⟩) hz
theorem vals1 {x : V} {us : List Value} (r : Vals [x] us) : ∃ u, us = [u] ∧ RelV x u := by
  cases r with
  | cons r1 r2 => cases r2; exact ⟨_, rfl, r1⟩
theorem vals2 {x y : V} {us : List Value} (r : Vals [x, y] us) : ∃ u w', us = [u, w'] ∧ RelV x u ∧ RelV y w' := by
  cases r with
  | cons r1 r2 =>
    cases r2 with
    | cons r3 r4 => cases r4; exact ⟨_, _, rfl, r1, r3⟩
theorem call_max2 (hc : X.calm = true) : CallR X (.builtin "max") (fun xs H Q => ∃ i j, xs = [.int i, .int j] ∧ Q (.int (if j > i then j else i)) H) := by
  intro pins s σ H xs us Q I r h
  obtain ⟨i, j, rfl, q⟩ := h
  obtain ⟨u, w', rfl, ⟨t, rfl⟩, ⟨t', rfl⟩⟩ := vals2 r
  refine max_two_ints (I.ok.hd hc) fun h' tk k => ⟨_, H, I.kept k, ?_, q⟩
  by_cases hj : j > i
  · rw [if_pos hj, if_pos hj]; exact ⟨_, rfl⟩
  · rw [if_neg hj, if_neg hj]; exact ⟨_, rfl⟩
theorem call_int1 : CallR X (.type "int") (fun xs H Q => (∃ i, xs = [.int i] ∧ Q (.int i) H) ∨ ∃ k, xs = [.bl k] ∧ Q (.int (if k then 1 else 0)) H) := by
  intro pins s σ H xs us Q I r h
  rcases h with ⟨i, rfl, q⟩ | ⟨k, rfl, q⟩
  · obtain ⟨u, rfl, t, rfl⟩ := vals1 r
    exact call_int_int ⟨.int i, H, I, ⟨_, rfl⟩, q⟩
  · obtain ⟨u, rfl, r1⟩ := vals1 r
    cases r1
    exact call_int_bool ⟨.int (if k then 1 else 0), H, I.tok _, ⟨_, rfl⟩, q⟩
theorem call_str_int : CallR X (.type "str") (fun xs H Q => ∃ i, xs = [.int i] ∧ i.natAbs.log2 < 1920 ∧ Q (.str (toString i)) H) := by
  intro pins s σ H xs us Q I r h
  obtain ⟨i, rfl, hz, q⟩ := h
  obtain ⟨u, rfl, t, rfl⟩ := vals1 r
  exact PySem.P.str_of_int hz ⟨.str _, H, I.tok _, ⟨_, rfl⟩, q⟩
end
end L2
namespace L2
open PySem PySem.Spec PyProof.Rows
structure ObjM (h : Heap) (x dx C : Addr) (mA : Str → Option Value) : Prop where
  obj : h.get? x = some (PySem.W.instObj C dx)
  ns : h.Ns1 dx mA
  ne : dx ≠ x
theorem lookIn_ns {h : Heap} {dx : Addr} {mA : Str → Option Value} (n : h.Ns1 dx mA) : ∃ od, h.get? dx = some od ∧ ∀ name, PySem.W.lookIn name od = some (mA name) := by
  obtain ⟨o, es, ep, ho, hd, hk, _, hm⟩ := n
  refine ⟨o, ho, fun name => ?_⟩
  have e := hm name
  unfold nsFind findBy at e
  rw [← Array.find?_toList] at e
  unfold PySem.W.lookIn
  rw [hd]
  dsimp only
  split
  · rename_i y q
    rw [q] at e
    exact congrArg some e
  · rename_i q
    rw [q] at e
    have a : es.toList.any (·.refKey) = false := by
      rw [List.any_eq_false]
      intro y hy
      obtain ⟨z, t, hkey⟩ := hk y (Array.mem_toList_iff.mp hy)
      simp [DictEntry.refKey, hkey]
    have a' : ¬ es.toList.any (·.refKey) = true := by rw [a]; exact Bool.false_ne_true
    rw [if_neg a']
    exact congrArg some e
theorem ObjM.look {h : Heap} {x dx C : Addr} {mA : Str → Option Value} (I : ObjM h x dx C mA) : ∃ od, PySem.W.InstAt h x (PySem.W.instObj C dx) C (some od) ∧ ∀ name, PySem.W.lookIn name od = some (mA name) :=
  let ⟨od, ho, hl⟩ := lookIn_ns I.ns
  ⟨od, ⟨I.obj, rfl, rfl, ho⟩, hl⟩
section
variable {prog : Program} {w : World} {A : Around} {E : Value → Shared → Prop} {s : Shared} {K : PySem.W.Frag} {x dx C f : Addr} {mA : Str → Option Value} {name : Str} {v : Value}
end
def putF (f : Str) (v : V) : List (Str × V) → List (Str × V)
  | [] => [(f, v)]
  | (g, x) :: r => if g = f then (g, v) :: r else (g, x) :: putF f v r
theorem RelO.some_of {v : V} {o : Option Value} (r : RelO (some v) o) : ∃ u, o = some u ∧ RelV v u := by
  cases o with
  | none => exact (show False from r).elim
  | some u => exact ⟨u, rfl, r⟩
section
variable {P : Program} {w : World} {H H' : Hp} {h h' : Heap} {a C dx : Addr} {fs fs' : List (Str × V)}
theorem ins_get (hok : HOk P w H h) (e : H a = some (.ins C dx fs)) : ∃ mA, ObjM h a dx C mA ∧ (∀ f, RelO (fs.lookup f) (mA f)) ∧ PySem.Within mA (fs.map (·.1)) ∧ fs.length ≤ 1000 ∧ H dx = some (.own a) := by
  obtain ⟨d, z, ne, ob, mA, n, r, q⟩ := (show ObjOk P w H h a (.ins C dx fs) from hok a _ e)
  exact ⟨mA, ⟨ob, n, ne⟩, r, q, z, d⟩
end
structure Cls (K : PySem.W.Frag) (C : Addr) : Prop where
  pg : PySem.W.plainGet K C Str.empty = true
  hd : PySem.W.hasDictIn K C = true
  po : PySem.W.plainOver K C = true
  sa : PySem.W.findIn K (.ref C) "__setattr__" = some (some (.builtin "object.__setattr__"))
theorem Cls.get {K : PySem.W.Frag} {C : Addr} (c : Cls K C) (f : Str) : PySem.W.plainGet K C f = true := c.pg
structure Con (K : PySem.W.Frag) (C : Addr) (f : Str) (v : V) (u : Value) : Prop where
  at_ : PySem.W.findIn K (.ref C) f = some (some u)
  rel : RelV v u
  get : PySem.W.specialIn K u "__get__" = some none
  cp : PySem.W.copiedNames.contains f = false
structure Meth (K : PySem.W.Frag) (C : Addr) (m : Str) (f : Addr) : Prop where
  at_ : PySem.W.findIn K (.ref C) m = some (some (.ref f))
  fn : PySem.W.isFn K (.ref f) = true
  kp : PySem.W.keepIn K (.ref f) = true
section
variable {X : Cx} {pins : List (Addr × Obj)} {σ : St} {H : Hp} {s : Shared} {a C dx : Addr} {fs : List (Str × V)} {f : Str} {v : V} {A : Around} {E : Value → Shared → Prop}
end
section
variable {X : Cx} {o e value : Expr} {f : Str} {pos pos' tpos : Pos} {ta tv : TE}
end
section
variable {X : Cx} {pins : List (Addr × Obj)} {σ : St} {H : Hp} {s : Shared} {A : Around} {E : Value → Shared → Prop} {Q : Value → Shared → Prop} {c : Value} {b : Bool}
inductive TyOf (K : PySem.W.Frag) (H : Hp) : V → Value → Prop where
  | non : TyOf K H .non (.type "NoneType")
  | bl (x : Bool) : TyOf K H (.bl x) (.type "bool")
  | int (i : Int) : TyOf K H (.int i) (.type "int")
  | str (x : Str) : TyOf K H (.str x) (.type "str")
  | flt (x : UInt64) : TyOf K H (.flt x) (.type "float")
  | lst {a : Addr} {xs : List V} (e : H a = some (.lst xs)) : TyOf K H (.ref a) (.type "list")
  | frz {a : Addr} {o : Obj} {xs : List V} (e : H a = some (.frz o (.lst xs))) : TyOf K H (.ref a) (.type "list")
  | tup {a : Addr} {xs : List V} (e : H a = some (.tup xs)) : TyOf K H (.ref a) (.type "tuple")
  | dK {a : Addr} {kvs : List (Key × V)} (e : H a = some (.dK kvs)) : TyOf K H (.ref a) (.type "dict")
  | dT {a : Addr} {kvs : List (List Key × V)} (e : H a = some (.dT kvs)) : TyOf K H (.ref a) (.type "dict")
  | ins {a C dx : Addr} {fs : List (Str × V)} (e : H a = some (.ins C dx fs)) (cl : Cls K C) (ha : PySem.W.findIn K (.ref C) "__class__" = some (some (.builtin "object.__class__")))
      (hn : PySem.W.specialIn K (.builtin "object.__class__") "__get__" = some (some (.builtin "getset_descriptor.__get__"))) (htk : PySem.W.takesIn K (.builtin "object.__class__") = some true)
      (hm : PySem.W.mroIn K C (.type "object") = some true) : TyOf K H (.ref a) (.ref C)
theorem isinst_ok {x : V} {u t : Value} (I : Inv X pins σ H s) (rx : RelV x u) (ty : TyOf X.K H x t) (e : PySem.W.kitOne X.K t c = some b) (h : ∀ tk, Q (.bool b) { s with toks := tk }) :
    wpAny (model X.prog X.w) A (call (.builtin "isinstance") [u, c]) Q E s := by
  cases ty with
  | non => cases (show u = Value.none from rx); exact PySem.W.kia_one PySem.W.kitx_none I.kIn True.intro e (fun z => nomatch z) h
  | bl y => cases (show u = Value.bool y from rx); exact PySem.W.kia_one PySem.W.kitx_bool I.kIn True.intro e (fun z => nomatch z) h
  | int i => obtain ⟨t, q⟩ := (show ∃ t, u = Value.int i t from rx); cases q; exact PySem.W.kia_one PySem.W.kitx_int I.kIn True.intro e (fun z => nomatch z) h
  | str y => obtain ⟨t, q⟩ := (show ∃ t, u = Value.str y t from rx); cases q; exact PySem.W.kia_one PySem.W.kitx_str I.kIn True.intro e (fun z => nomatch z) h
  | flt y => obtain ⟨t, q⟩ := (show ∃ t, u = Value.float y t from rx); cases q; exact PySem.W.kia_one PySem.W.kitx_float I.kIn True.intro e (fun z => nomatch z) h
  | @lst a xs ea =>
    cases (show u = Value.ref a from rx)
    obtain ⟨_, _, n, _, h1⟩ := (show ObjOk X.prog X.w H s.heap a (.lst xs) from I.hok a _ ea)
    exact PySem.W.kia_one PySem.W.kitx_list I.kIn ⟨_, h1, rfl⟩ e (fun z => nomatch z) h
  | @frz a ob xs ea =>
    cases (show u = Value.ref a from rx)
    obtain ⟨_, _, _, n, _, h1⟩ := (show ObjOk X.prog X.w H s.heap a (.frz ob (.lst xs)) from I.hok a _ ea)
    exact PySem.W.kia_one PySem.W.kitx_list I.kIn ⟨_, h1, rfl⟩ e (fun z => nomatch z) h
  | @tup a xs ea =>
    cases (show u = Value.ref a from rx)
    obtain ⟨_, _, _, p⟩ := (show ObjOk X.prog X.w H s.heap a (.tup xs) from I.hok a _ ea)
    obtain ⟨o, h1, h2, _⟩ := p
    exact PySem.W.kia_one PySem.W.kitx_tuple I.kIn ⟨o, h1, h2⟩ e (fun z => nomatch z) h
  | @dK a kvs ea =>
    cases (show u = Value.ref a from rx)
    obtain ⟨_, _, vs, _, p⟩ := (show ObjOk X.prog X.w H s.heap a (.dK kvs) from I.hok a _ ea)
    obtain ⟨o, es, ep, h1, h2, _⟩ := p
    exact PySem.W.kia_one PySem.W.kitx_dict I.kIn ⟨o, h1, h2.1⟩ e (fun z => nomatch z) h
  | @dT a kvs ea =>
    cases (show u = Value.ref a from rx)
    obtain ⟨_, _, xs, _, o, es, ep, h1, h2, _⟩ := (show ObjOk X.prog X.w H s.heap a (.dT kvs) from I.hok a _ ea)
    exact PySem.W.kia_one PySem.W.kitx_dict I.kIn ⟨o, h1, h2.1⟩ e (fun z => nomatch z) h
  | @ins a C dx fs ea cl ha hn htk hm =>
    cases (show u = Value.ref a from rx)
    obtain ⟨mA, O, _⟩ := ins_get I.hok ea
    obtain ⟨od, J, _⟩ := O.look
    exact PySem.W.kia_one (PySem.W.kitx_own (cl.get _) cl.hd ha hn htk hm) I.kIn J e (fun z => nomatch z) h
end
end L2
namespace L2
open PySem PySem.Spec PyProof.Rows
structure Room (k : Nat) (A : Around) : Prop where
  hd : A.handled = none
  dp : A.depth + 3 * k + 5 < recursionLimit
  un : A.units + 16 * k + 200 < cLine
theorem Room.mono {j k : Nat} {A : Around} (r : Room k A) (h : j ≤ k) : Room j A := ⟨r.hd, by have := r.dp; omega, by have := r.un; omega⟩
theorem Room.deeper {k : Nat} {A : Around} (r : Room (k + 1) A) (env : Env) : Room k (A.deeper env) :=
  ⟨r.hd, by have := r.dp; show A.depth + 1 + 3 * k + 5 < _; omega, by have := r.un; show A.units + 3 + 16 * k + 200 < _; omega⟩
theorem Room.depth {k : Nat} {A : Around} (r : Room k A) : A.depth < recursionLimit := by have := r.dp; omega
theorem Room.units {k : Nat} {A : Around} (r : Room k A) : A.units + 64 < cLine := by have := r.un; omega
def tNil : TA := fun _ H Q => Q [] H
def tCons (ta : TE) (tr : TA) : TA := fun σ H Q => ta σ H fun x H1 => tr σ H1 fun xs H2 => Q (x :: xs) H2
section
variable {X : Cx} {e : Expr} {es : List Expr} {te : TE} {t : TA} {pos : Pos}
theorem pa_nil : PA X [] tNil := fun _ _ _ _ H Q I h => Calls.spliced_nil ⟨[], H, I, .nil, h⟩
theorem pa_cons (ha : PE X e te) (hr : PA X es t) (hs : starEach (e :: es) X.env = (false, eval e X.env) :: starEach es X.env := by rfl) : PA X (e :: es) (tCons te t) := by
  intro pos pins s σ H Q I h
  rw [hs]
  show wpAny _ _ (spliced ((false, eval e X.env) :: backTo pos (starEach es X.env))) _ _ s
  refine Calls.spliced_cons (thn (ha pins s σ H _ I h) fun u s1 ⟨x, H1, I1, r1, q1⟩ => ?_)
  exact thn (hr pos pins s1 σ H1 _ I1 q1) fun us s2 ⟨xs, H2, I2, r2, q2⟩ => ⟨x :: xs, H2, I2, .cons r1 r2, q2⟩
def tTup (t : TA) : TE := fun σ H Q => t σ H fun xs H1 => xs.length ≤ sizeLine ∧ ∀ p, H1 p = none → Q (.ref p) (upd H1 p (.tup xs))
def tLst (t : TA) : TE := fun σ H Q => t σ H fun xs H1 => xs.length ≤ sizeLine ∧ ∀ p, H1 p = none → Q (.ref p) (upd H1 p (.lst xs))
theorem pe_tup {x1} (h : PA X es t) : PE X (.Tuple es x1 pos) (tTup t) := by
  intro pins s σ H Q I hq
  refine wpAny_Tuple_spliced (thn (h pos pins s σ H _ I hq) fun us s1 ⟨xs, H1, I1, r, z, q⟩ => ⟨by rw [← r.length]; exact z, ?_⟩)
  have hf : H1 s1.heap.objs.size = none := I1.hok.fresh (Nat.le_refl _)
  refine ⟨.ref s1.heap.objs.size, upd H1 s1.heap.objs.size (.tup xs), I1.laid (t' := s1.toks) (fun b u e => Heap.get?_push_of_some _ e) (Nat.le_refl _) ?_, rfl, q _ hf⟩
  exact ⟨z, us, r, ⟨_, Heap.get?_push_size _ rfl, rfl, _, rfl⟩⟩
theorem pe_lst (h : PA X es t) : PE X (.List es pos) (tLst t) := by
  intro pins s σ H Q I hq
  refine wpAny_List_spliced (thn (h pos pins s σ H _ I hq) fun us s1 ⟨xs, H1, I1, r, z, q⟩ => ⟨by rw [← r.length]; exact z, ?_⟩)
  have hf : H1 s1.heap.objs.size = none := I1.hok.fresh (Nat.le_refl _)
  refine ⟨.ref s1.heap.objs.size, upd H1 s1.heap.objs.size (.lst xs), I1.laid (t' := s1.toks) (fun b u e => Heap.get?_push_of_some _ e) (Nat.le_refl _) ?_, rfl, q _ hf⟩
  exact ⟨z, us, 0, r, Heap.get?_push_size _ rfl⟩
end
abbrev Sp := List V → Hp → VK → XK → Prop
abbrev CXT := List Env → Hp → Shared → XK → Value → Shared → Prop
structure Env0 (P : Program) (w : World) (K : PySem.W.Frag) (mg : Str → Option Value) (base : Heap) (A : Around) (outer : List Env) (s : Shared) (H : Hp) : Prop where
  frames : A.frames = some outer
  mod : Mod K mg base
  bs : ∀ b o, base.get? b = some o → s.heap.get? b = some o ∧ H b = none
  bsz : base.objs.size ≤ s.heap.objs.size
  funs : s.heap.FunFrames base outer
  frf : ∀ b ∈ frs outer, H b = none
  hok : HOk P w H s.heap
  bare : AllBare s.gens
def CE (outer : List Env) (P : Program) (w : World) (H : Hp) (s : Shared) (Q : VK) (u : Value) (s' : Shared) : Prop :=
  ∃ v H', s'.os = s.os ∧ AllBare s'.gens ∧ Un (frs outer) [] H H' s.heap s'.heap ∧ HOk P w H' s'.heap ∧ RelV v u ∧ Q v H'
def CR (CX : CXT) (outer : List Env) (P : Program) (w : World) (H : Hp) (s : Shared) (Q : VK) (E : XK) (r : Result) (s' : Shared) : Prop :=
  match r with
  | .ok (.ret u) => CE outer P w H s Q u s'
  | .ok _ => False
  | .error e => CX outer H s E e s'
structure FnOk (P : Program) (w : World) (K : PySem.W.Frag) (mg : Str → Option Value) (base : Heap) (CX : CXT) (k : Nat) (f : Addr) (fd : FuncData) (ps : List Str) (sp : Sp) : Prop where
  len : ∀ vs H Q E, sp vs H Q E → vs.length = ps.length
  run : ∀ (A : Around) (outer : List Env) (s : Shared) (H : Hp) (args : Args) (us : List Value) (vs : List V) (Q : VK) (E : XK), Room k A → Env0 P w K mg base A outer s H → BindsTo s fd args (ps.zip us) → Vals vs us → sp vs H Q E →
    codeAny (model P w) A (.call (.ref f) args) (CR CX outer P w H s Q E) s
section
variable {X : Cx} {pins : List (Addr × Obj)} {σ : St} {H : Hp} {s s' : Shared}
theorem Inv.env0 (I : Inv X pins σ H s) : Env0 X.prog X.w X.K X.mg X.base X.A X.stack s H :=
  ⟨I.ok.frames, I.ok.mod, I.bs, Nat.le_trans I.ok.bsz I.sz, I.stack, I.stkFree, I.hok, I.bare⟩
theorem Inv.after {Q : VK} {u : Value} (I : Inv X pins σ H s) (h : CE X.stack X.prog X.w H s Q u s') : EP X pins σ Q u s' := by
  obtain ⟨v, H', os, bare, un, hok, r, q⟩ := h
  obtain ⟨hh, g, d, t, os'⟩ := s'
  obtain rfl : os' = s.os := os
  exact ⟨v, H', I.call (h' := hh) (g' := g) (d' := d) (t' := t) (ch := []) un hok bare (fun b z => absurd z (by simp)), r, q⟩
end
def tCall (sp : Sp) (dvs : List V) (E : XK) (t : TA) : TE := fun σ H Q => t σ H fun vs H1 => sp (vs ++ dvs) H1 Q E
def Binds (K : PySem.W.Frag) (fd : FuncData) (ps : List Str) (ds : List Value) : Prop :=
  ∀ (s : Shared) (us : List Value), K.In s.heap → (us ++ ds).length = ps.length → BindsTo s fd ⟨us, []⟩ (ps.zip (us ++ ds))
theorem Binds.all {K : PySem.W.Frag} {fd : FuncData} {ps : List Str} (h : ∀ us : List Value, us.length = ps.length → bindArgs fd ⟨us, []⟩ = pure (ps.zip us)) : Binds K fd ps [] := fun s us _ hl => by
  rw [List.append_nil] at hl ⊢
  exact .of_eq (h us hl)
def Passes (CX : CXT) (X : Cx) (E : XK) : Prop := ∀ (pins : List (Addr × Obj)) (σ : St) (H : Hp) (s : Shared) (e : Value) (s' : Shared), Inv X pins σ H s → CX X.stack H s E e s' → X.xe e s'
section
variable {X : Cx} {CX : CXT} {k : Nat} {f C : Addr} {fd : FuncData} {ps : List Str} {sp : Sp} {dvs : List V} {ds : List Value} {E : XK} {x m : Str} {p pos apos : Pos} {e o : Expr} {es : List Expr} {ta : TE} {t : TA}
theorem run_fn {pins : List (Addr × Obj)} {σ : St} {H : Hp} {s : Shared} {Q : VK} {us : List Value} {vs : List V} (F : FnOk X.prog X.w X.K X.mg X.base CX k f fd ps sp) (hr : Room k X.A) (hb : Binds X.K fd ps ds) (hd : Vals dvs ds) (hx : Passes CX X E)
    (I : Inv X pins σ H s) (r : Vals vs us) (h : sp (vs ++ dvs) H Q E) : wpAny (model X.prog X.w) X.A (call (.ref f) us) (EP X pins σ Q) X.xe s := by
  have r2 : Vals (vs ++ dvs) (us ++ ds) := r.append hd
  have hl : (us ++ ds).length = ps.length := by rw [← r2.length]; exact F.len _ _ _ _ h
  refine wpAny_call (codeAny_mono (F.run X.A X.stack s H ⟨us, []⟩ (us ++ ds) (vs ++ dvs) Q E hr I.env0 (hb s us I.kIn hl) r2 h) fun r s' hq => ?_)
  cases r with
  | error e => exact hx pins σ H s e s' I hq
  | ok fl =>
    cases fl with
    | ret u => exact I.after hq
    | next => exact False.elim hq
    | brk => exact False.elim hq
    | cont => exact False.elim hq
theorem pe_call (F : FnOk X.prog X.w X.K X.mg X.base CX k f fd ps sp) (hr : Room k X.A) (hg : Gl X x) (hm : X.mg x = some (.ref f)) (hk : PySem.W.keepIn X.K (.ref f) = true) (hb : Binds X.K fd ps ds) (hd : Vals dvs ds) (hx : Passes CX X E)
    (ha : PA X (e :: es) t) (hdb : (x == ("__debug__" : Str)) = false := by decide) (he : starEach (e :: es) X.env = (false, eval e X.env) :: starEach es X.env := by rfl) (hpl : (backTo pos (starEach es X.env)).any (·.1) = false := by rfl) :
    PE X (.Call (.Name x p) (e :: es) [] pos) (tCall sp dvs E t) := by
  intro pins s σ H Q I h
  refine wpAny_Call_Name_kw (ld_glob I hg hm ?_ hdb)
  refine PySem.W.callWith_K (h₀ := X.base) I.ok.mod.kin hk (thn (ha pos pins s σ H _ I h) fun us s1 ⟨vs, H1, I1, r, q⟩ => ⟨I1.kIn, ?_⟩) he hpl
  exact run_fn F hr hb hd hx I1 r q
theorem pe_call0 (F : FnOk X.prog X.w X.K X.mg X.base CX k f fd ps sp) (hr : Room k X.A) (hg : Gl X x) (hm : X.mg x = some (.ref f)) (hk : PySem.W.keepIn X.K (.ref f) = true) (hb : Binds X.K fd ps ds) (hd : Vals dvs ds) (hx : Passes CX X E)
    (hdb : (x == ("__debug__" : Str)) = false := by decide) : PE X (.Call (.Name x p) [] [] pos) (tCall sp dvs E tNil) := by
  intro pins s σ H Q I h
  refine wpAny_Call_Name_kw (ld_glob I hg hm ?_ hdb)
  exact PySem.W.callWith_K0 I.kIn hk (run_fn (us := []) F hr hb hd hx I .nil h)
structure Mk (K : PySem.W.Frag) (C f : Addr) : Prop where
  makes : PySem.W.makesIn K C = true
  init : PySem.W.findIn K (.ref C) "__init__" = some (some (.ref f))
  fn : PySem.W.isFn K (.ref f) = true
  kp : PySem.W.keepIn K (.ref C) = true
end
section
variable {X : Cx} {CX : CXT} {k : Nat} {f C : Addr} {fd : FuncData} {ps ks : List Str} {sp : Sp} {E : XK} {x m : Str} {p pos apos kpos : Pos} {e o : Expr} {es : List Expr} {kws : List Keyword} {te ta : TE} {t tk : TA} {nm : Option Str}
structure KBinds (K : PySem.W.Frag) (fd : FuncData) (ps ks : List Str) (g : List Value → List Value → List Value) (gV : List V → List V → List V) : Prop where
  to : ∀ (s : Shared) (us ws : List Value), K.In s.heap → (g us ws).length = ps.length → BindsTo s fd ⟨us, ks.zip ws⟩ (ps.zip (g us ws))
  rel : ∀ {vs : List V} {us : List Value} {zs : List V} {ws : List Value}, Vals vs us → Vals zs ws → Vals (gV vs zs) (g us ws)
variable {g : List Value → List Value → List Value} {gV : List V → List V → List V}
end
structure FnScope (N P : List Str) (sc : Scope) : Prop where
  kind : sc.kind = .function
  co : sc.isCoroutine = false
  gen : sc.isGenerator = false
  nd : N.Nodup
  pre : N.take P.length = P
  par : ∀ x ∈ P, sc.names.lookup x = some .local ∨ sc.names.lookup x = some .cell
  nofree : ∀ y ∈ sc.names, y.2 ≠ .free
theorem bindL_out {kindOf : Str → Option NameKind} {x : Str} : ∀ {binds : List (Str × Value)} {m : Str → Option Value}, (∀ v, (x, v) ∉ binds) → bindL kindOf binds m x = m x
  | [], _, _ => rfl
  | (n, v) :: r, m, h => by
    unfold bindL
    rw [bindL_out fun w hw => h w (List.mem_cons_of_mem _ hw)]
    split
    · have : x ≠ n := by rintro rfl; exact h v List.mem_cons_self
      simp [this]
    · rfl
theorem bindC_out {kindOf : Str → Option NameKind} {x : Str} : ∀ {binds : List (Str × Value)} {m : Str → Option Value}, (∀ v, (x, v) ∉ binds) → bindC kindOf binds m x = m x
  | [], _, _ => rfl
  | (n, v) :: r, m, h => by
    unfold bindC
    rw [bindC_out fun w hw => h w (List.mem_cons_of_mem _ hw)]
    split
    · rfl
    · have : x ≠ n := by rintro rfl; exact h v List.mem_cons_self
      simp [this]
theorem bindL_get {kindOf : Str → Option NameKind} {x : Str} {v : Value} : ∀ {P : List Str} {vs : List Value} {i : Nat} {m : Str → Option Value}, P.Nodup → P[i]? = some x → vs[i]? = some v → kindOf x = some .local →
    bindL kindOf (P.zip vs) m x = some v
  | [], _, _, _, _, h, _, _ => by simp at h
  | _ :: _, [], _, _, _, _, h, _ => by simp at h
  | p :: P, w :: vs, 0, m, nd, h1, h2, hk => by
    simp at h1 h2; subst h1; subst h2
    show bindL kindOf ((p, w) :: P.zip vs) m p = _
    unfold bindL
    rw [bindL_out fun v hv => (List.nodup_cons.mp nd).1 (List.of_mem_zip hv).1, if_pos hk]
    simp
  | p :: P, w :: vs, i + 1, m, nd, h1, h2, hk => by
    show bindL kindOf ((p, w) :: P.zip vs) m x = _
    unfold bindL
    exact bindL_get (i := i) (List.nodup_cons.mp nd).2 (by simpa using h1) (by simpa using h2) hk
theorem bindC_get {kindOf : Str → Option NameKind} {x : Str} {v : Value} : ∀ {P : List Str} {vs : List Value} {i : Nat} {m : Str → Option Value}, P.Nodup → P[i]? = some x → vs[i]? = some v → kindOf x ≠ some .local →
    bindC kindOf (P.zip vs) m x = some v
  | [], _, _, _, _, h, _, _ => by simp at h
  | _ :: _, [], _, _, _, _, h, _ => by simp at h
  | p :: P, w :: vs, 0, m, nd, h1, h2, hk => by
    simp at h1 h2; subst h1; subst h2
    show bindC kindOf ((p, w) :: P.zip vs) m p = _
    unfold bindC
    rw [bindC_out fun v hv => (List.nodup_cons.mp nd).1 (List.of_mem_zip hv).1, if_neg hk]
    simp
  | p :: P, w :: vs, i + 1, m, nd, h1, h2, hk => by
    show bindC kindOf ((p, w) :: P.zip vs) m x = _
    unfold bindC
    exact bindC_get (i := i) (List.nodup_cons.mp nd).2 (by simpa using h1) (by simpa using h2) hk
def start (N : List Str) (vs : List V) : St := vs.map some ++ List.replicate (N.length - vs.length) none
def cxOf (CX : CXT) (P : Program) (w : World) (K : PySem.W.Frag) (mg : Str → Option Value) (base : Heap) (N : List Str) (qual : Str) (scope : Scope) (f : Addr) (cd : Value) (A : Around) (outer : List Env) (s : Shared) (H : Hp) (E : XK) : Cx where
  prog := P
  w := w
  K := K
  mg := mg
  base := base
  A := A.deeper (envOfC qual scope s.heap.objs.size f cd)
  N := N
  s₀ := s
  H₀ := H
  env := envOfC qual scope s.heap.objs.size f cd
  outer := outer
  stack := envOfC qual scope s.heap.objs.size f cd :: outer
  ex := []
  calm := true
  fn := fun _ => true
  pn := []
  xe := fun e s' => wpAny (model P w) (A.deeper (envOfC qual scope s.heap.objs.size f cd)) (leaving (envOfC qual scope s.heap.objs.size f cd) e) (fun _ s'' => CX outer H s E e s'') (fun e' s'' => CX outer H s E e' s'') s'
theorem cell_has {sc : Scope} {n : Nat} {x : Str} (h : sc.names.lookup x = some .cell) : ∃ c, (cellsFrom n sc.names []).lookup x = some c := by
  have q := PySem.W.cellsFrom_some sc.names n [] (.inl h)
  exact Option.isSome_iff_exists.mp q
theorem inv_start {CX : CXT} {P : Program} {w : World} {K : PySem.W.Frag} {mg : Str → Option Value} {base : Heap} {N ps : List Str} {qual : Str} {scope : Scope} {f : Addr} {cd : Value} {A : Around} {outer : List Env} {s s1 : Shared} {H : Hp} {E : XK} {us : List Value} {vs : List V}
    (S : FnScope N ps scope) (hd : A.handled = none) (e0 : Env0 P w K mg base A outer s H) (hl : vs.length = ps.length) (r : Vals vs us)
    (x : InCallC s s.heap.objs.size (bindL (envOfC qual scope s.heap.objs.size f cd).kindOf (ps.zip us) fun _ => none) (cellsFrom (s.heap.objs.size + 1) scope.names []) (bindC (envOfC qual scope s.heap.objs.size f cd).kindOf (ps.zip us) fun _ => none) s1) :
    Inv (cxOf CX P w K mg base N qual scope f cd A outer s H E) [] (start N vs) H s1 := by
  have hpl : ps.length ≤ N.length := by have := congrArg List.length S.pre; rw [List.length_take] at this; omega
  obtain ⟨h1, tk, rfl, hk⟩ := x.done
  have noA : ∀ b : Addr, b ∉ (cxOf CX P w K mg base N qual scope f cd A outer s H E).ex := fun b z => absurd (show b ∈ ([] : List Addr) from z) (by simp)
  refine ⟨⟨e0.mod, S.kind, rfl, rfl, Nat.le_refl _, fun y z c h1 h2 => ?_, fun y hy => ?_, fun y c _ h => ?_, fun _ => hd, Around.frames_deeper e0.frames, .inr ⟨rfl, rfl⟩, fun b z => absurd z (noA b), e0.bs, e0.bsz, fun b _ _ => noA b, fun b z => absurd z (noA b), e0.funs, e0.frf⟩,
    rfl, e0.bare, Un.kept hk, ⟨_, x.toInCall.ns, fun i y v h1 h2 h3 => ?_⟩, fun y c h => ⟨_, x.cell y c h⟩, e0.hok.fresh (Nat.le_refl _), fun y c h => ?_, fun p hp => absurd (show p ∈ ([] : List (Addr × Obj)) from hp) (by simp), e0.hok.kept hk, ?_⟩
  · exact name_of_addr x.apart (PySem.mem_of_lookup h1) (PySem.mem_of_lookup h2)
  · have hy : scope.names.lookup y = some .cell ∨ scope.names.lookup y = some .free := hy
    rcases hy with hy | hy
    · exact cell_has hy
    · exact absurd rfl (S.nofree _ (PySem.mem_of_lookup hy))
  · exact Nat.le_of_lt (x.above y c (PySem.mem_of_lookup h))
  · have hi : i < vs.length := by
      unfold start at h2
      by_cases hi : i < vs.length
      · exact hi
      · rw [List.getElem?_append_right (by simpa using hi)] at h2
        rw [List.getElem?_replicate] at h2
        split at h2 <;> cases h2
    have ha : vs[i]? = some v := by
      unfold start at h2
      rw [List.getElem?_append_left (by simpa using hi), List.getElem?_map] at h2
      cases e : vs[i]? with
      | none => rw [e] at h2; cases h2
      | some a => rw [e] at h2; cases h2; rfl
    obtain ⟨u, hu, rv⟩ := r.get ha
    have hp : ps[i]? = some y := by
      rw [← S.pre, List.getElem?_take_of_lt (by omega)]; exact h1
    have ndP : ps.Nodup := by rw [← S.pre]; exact S.nd.sublist (List.take_sublist _ _)
    refine ⟨u, rv, ?_⟩
    rcases S.par y (List.mem_of_getElem? hp) with k | k
    · exact .inl ⟨k, bindL_get ndP hp hu k⟩
    · obtain ⟨c, e⟩ := cell_has (n := s.heap.objs.size + 1) k
      refine .inr ⟨.inl k, c, e, ?_⟩
      have q := x.cell y c e
      rw [bindC_get ndP hp hu (by show scope.names.lookup y ≠ _; rw [k]; decide)] at q
      exact q
  · exact e0.hok.fresh (Nat.le_of_lt (x.above y c (PySem.mem_of_lookup h)))
  · unfold start
    show _ = N.length
    rw [List.length_append, List.length_map, List.length_replicate]
    omega
theorem fn_of {CX : CXT} {P : Program} {w : World} {K : PySem.W.Frag} {mg : Str → Option Value} {base : Heap} {k : Nat} {f : Addr} {name qual : Str} {params : Arguments} {body : List Stmt} {scope : Scope} {dV kV doc pm cdv ct oc : Value} {an od : Option Addr}
    {osl : Array (Option Value)} {N ps : List Str} {sp : Sp} (lk : K.lookup f = some ⟨oc, od, .func (PySem.W.fnOf name qual params body scope dV kV doc pm an cdv ct), osl⟩) (hcd : PySem.W.codeIn K cdv qual = true) (S : FnScope N ps scope)
    (len : ∀ vs H Q E, sp vs H Q E → vs.length = ps.length)
    (hbody : ∀ (A : Around) (outer : List Env) (s : Shared) (H : Hp) (vs : List V) (Q : VK) (E : XK), Room k (A.deeper (envOfC qual scope s.heap.objs.size f cdv)) → sp vs H Q E →
      ∃ t, PSs (cxOf CX P w K mg base N qual scope f cdv A outer s H E) body t ∧ t { nx := fun _ H' => Q .non H', rt := Q } (start N vs) H) :
    FnOk P w K mg base CX (k + 1) f (PySem.W.fnOf name qual params body scope dV kV doc pm an cdv ct) ps sp := by
  refine ⟨len, fun A outer s H args us vs Q E hr e0 hb r hsp => ?_⟩
  have hl := len _ _ _ _ hsp
  have KX : K.In s.heap := e0.mod.kin.keeps fun b o e => (e0.bs b o e).1
  have lim : s.heap.NoLimit := e0.mod.nolimit.keeps fun b o e => (e0.bs b o e).1
  have hkind : ∀ y ∈ ps.zip us, scope.names.lookup y.1 = some .local ∨ (scope.names.lookup y.1 = some .cell ∧ ((cellsFrom (s.heap.objs.size + 1) scope.names []).lookup y.1).isSome = true) := fun ⟨n, v⟩ hy => by
    rcases S.par n (List.of_mem_zip hy).1 with q | q
    · exact .inl q
    · exact .inr ⟨q, PySem.W.cellsFrom_some _ _ _ (.inl q)⟩
  refine codeAny_call_function hr.depth (KX _ _ lk) rfl S.co S.gen rfl (PySem.W.codeRec_of KX hcd) (hb _ _ _ _ ?_)
  refine wpAny_newFunctionEnv_cells S.kind hkind fun env he s1 x => ?_
  subst he
  refine ⟨lim.keeps x.toInCall.keep, codeAny_func ?_⟩
  obtain ⟨t, ht, hq⟩ := hbody A outer s H vs Q E (hr.deeper _) hsp
  have I : Inv (cxOf CX P w K mg base N qual scope f cdv A outer s H E) [] (start N vs) H s1 := inv_start S hr.hd e0 hl r x
  refine wpAny_mono (ht [] s1 (start N vs) H _ I hq) (fun fl s' hs => ?_) fun e s' hs => hs
  have fin : ∀ {σ' : St} {H' : Hp} {v : V} {u : Value}, Inv (cxOf CX P w K mg base N qual scope f cdv A outer s H E) [] σ' H' s' → RelV v u → Q v H' → CE outer P w H s Q u s' :=
    fun {σ' H' v u} J rv q => ⟨v, H', J.os, J.bare, J.base, J.hok, rv, q⟩
  cases fl with
  | ret u =>
    obtain ⟨v, σ', H', J, rv, q⟩ := hs
    exact fin J rv q
  | next =>
    obtain ⟨σ', H', J, q⟩ := hs
    exact fin (v := V.non) (u := Value.none) J rfl q
  | brk =>
    obtain ⟨_, _, _, q⟩ := hs
    exact False.elim q
  | cont =>
    obtain ⟨_, _, _, q⟩ := hs
    exact False.elim q
end L2
namespace L2
open PySem PySem.Spec PyProof.Rows
section
variable {X : Cx} {x : Str} {p pos : Pos} {e : Expr} {es : List Expr} {t : TA} {id T : String} {r : List V → Hp → VK → Prop}
def tCB (r : List V → Hp → VK → Prop) (t : TA) : TE := fun σ H Q => t σ H fun vs H1 => r vs H1 Q
theorem pe_callB (hc : CallR X (.builtin id) r) (hg : Gl X x) (hm : X.mg x = none) (hv : bootBuiltins x = some (.builtin id)) (ha : PA X (e :: es) t) (hn : x ≠ "__name__" := by decide) (hdb : (x == ("__debug__" : Str)) = false := by decide)
    (he : starEach (e :: es) X.env = (false, eval e X.env) :: starEach es X.env := by rfl) (hpl : (backTo pos (starEach es X.env)).any (·.1) = false := by rfl) : PE X (.Call (.Name x p) (e :: es) [] pos) (tCB r t) := by
  intro pins s σ H Q I h
  refine wpAny_Call_Name_kw (ld_blt I hg hm hv ?_ hn hdb)
  exact PyProof.Rows.callWith_builtin1 (thn (ha pos pins s σ H _ I h) fun us s1 ⟨vs, H1, I1, r1, q1⟩ => hc pins s1 σ H1 vs us Q I1 r1 q1) he hpl
theorem pe_callTy (hc : CallR X (.type T) r) (hg : Gl X x) (hm : X.mg x = none) (hv : bootBuiltins x = some (.type T)) (ha : PA X (e :: es) t) (hn : x ≠ "__name__" := by decide) (hdb : (x == ("__debug__" : Str)) = false := by decide)
    (he : starEach (e :: es) X.env = (false, eval e X.env) :: starEach es X.env := by rfl) (hpl : (backTo pos (starEach es X.env)).any (·.1) = false := by rfl) : PE X (.Call (.Name x p) (e :: es) [] pos) (tCB r t) := by
  intro pins s σ H Q I h
  refine wpAny_Call_Name_kw (ld_blt I hg hm hv ?_ hn hdb)
  exact PyProof.Rows.callWith_type1 (thn (ha pos pins s σ H _ I h) fun us s1 ⟨vs, H1, I1, r1, q1⟩ => hc pins s1 σ H1 vs us Q I1 r1 q1) he hpl
end
end L2
namespace HT
open PySem PyProof.Rows
def lexLt : List Int → List Int → Bool
  | [], [] => false
  | [], _ :: _ => true
  | _ :: _, [] => false
  | x :: xs, y :: ys => if x = y then lexLt xs ys else decide (x < y)
section
open PySem.SeqAt
open PySem.AutoSeq1 (wpAny_loadPart')
open PySem.MeetsSeq PySem.MeetsSeq2 PySem.MeetsSeq3
end
section
variable {prog : Program} {w : World} {A : Around} {E : Value → Shared → Prop} {s : Shared}
theorem cat_tup {t b : Addr} {vs ws : List Value} {Q : Value → Shared → Prop} (ht : IsTup s.heap t vs.toArray) (hb : IsTup s.heap b ws.toArray) (hv : vs ≠ [])
    (h1 : ws = [] → Q (.ref t) s) (h2 : ws ≠ [] → Q (.ref s.heap.objs.size) { s with heap := s.heap.push { cls := .type "tuple", data := .seq (vs ++ ws).toArray } })
    (hsz : vs.length + ws.length ≤ sizeLine) : wpAny (model prog w) A (binaryOp .Add (.ref t) (.ref b)) Q E s := by
  obtain ⟨⟨cls, dd, data, sl⟩, ho, hc, n, hd⟩ := id ht
  obtain ⟨⟨cls2, dd2, data2, sl2⟩, ho2, hc2, n2, hd2⟩ := id hb
  simp only at hc hd hc2 hd2
  subst hc hd hc2 hd2
  have e : vs.toArray ++ ws.toArray = (vs ++ ws).toArray := by simp
  by_cases hw : ws = []
  · exact concat_meets ⟨_, ho, rfl⟩ ⟨_, ho2, rfl⟩ noFill_tuple_add seq_tuple_add PySem.F.slot_tuple_add PySem.F.entry_tuple_add (PySem.F.args_tuple_add_2 _ _)
      (tuple_addW1 t b vs.toArray ws.toArray n n2 dd dd2 sl sl2 (by simpa using hv) (by simp [hw])) ⟨ho, ho2, h1 hw⟩
  · refine concat_meets ⟨_, ho, rfl⟩ ⟨_, ho2, rfl⟩ noFill_tuple_add seq_tuple_add PySem.F.slot_tuple_add PySem.F.entry_tuple_add (PySem.F.args_tuple_add_2 _ _)
      (tuple_addW2 t b vs.toArray ws.toArray n n2 dd dd2 sl sl2 (by simpa using hv) (by simpa using hw) (by rw [List.size_toArray, List.size_toArray]; exact hsz)) ⟨ho, ho2, ?_⟩
    rw [e]
    exact h2 hw
def sIx (n d : Nat) : Option Int → Nat
  | none => d
  | some v => if v < 0 then (v + (n : Int)).toNat else min v.toNat n
theorem sIx_none (n d : Nat) : sIx n d none = d := rfl
theorem sIx_nat (n d k : Nat) : sIx n d (some (k : Int)) = min k n := by
  show (if (k : Int) < 0 then ((k : Int) + (n : Int)).toNat else min (k : Int).toNat n) = min k n
  rw [if_neg (by omega), Int.toNat_natCast]
theorem sIx_le (n d : Nat) (hd : d ≤ n) (o : Option Int) : sIx n d o ≤ n := by
  cases o with
  | none => exact hd
  | some v =>
    show (if v < 0 then (v + (n : Int)).toNat else min v.toNat n) ≤ n
    by_cases hv : v < 0
    · rw [if_pos hv]; omega
    · rw [if_neg hv]; exact Nat.min_le_right _ _
theorem clip_eq (v : Int) (n d : Nat) : (if v < 0 then max (v + (n : Int)) 0 else min v (n : Int)) = ((sIx n d (some v) : Nat) : Int) := by
  show (if v < 0 then max (v + (n : Int)) 0 else min v (n : Int)) = (((if v < 0 then (v + (n : Int)).toNat else min v.toNat n) : Nat) : Int)
  by_cases hv : v < 0
  · simp only [if_pos hv]; omega
  · simp only [if_neg hv]; omega
theorem adjust_gen (lo hi : Option Int) (n : Nat) : Builtin.Slice.sliceAdjust lo hi 1 (n : Int) = (((sIx n 0 lo : Nat) : Int), ((sIx n n hi : Nat) : Int)) := by
  have h1 : ¬ ((1 : Int) < 0) := by omega
  unfold Builtin.Slice.sliceAdjust
  simp only [h1, if_false]
  refine Prod.ext ?_ ?_
  · cases lo with
    | none => rfl
    | some v => exact clip_eq v n 0
  · cases hi with
    | none => rfl
    | some v => exact clip_eq v n n
theorem places_gen (i j : Nat) : Builtin.Slice.slicePlaces (i : Int) (j : Int) 1 = j - i := by
  unfold Builtin.Slice.slicePlaces
  have h1 : (1 : Int) > 0 := by omega
  simp only [h1, if_true, Int.ediv_one]
  split <;> omega
theorem slicePart_ {v : Value} {o : Option Int} {Q : Option Int → Shared → Prop} (p : IsPart v o) (h : Q o s) : wpAny (model prog w) A (Builtin.Slice.slicePartIndex v) Q E s := by
  cases p with
  | none => exact slicePart_none h
  | int i t => exact slicePart_int h
theorem sliceApplied_gen {sl : Addr} {vl vu : Value} {lo hi : Option Int} {n : Nat} {Q : Int × Int × Nat → Shared → Prop} (hs : s.heap.IsSliceOf sl vl vu .none) (pl : IsPart vl lo) (pu : IsPart vu hi)
    (h : Q (((sIx n 0 lo : Nat) : Int), 1, sIx n n hi - sIx n 0 lo) s) : wpAny (model prog w) A (Builtin.Slice.sliceApplied (.ref sl) (pure (n : Int))) Q E s := by
  obtain ⟨os, hos, hcs, hds⟩ := id hs
  unfold Builtin.Slice.sliceApplied Builtin.Slice.sliceFields
  refine wpAny_bind (wpAny_bind (wpAny_field hos hds (x := vl) rfl (wpAny_bind (wpAny_field hos hds (x := vu) rfl (wpAny_bind (wpAny_field hos hds (x := .none) rfl (wpAny_pure ?_)))))))
  refine wpAny_bind (slicePart_none ?_)
  show wpAny _ _ (if ((1 : Int) == 0) = true then _ else _) _ _ s
  rw [if_neg (by decide)]
  refine wpAny_bind (slicePart_ pl (wpAny_bind (slicePart_ pu (wpAny_bind (wpAny_pure ?_)))))
  show wpAny _ _ (match Builtin.Slice.sliceAdjust lo hi 1 (n : Int) with | (lo, hi) => pure (lo, (1 : Int), Builtin.Slice.slicePlaces lo hi 1)) _ _ s
  rw [adjust_gen lo hi n]
  show wpAny _ _ (pure (((sIx n 0 lo : Nat) : Int), (1 : Int), Builtin.Slice.slicePlaces ((sIx n 0 lo : Nat) : Int) ((sIx n n hi : Nat) : Int) 1)) _ _ s
  rw [places_gen]
  exact wpAny_pure h
theorem pick_gen (xs : Array Value) (i k : Nat) : ((List.range k).filterMap fun (m : Nat) => xs[((i : Int) + (m : Int) * 1).toNat]?).toArray = ((xs.toList.drop i).take k).toArray := by
  have e : (fun (m : Nat) => xs[((i : Int) + (m : Int) * 1).toNat]?) = fun m => xs[i + m]? := by
    funext m
    have : ((i : Int) + (m : Int) * 1).toNat = i + m := by omega
    rw [this]
  rw [e]
  have := pick_run xs i k
  rw [List.filterMap_map] at this
  have e2 : ((fun x => xs[x]?) ∘ fun x => i + x) = fun m => xs[i + m]? := rfl
  rw [e2] at this
  rw [this]
theorem getItem_tuple_cut {t sl : Addr} {items : Array Value} {vl vu : Value} {lo hi : Option Int} {Q : Value → Shared → Prop} (ht : IsTup s.heap t items) (hs : s.heap.IsSliceOf sl vl vu .none) (pl : IsPart vl lo) (pu : IsPart vu hi)
    (hw : ¬ (sIx items.size 0 lo = 0 ∧ sIx items.size items.size hi = items.size))
    (h : Q (.ref s.heap.objs.size) { s with heap := s.heap.push { cls := .type "tuple", data := .seq ((items.toList.drop (sIx items.size 0 lo)).take (sIx items.size items.size hi - sIx items.size 0 lo)).toArray } })
    (hsz : items.size ≤ sizeLine) : wpAny (model prog w) A (getItem (.ref t) (.ref sl)) Q E s := by
  have htake : sizeOk (.seq ((items.toList.drop (sIx items.size 0 lo)).take (sIx items.size items.size hi - sIx items.size 0 lo)).toArray) := by
    show ((items.toList.drop (sIx items.size 0 lo)).take (sIx items.size items.size hi - sIx items.size 0 lo)).toArray.size ≤ sizeLine
    rw [List.size_toArray, List.length_take, List.length_drop, Array.length_toList]
    omega
  have hj : sIx items.size items.size hi ≤ items.size := sIx_le _ _ (Nat.le_refl _) hi
  obtain ⟨os, hos, hcs, hds⟩ := id hs
  have hTs : s.TypeIs (.ref sl) "slice" := ⟨os, hos, hcs⟩
  unfold getItem
  try with_reducible refine wpAny_holding ?_
  first | refine wpAny_bind (wpAny_pure ?_) | skip
  refine wpAny_bind (wpAny_sequenceKey ht.typeIs (by decide) ?_)
  refine wpAny_bind (wpAny_callSpecial?_slot (name := Str.ofString "__getitem__") ht.typeIs PyProof.Rows.slot_tuple_getitem
    (wpAny_call_entry PyProof.Rows.slot_tuple_getitem ht.typeIs entry_tuple_getitem ?_ (args_tuple_getitem _ _)))
  show wpAny _ _ (Builtin.Tuple.tupleItemsOf (.ref t) >>= _) _ _ s
  refine wpAny_bind (tupleItemsOf_ ht ?_)
  refine wpAny_bind (wpAny_typeOf hTs ?_)
  rw [if_pos (by decide)]
  refine wpAny_bind (sliceApplied_gen hs pl pu ?_)
  have hno : ¬ ((((sIx items.size 0 lo : Nat) : Int) == 0 && (1 : Int) == 1 && (sIx items.size items.size hi - sIx items.size 0 lo) == items.size) = true) := by
    intro q
    rw [Bool.and_eq_true, Bool.and_eq_true] at q
    have q1 : ((sIx items.size 0 lo : Nat) : Int) = 0 := eq_of_beq q.1.1
    have q2 : sIx items.size items.size hi - sIx items.size 0 lo = items.size := eq_of_beq q.2
    exact hw ⟨by omega, by omega⟩
  show wpAny _ _ (if (((sIx items.size 0 lo : Nat) : Int) == 0 && (1 : Int) == 1 && (sIx items.size items.size hi - sIx items.size 0 lo) == items.size) = true then _ else _) _ _ s
  rw [if_neg hno, pick_gen]
  first
    | exact wpAny_bind (m := Builtin.Tuple.tupleExact _) (wpAny_newObj_type (wpAny_pure ⟨_, rfl, wpAny_pure h⟩) htake)
    | exact wpAny_bind (m := Builtin.Tuple.tupleExact _) (wpAny_newObj_type (wpAny_bind (wpAny_pure (wpAny_pure ⟨_, rfl, wpAny_pure h⟩))) htake)
    | exact wpAny_bind (wpAny_bind (m := Builtin.Tuple.tupleExact _) (wpAny_newObj_type (wpAny_pure (wpAny_pure ⟨_, rfl, wpAny_pure h⟩)) htake))
    | exact wpAny_bind (wpAny_bind (m := Builtin.Tuple.tupleExact _) (wpAny_newObj_type (wpAny_pure ⟨_, rfl, wpAny_pure h⟩) htake))
end
end HT
namespace L2
open PySem PySem.Spec PyProof.Rows
abbrev TO := St → Hp → (Option Int → Hp → Prop) → Prop
def PO (X : Cx) (e : Option Expr) (t : TO) : Prop :=
  ∀ (pins : List (Addr × Obj)) (s : Shared) (σ : St) (H : Hp) (Q : Option Int → Hp → Prop), Inv X pins σ H s → t σ H Q →
    wpAny (model X.prog X.w) X.A (evalPart e X.env) (fun u s' => ∃ o H', Inv X pins σ H' s' ∧ IsPart u o ∧ Q o H') X.xe s
def tNoPart : TO := fun _ H Q => Q none H
def tPart (t : TE) : TO := fun σ H Q => t σ H fun x H1 => ∃ i, x = .int i ∧ Q (some i) H1
section
variable {X : Cx} {e : Expr} {te : TE} {lo hi : Option Expr} {tl th : TO} {pos p2 : Pos}
theorem po_none : PO X none tNoPart := by
  intro pins s σ H Q I h
  rw [evalPart_none]
  exact wpAny_pure ⟨none, H, I, .none, h⟩
theorem po_some (h : PE X e te) : PO X (some e) (tPart te) := by
  intro pins s σ H Q I hw
  rw [evalPart_some]
  refine thn (h pins s σ H _ I hw) fun u s1 ⟨x, H1, I1, r1, q1⟩ => ?_
  obtain ⟨i, rfl, q⟩ := q1
  obtain ⟨t, rfl⟩ := r1
  exact ⟨some i, H1, I1, .int i t, q⟩
def SlR (X : Cx) (r : V → Option Int → Option Int → Hp → VK → Prop) : Prop :=
  ∀ (pins : List (Addr × Obj)) (s : Shared) (σ : St) (H : Hp) (x : V) (v vl vu : Value) (lo hi : Option Int) (sl : Addr) (Q : VK), Inv X pins σ H s → RelV x v → s.heap.IsSliceOf sl vl vu .none → IsPart vl lo → IsPart vu hi → r x lo hi H Q →
    ∃ T id, typeLookup (.type T) "__getitem__" = pure (some (.builtin id)) ∧ s.TypeIs v T ∧ wpAny (model X.prog X.w) X.A (getItem v (.ref sl)) (EP X pins σ Q) X.xe s
def tSl (r : V → Option Int → Option Int → Hp → VK → Prop) (te : TE) (tl th : TO) : TE := fun σ H Q => te σ H fun x H1 => tl σ H1 fun l H2 => th σ H2 fun u H3 => r x l u H3 Q
theorem pe_slice {r : V → Option Int → Option Int → Hp → VK → Prop} (hr : SlR X r) (he : PE X e te) (hl : PO X lo tl) (hu : PO X hi th) : PE X (.Subscript e (.Slice lo hi none p2) pos) (tSl r te tl th) := by
  intro pins s σ H Q I h
  refine Subscript_ (thn (he pins s σ H _ I h) fun v s1 ⟨x, H1, I1, r1, q1⟩ => ?_)
  refine wpAny_Slice (thn (hl pins s1 σ H1 _ I1 q1) fun vl s2 ⟨l, H2, I2, pl, q2⟩ => thn (hu pins s2 σ H2 _ I2 q2) fun vu s3 ⟨u, H3, I3, pu, q3⟩ => ?_)
  rw [evalPart_none]
  refine wpAny_pure ?_
  have I4 : Inv X pins σ H3 { s3 with heap := s3.heap.push { cls := .type "slice", data := .fields #[vl, vu, .none] } } := I3.kept (t' := s3.toks) fun b ob q => Heap.get?_push_of_some _ q
  obtain ⟨T, id, hT, ht, hg⟩ := hr pins { s3 with heap := s3.heap.push { cls := .type "slice", data := .fields #[vl, vu, .none] } } σ H3 x v vl vu l u s3.heap.objs.size Q I4 r1 (Heap.IsSliceOf.new ..) pl pu q3
  show wpAny (model X.prog X.w) X.A (subscriptTail e (.Slice lo hi none p2) v (.ref s3.heap.objs.size)) (EP X pins σ Q) X.xe { s3 with heap := s3.heap.push { cls := .type "slice", data := .fields #[vl, vu, .none] } }
  exact tail_any (ops := [.ref s3.heap.objs.size, v]) ht hT hg (by with_unfolding_all rfl)
def cutV (xs : List V) (lo hi : Option Int) : List V := (xs.drop (HT.sIx xs.length 0 lo)).take (HT.sIx xs.length xs.length hi - HT.sIx xs.length 0 lo)
theorem cutV_length (xs : List V) (lo hi : Option Int) : (cutV xs lo hi).length ≤ xs.length := by
  unfold cutV
  rw [List.length_take, List.length_drop]
  omega
def rSlT (K : PySem.W.Frag) : V → Option Int → Option Int → Hp → VK → Prop := fun x lo hi H Q => ∃ a xs, x = .ref a ∧ SqT K H a xs ∧
  ¬ (HT.sIx xs.length 0 lo = 0 ∧ HT.sIx xs.length xs.length hi = xs.length) ∧ ∀ p, H p = none → Q (.ref p) (upd H p (.tup (cutV xs lo hi)))
theorem sl_tup : SlR X (rSlT X.K) := by
  intro pins s σ H x v vl vu lo hi sl Q I rx hs pl pu h
  obtain ⟨a, xs, rfl, hx, hw, q⟩ := h
  cases rx
  obtain ⟨its, r, ht, hz⟩ := I.tuple hx
  have hlen : its.toArray.size = xs.length := by rw [List.size_toArray]; exact r.length.symm
  refine ⟨"tuple", _, PyProof.Rows.slot_tuple_getitem.lookup, ht.typeIs, ?_⟩
  refine HT.getItem_tuple_cut ht hs pl pu (by rw [hlen]; exact hw) ?_ (by rw [hlen]; exact hz)
  rw [hlen]
  refine ⟨.ref s.heap.objs.size, _, I.laid (t' := s.toks) (o := .tup (cutV xs lo hi)) (fun b ob q => Heap.get?_push_of_some _ q) (Nat.le_refl _) ?_, rfl, q _ (I.hok.fresh (Nat.le_refl _))⟩
  exact ⟨Nat.le_trans (cutV_length xs lo hi) hz, _, (r.drop (HT.sIx xs.length 0 lo)).take (HT.sIx xs.length xs.length hi - HT.sIx xs.length 0 lo), IsTup.new _ _⟩
def rLtT (K : PySem.W.Frag) : R2 := fun x y H Q => ∃ a b ns ms, x = .ref a ∧ y = .ref b ∧ SqT K H a (ns.map V.int) ∧ SqT K H b (ms.map V.int) ∧ Q (.bl (HT.lexLt ns ms)) H
def rCatT (K : PySem.W.Frag) : R2 := fun x y H Q => ∃ a b xs ys, x = .ref a ∧ y = .ref b ∧ SqT K H a xs ∧ SqT K H b ys ∧ xs ≠ [] ∧ xs.length + ys.length ≤ sizeLine ∧
  (ys = [] → Q (.ref a) H) ∧ (ys ≠ [] → ∀ p, H p = none → Q (.ref p) (upd H p (.tup (xs ++ ys))))
theorem Vals.nil_iff {xs : List V} {us : List Value} (r : Vals xs us) : us = [] ↔ xs = [] := by
  cases r with
  | nil => simp
  | cons _ _ => simp
theorem op_catT : OpR X (binaryOp .Add) (rCatT X.K) := by
  intro pins s σ H x y v u Q I rx ry h
  obtain ⟨a, b, xs, ys, rfl, rfl, ha, hb, hx, hz, q1, q2⟩ := h
  cases rx
  cases ry
  obtain ⟨its, r1, p1, _⟩ := I.tuple ha
  obtain ⟨its2, r2, p2, _⟩ := I.tuple hb
  refine HT.cat_tup p1 p2 (fun z => hx (r1.nil_iff.mp z)) (fun z => ⟨.ref a, H, I, rfl, q1 (r2.nil_iff.mp z)⟩) (fun z => ?_) (by rw [← r1.length, ← r2.length]; exact hz)
  refine ⟨.ref s.heap.objs.size, _, I.laid (t' := s.toks) (o := .tup (xs ++ ys)) (fun b ob q => Heap.get?_push_of_some _ q) (Nat.le_refl _) ?_, rfl, q2 (fun w => z (r2.nil_iff.mpr w)) _ (I.hok.fresh (Nat.le_refl _))⟩
  exact ⟨by rw [List.length_append]; exact hz, _, r1.append r2, IsTup.new _ _⟩
end
end L2
namespace L2
open PySem PySem.Spec PyProof.Rows
def ixN (n : Nat) (i : Int) : Option Nat := if 0 ≤ i then (if i < n then some i.toNat else none) else if -(n : Int) ≤ i then some (i + n).toNat else none
def atI {α : Type} (xs : List α) (i : Int) : Option α := (ixN xs.length i).bind fun j => xs[j]?
theorem ixN_seq {n : Nat} {i : Int} {j : Nat} (h : ixN n i = some j) : seqIndex? i n = some j ∧ j < n ∧ -(n : Int) ≤ i ∧ i < n := by
  unfold ixN at h
  by_cases h0 : 0 ≤ i
  · rw [if_pos h0] at h
    by_cases h1 : i < n
    · rw [if_pos h1] at h
      have e : i.toNat = j := Option.some.inj h
      exact ⟨by rw [seqIndex_of h0 h1, e], by omega, by omega, h1⟩
    · rw [if_neg h1] at h; cases h
  · rw [if_neg h0] at h
    by_cases h1 : -(n : Int) ≤ i
    · rw [if_pos h1] at h
      have e : (i + n).toNat = j := Option.some.inj h
      exact ⟨by rw [seqIndex_neg (by omega) h1, e], by omega, h1, by omega⟩
    · rw [if_neg h1] at h; cases h
theorem atI_get {α : Type} {xs : List α} {i : Int} {v : α} (h : atI xs i = some v) : ∃ j, seqIndex? i xs.length = some j ∧ xs[j]? = some v ∧ j < xs.length ∧ -(xs.length : Int) ≤ i ∧ i < xs.length := by
  unfold atI at h
  cases e : ixN xs.length i with
  | none => rw [e] at h; cases h
  | some j =>
    rw [e] at h
    obtain ⟨h1, h2, h3, h4⟩ := ixN_seq e
    exact ⟨j, h1, h, h2, h3, h4⟩
theorem atI_nat {α : Type} {xs : List α} {j : Nat} {v : α} (h : xs[j]? = some v) : atI xs (j : Int) = some v := by
  have hj : j < xs.length := (List.getElem?_eq_some_iff.mp h).1
  have e : ixN xs.length (j : Int) = some j := by
    unfold ixN
    rw [if_pos (by omega), if_pos (by omega)]; simp
  unfold atI; rw [e]; exact h
theorem atI_last {α : Type} (xs : List α) (v : α) : atI (xs ++ [v]) (-1) = some v := by
  have hl : (xs ++ [v]).length = xs.length + 1 := by simp
  have e : ixN (xs ++ [v]).length (-1) = some xs.length := by
    unfold ixN
    rw [hl, if_neg (by decide), if_pos (by omega)]
    congr 1
    omega
  unfold atI
  rw [e]
  show (xs ++ [v])[xs.length]? = some v
  simp
def PlainIx (b : Expr) : Prop := ∀ o i, subscripted b false o i = operate [o, i] (getItem o i)
def IxR (X : Cx) (r : R2) : Prop :=
  ∀ (value slice : Expr) (pins : List (Addr × Obj)) (s : Shared) (σ : St) (H : Hp) (x y : V) (v u : Value) (Q : VK), Inv X pins σ H s → RelV x v → RelV y u → r x y H Q →
    subscripted slice false v u = operate [v, u] (getItem v u) → wpAny (model X.prog X.w) X.A (subscriptTail value slice v u) (EP X pins σ Q) X.xe s
def MtR (X : Cx) (id : String) (r : V → List V → Hp → VK → Prop) : Prop :=
  ∀ (pins : List (Addr × Obj)) (s : Shared) (σ : St) (H : Hp) (x : V) (xs : List V) (v : Value) (us : List Value) (Q : VK), Inv X pins σ H s → RelV x v → Vals xs us → r x xs H Q →
    wpAny (model X.prog X.w) X.A (call (.builtin id) (v :: us)) (EP X pins σ Q) X.xe s
section
variable {X : Cx} {a b : Expr} {ta tb : TE} {pos : Pos}
theorem MtR.or {id : String} {r r' : V → List V → Hp → VK → Prop} (h : MtR X id r) (h' : MtR X id r') : MtR X id (fun x xs H Q => r x xs H Q ∨ r' x xs H Q) := by
  intro pins s σ H x xs v us Q I rx rs q
  rcases q with q | q
  · exact h pins s σ H x xs v us Q I rx rs q
  · exact h' pins s σ H x xs v us Q I rx rs q
theorem pe_ix {r : R2} (hr : IxR X r) (ha : PE X a ta) (hb : PE X b tb) (hs : PlainIx b) : PE X (.Subscript a b pos) (tOp r ta tb) := by
  intro pins s σ H Q I h
  exact Subscript_ (binT ha hb I h fun v u s2 x y H2 I2 rx ry q => hr a b pins s2 σ H2 x y v u Q I2 rx ry q (hs _ _))
def rIxL (K : PySem.W.Frag) : R2 := fun x y H Q => ∃ p xs i v, x = .ref p ∧ y = .int i ∧ SqL K H p xs ∧ atI xs i = some v ∧ Q v H
def rIxT (K : PySem.W.Frag) : R2 := fun x y H Q => ∃ p xs i v, x = .ref p ∧ y = .int i ∧ SqT K H p xs ∧ atI xs i = some v ∧ Q v H
def rIxS : R2 := fun x y H Q => ∃ z i c, x = .str z ∧ y = .int i ∧ z.length ≤ sizeLine ∧ atI z.cps.toList i = some c ∧ Q (.str ⟨#[c]⟩) H
theorem ix_list : IxR X (rIxL X.K) := by
  intro value slice pins s σ H x y v u Q I rx ry h hs
  obtain ⟨p, xs, i, z, rfl, rfl, hq, he, q⟩ := h
  cases rx
  obtain ⟨t, rfl⟩ := ry
  obtain ⟨its, r, pl, hz⟩ := I.list hq
  obtain ⟨j, h1, h2, h3, h4, h5⟩ := atI_get he
  obtain ⟨w, ew, rw'⟩ := r.get h2
  have hl := r.length
  have hn := line63
  have fin : EP X pins σ Q w s := ⟨z, H, I, rw', q⟩
  by_cases h0 : 0 ≤ i
  · have hj : i.toNat = j := by
      rw [seqIndex_of h0 h5] at h1
      exact Option.some.inj h1
    exact item_listR pl.isList h0 (by omega) (by rw [hj]; simpa using ew) fin hs
  · have hj : (i + (its.toArray.size : Int)).toNat = j := by
      rw [seqIndex_neg (by omega) h4] at h1
      rw [List.size_toArray, ← hl]
      exact Option.some.inj h1
    exact subscriptTail_builtinR (x := w) pl.isList.typeIs slot_list_getitem.lookup
      (wpAny_getItem_list_neg (Q := fun r s' => r = w ∧ EP X pins σ Q r s') pl.isList (by omega) (by rw [List.size_toArray] <;> omega) (by omega) (by rw [hj]; simpa using ew) ⟨rfl, fin⟩) hs
theorem ix_tup : IxR X (rIxT X.K) := by
  intro value slice pins s σ H x y v u Q I rx ry h hs
  obtain ⟨p, xs, i, z, rfl, rfl, hq, he, q⟩ := h
  cases rx
  obtain ⟨t, rfl⟩ := ry
  obtain ⟨its, r, pl, hz⟩ := I.tuple hq
  obtain ⟨j, h1, h2, h3, h4, h5⟩ := atI_get he
  obtain ⟨w, ew, rw'⟩ := r.get h2
  have hl := r.length
  have hn := line63
  have fin : EP X pins σ Q w s := ⟨z, H, I, rw', q⟩
  exact subscriptTail_builtinR (x := w) pl.typeIs slot_tuple_getitem.lookup
    (getItem_tuple (j := j) (Q := fun r s' => r = w ∧ EP X pins σ Q r s') pl (by omega) (by omega) (by rw [List.size_toArray, ← hl]; exact h1) (by simpa using ew) ⟨rfl, fin⟩) hs
theorem ix_str : IxR X rIxS := by
  intro value slice pins s σ H x y v u Q I rx ry h hs
  obtain ⟨z, i, c, rfl, rfl, hz, he, q⟩ := h
  obtain ⟨t, rfl⟩ := rx
  obtain ⟨t', rfl⟩ := ry
  obtain ⟨j, h1, h2, h3, h4, h5⟩ := atI_get he
  have hl : z.cps.toList.length = z.length := by simp [Str.length]
  rw [hl] at h1 h4 h5
  have hn := line63
  exact tail_any (typeIs_str s z t) slot_str_getitem.lookup (getItem_str (c := c) (by
    have e1 : decide (i < -(2 ^ 63 : Int)) = false := decide_eq_false (by omega)
    have e2 : decide (i ≥ 2 ^ 63) = false := decide_eq_false (by omega)
    rw [e1, e2, Bool.or_false]) (by rw [h1]; simpa using h2) ⟨.str ⟨#[c]⟩, H, I.tok _, ⟨_, rfl⟩, q⟩) hs
theorem mapSeq_set (its : List Value) (n j : Nat) (u : Value) : Obj.mapSeq (·.setIfInBounds j u) { cls := .type "list", data := .seq its.toArray n } = { cls := .type "list", data := .seq (its.set j u).toArray n } := by
  simp [Obj.mapSeq]
theorem Inv.lst {pins : List (Addr × Obj)} {σ : St} {H : Hp} {s : Shared} {p : Addr} {xs : List V} (I : Inv X pins σ H s) (h : H p = some (.lst xs)) :
    ∃ (its : List Value) (n : Nat), Vals xs its ∧ s.heap.get? p = some { cls := .type "list", data := .seq its.toArray n } ∧ xs.length ≤ sizeLine := by
  obtain ⟨z, its, n, r, e⟩ := I.hok p _ h
  exact ⟨its, n, r, e, z⟩
theorem Inv.lstUpd {pins : List (Addr × Obj)} {σ : St} {H : Hp} {s : Shared} {p : Addr} {xs ys : List V} {its its' : List Value} {n n' : Nat} {f : Obj → Obj} (I : Inv X pins σ H s) (h : H p = some (.lst xs))
    (ho : s.heap.get? p = some { cls := .type "list", data := .seq its.toArray n }) (hf : f { cls := .type "list", data := .seq its.toArray n } = { cls := .type "list", data := .seq its'.toArray n' }) (r : Vals ys its') (hz : ys.length ≤ sizeLine) (t : Nat) :
    Inv X pins σ (upd H p (.lst ys)) { s with heap := s.heap.update p f, toks := t } := by
  have e : (s.heap.update p f).get? p = some { cls := .type "list", data := .seq its'.toArray n' } := by
    rw [Heap.get?_update_self f ho (by rw [hf] <;> rfl), hf]
  refine I.write (x := p) (e := p) (by rw [h]; trivial) (.inl rfl) (fun b u hb q => (Heap.get?_update_other _ _ (Ne.symm hb)).trans q) ⟨_, e⟩ ?_
  exact ⟨hz, its', n', r, e⟩
def rSetL : V → V → V → Hp → (Hp → Prop) → Prop := fun o i v H Q => ∃ p xs k j, o = .ref p ∧ i = .int k ∧ H p = some (.lst xs) ∧ ixN xs.length k = some j ∧ Q (upd H p (.lst (xs.set j v)))
theorem set_list : PSet X rSetL := by
  intro pins s σ H o i v ov iv u Q I ro ri rv h
  obtain ⟨p, xs, k, j, rfl, rfl, hp, hj, q⟩ := h
  cases ro
  obtain ⟨t, rfl⟩ := ri
  obtain ⟨its, n, r, ho, hz⟩ := I.lst hp
  obtain ⟨h1, h2, h3, h4⟩ := ixN_seq hj
  have hl := r.length
  have hn := line63
  have I' : Inv X pins σ (upd H p (.lst (xs.set j v))) { s with heap := s.heap.update p (Obj.mapSeq (·.setIfInBounds j u)) } :=
    I.lstUpd hp ho (mapSeq_set its n j u) (r.set rv j) (by rw [List.length_set]; exact hz) s.toks
  by_cases h0 : 0 ≤ k
  · have hk : k.toNat = j := by
      rw [seqIndex_of h0 h4] at h1
      exact Option.some.inj h1
    exact PySem.W.ki_setAt ho h0 (by omega) (by rw [List.size_toArray, ← hl]; exact h4) (by rw [hk]; exact ⟨_, I', q⟩)
  · have hk : (k + (its.toArray.size : Int)).toNat = j := by
      rw [seqIndex_neg (by omega) h3] at h1
      rw [List.size_toArray, ← hl]
      exact Option.some.inj h1
    exact PySem.W.ki_setBack ho (by omega) (by rw [List.size_toArray, ← hl]; exact h3) (by omega) (by rw [hk]; exact ⟨_, I', q⟩)
theorem slice_bounds (lo hi : Option Int) (n : Nat) : (sliceBounds lo hi none n).1 = ((HT.sIx n 0 lo : Nat) : Int) ∧ (sliceBounds lo hi none n).2.1 = ((HT.sIx n n hi : Nat) : Int) ∧ (sliceBounds lo hi none n).2.2 = 1 := by
  refine ⟨?_, ?_, rfl⟩
  · cases lo with
    | none => simp [sliceBounds, HT.sIx]
    | some i =>
      simp only [sliceBounds, HT.sIx, Option.getD_none, show (1 : Int) > 0 by decide, if_true]
      by_cases h : i < 0
      · simp only [h, if_true] <;> omega
      · simp only [h, if_false] <;> omega
  · cases hi with
    | none => simp [sliceBounds, HT.sIx]
    | some i =>
      simp only [sliceBounds, HT.sIx, Option.getD_none, show (1 : Int) > 0 by decide, if_true]
      by_cases h : i < 0
      · simp only [h, if_true] <;> omega
      · simp only [h, if_false] <;> omega
theorem slicePick_cut (its : List Value) (lo hi : Option Int) : slicePick its.toArray lo hi none = ((its.drop (HT.sIx its.length 0 lo)).take (HT.sIx its.length its.length hi - HT.sIx its.length 0 lo)).toArray := by
  obtain ⟨h1, h2, h3⟩ := slice_bounds lo hi its.toArray.size
  unfold slicePick
  rw [h1, h2, h3]
  simp only [sliceRange_one, pick_run, List.size_toArray] <;> rfl
def rSlL (K : PySem.W.Frag) : V → Option Int → Option Int → Hp → VK → Prop := fun x lo hi H Q => ∃ a xs, x = .ref a ∧ SqL K H a xs ∧ ∀ p, H p = none → Q (.ref p) (upd H p (.lst (cutV xs lo hi)))
theorem sl_list : SlR X (rSlL X.K) := by
  intro pins s σ H x v vl vu lo hi sl Q I rx hs pl pu h
  obtain ⟨a, xs, rfl, hx, q⟩ := h
  cases rx
  obtain ⟨its, r, ht, hz⟩ := I.list hx
  have hlen := r.length
  refine ⟨"list", _, slot_list_getitem.lookup, ht.isList.typeIs, ?_⟩
  refine wpAny_getItem_list_slice ht.isList hs pl pu .none (by simp) ?_ (by rw [List.size_toArray] <;> omega)
  rw [slicePick_cut, ← hlen]
  refine ⟨.ref s.heap.objs.size, _, I.laid (t' := s.toks) (o := .lst (cutV xs lo hi)) (fun b ob q => Heap.get?_push_of_some _ q) (Nat.le_refl _) ?_, rfl, q _ (I.hok.fresh (Nat.le_refl _))⟩
  exact ⟨Nat.le_trans (cutV_length xs lo hi) hz, _, 0, (r.drop (HT.sIx xs.length 0 lo)).take (HT.sIx xs.length xs.length hi - HT.sIx xs.length 0 lo), Heap.get?_push_size _ rfl⟩
def flatV : V → Bool
  | .non => true
  | .bl _ => true
  | .int _ => true
  | .str _ => true
  | _ => false
def eqV : V → V → Bool
  | .non, .non => true
  | .bl a, .bl b => a == b
  | .bl a, .int b => (if a then 1 else 0) == b
  | .int a, .bl b => a == (if b then 1 else 0)
  | .int a, .int b => a == b
  | .str a, .str b => a == b
  | _, _ => false
theorem eqAt_V {A : Around} {s : Shared} {y x : V} {u v : Value} (ry : RelV y u) (rx : RelV x v) (fy : flatV y = true) (fx : flatV x = true) : SeqAt.EqAt A s u v (eqV y x) := by
  cases y with
  | non =>
    cases ry
    cases x with
    | non => cases rx; exact SeqAt.EqAt.same _
    | bl b => cases rx; exact SeqAt.EqAt.none_bool b
    | int b => obtain ⟨t, rfl⟩ := rx; exact SeqAt.EqAt.none_int b t
    | str b => obtain ⟨t, rfl⟩ := rx; exact SeqAt.EqAt.none_str b t
    | _ => exact absurd (show false = true from fx) Bool.false_ne_true
  | bl a =>
    cases ry
    cases x with
    | non => cases rx; exact SeqAt.EqAt.bool_none a
    | bl b => cases rx; exact SeqAt.EqAt.bool_bool a b
    | int b => obtain ⟨t, rfl⟩ := rx; exact SeqAt.EqAt.bool_int a b t
    | str b => obtain ⟨t, rfl⟩ := rx; exact SeqAt.EqAt.bool_str a b t
    | _ => exact absurd (show false = true from fx) Bool.false_ne_true
  | int a =>
    obtain ⟨t', rfl⟩ := ry
    cases x with
    | non => cases rx; exact SeqAt.EqAt.int_none a t'
    | bl b => cases rx; exact SeqAt.EqAt.int_bool a t' b
    | int b => obtain ⟨t, rfl⟩ := rx; exact SeqAt.EqAt.int_int a t' b t
    | str b => obtain ⟨t, rfl⟩ := rx; exact SeqAt.EqAt.int_str a t' b t
    | _ => exact absurd (show false = true from fx) Bool.false_ne_true
  | str a =>
    obtain ⟨t', rfl⟩ := ry
    cases x with
    | non => cases rx; exact SeqAt.EqAt.str_none a t'
    | bl b => cases rx; exact SeqAt.EqAt.str_bool a t' b
    | int b => obtain ⟨t, rfl⟩ := rx; exact SeqAt.EqAt.str_int a t' b t
    | str b => obtain ⟨t, rfl⟩ := rx; exact SeqAt.EqAt.str_str a t' b t
    | _ => exact absurd (show false = true from fx) Bool.false_ne_true
  | _ => exact absurd (show false = true from fy) Bool.false_ne_true
def eqU (x : V) (u : Value) : Bool := match u with
  | .none => eqV .non x
  | .bool b => eqV (.bl b) x
  | .int i _ => eqV (.int i) x
  | .str z _ => eqV (.str z) x
  | _ => false
theorem eqU_of {x y : V} {u : Value} (r : RelV y u) (f : flatV y = true) : eqU x u = eqV y x := by
  cases y with
  | non => cases r; rfl
  | bl b => cases r; rfl
  | int i => obtain ⟨t, rfl⟩ := r; rfl
  | str z => obtain ⟨t, rfl⟩ := r; rfl
  | _ => exact absurd (show false = true from f) Bool.false_ne_true
theorem any_eqU {x : V} : ∀ {xs : List V} {us : List Value}, Vals xs us → xs.all flatV = true → us.any (eqU x) = xs.any fun y => eqV y x
  | _, _, .nil, _ => rfl
  | y :: xs, u :: us, .cons r t, f => by
    rw [List.all_cons, Bool.and_eq_true] at f
    rw [List.any_cons, List.any_cons, eqU_of r f.1, any_eqU t f.2]
theorem mem_eqAt {A : Around} {s : Shared} {x : V} {v : Value} (rx : RelV x v) (fx : flatV x = true) : ∀ {xs : List V} {us : List Value}, Vals xs us → xs.all flatV = true → ∀ u ∈ us, SeqAt.EqAt A s u v (eqU x u)
  | _, _, .nil, _ => fun u hu => by cases hu
  | y :: xs, u :: us, .cons r t, f => fun u' hu => by
    rw [List.all_cons, Bool.and_eq_true] at f
    rcases List.mem_cons.mp hu with rfl | hu
    · rw [eqU_of r f.1]; exact eqAt_V r rx f.1 fx
    · exact mem_eqAt rx fx t f.2 u' hu
def inV (x : V) (xs : List V) : Bool := xs.any fun y => eqV y x
def rIn (K : PySem.W.Frag) (neg : Bool) : R2 := fun x y H Q => ∃ p xs, y = .ref p ∧ (SqL K H p xs ∨ SqT K H p xs) ∧ flatV x = true ∧ xs.all flatV = true ∧ Q (.bl (if neg then !inV x xs else inV x xs)) H
theorem op_in_seq : OpR X (compareOp .In) (rIn X.K false) := by
  intro pins s σ H x y v u Q I rx ry h
  obtain ⟨p, xs, rfl, hq, fx, fs, q⟩ := h
  cases ry
  rcases hq with hq | hq
  · obtain ⟨its, r, pl, hz⟩ := I.list hq
    refine SeqAt.in_listAt (eqU x) pl.isList (fun w hw => mem_eqAt rx fx r fs w (by simpa using hw)) ⟨.bl _, H, I, rfl, ?_⟩
    rw [show its.toArray.any (eqU x) = its.any (eqU x) by simp, any_eqU r fs]
    exact q
  · obtain ⟨its, r, pl, hz⟩ := I.tuple hq
    refine SeqAt.in_tupleAt (eqU x) pl (fun w hw => mem_eqAt rx fx r fs w (by simpa using hw)) ⟨.bl _, H, I, rfl, ?_⟩
    rw [show its.toArray.any (eqU x) = its.any (eqU x) by simp, any_eqU r fs]
    exact q
theorem op_notIn_seq : OpR X (compareOp .NotIn) (rIn X.K true) := by
  intro pins s σ H x y v u Q I rx ry h
  obtain ⟨p, xs, rfl, hq, fx, fs, q⟩ := h
  cases ry
  rcases hq with hq | hq
  · obtain ⟨its, r, pl, hz⟩ := I.list hq
    refine SeqAt.notIn_listAt (eqU x) pl.isList (fun w hw => mem_eqAt rx fx r fs w (by simpa using hw)) ⟨.bl _, H, I, rfl, ?_⟩
    rw [show its.toArray.any (eqU x) = its.any (eqU x) by simp, any_eqU r fs]
    exact q
  · obtain ⟨its, r, pl, hz⟩ := I.tuple hq
    refine SeqAt.notIn_tupleAt (eqU x) pl (fun w hw => mem_eqAt rx fx r fs w (by simpa using hw)) ⟨.bl _, H, I, rfl, ?_⟩
    rw [show its.toArray.any (eqU x) = its.any (eqU x) by simp, any_eqU r fs]
    exact q
theorem call_len_seq : CallR X (.builtin "len") (fun xs H Q => ∃ p ys, xs = [.ref p] ∧ (SqL X.K H p ys ∨ SqT X.K H p ys) ∧ Q (.int ys.length) H) := by
  intro pins s σ H xs us Q I r h
  obtain ⟨p, ys, rfl, hq, q⟩ := h
  obtain ⟨u, rfl, rx⟩ := vals1 r
  cases rx
  have hn := line63
  rcases hq with hq | hq
  · obtain ⟨its, r', pl, hz⟩ := I.list hq
    have hlen := r'.length
    exact Calls.call_len_list pl.isList (by simp only [List.size_toArray] <;> omega) ⟨.int ys.length, H, I.tok _, ⟨s.toks + 1, by rw [List.size_toArray, hlen]⟩, q⟩
  · obtain ⟨its, r', pl, hz⟩ := I.tuple hq
    have hlen := r'.length
    exact len_tuple pl (by simp only [List.size_toArray] <;> omega) ⟨.int ys.length, H, I.tok _, ⟨s.toks + 1, by rw [List.size_toArray, hlen]⟩, q⟩
theorem call_len_str : CallR X (.builtin "len") (fun xs H Q => ∃ z, xs = [.str z] ∧ z.length ≤ sizeLine ∧ Q (.int z.length) H) := by
  intro pins s σ H xs us Q I r h
  obtain ⟨z, rfl, hz, q⟩ := h
  obtain ⟨u, rfl, t, rfl⟩ := vals1 r
  have hn := line63
  exact len_str (by omega) ⟨.int z.length, H, I.tok _, ⟨_, rfl⟩, q⟩
theorem call_list_of : CallR X (.type "list") (fun xs H Q => ∃ p ys, xs = [.ref p] ∧ (SqL X.K H p ys ∨ SqT X.K H p ys) ∧ ∀ l, H l = none → Q (.ref l) (upd H l (.lst ys))) := by
  intro pins s σ H xs us Q I r h
  obtain ⟨p, ys, rfl, hq, q⟩ := h
  obtain ⟨u, rfl, rx⟩ := vals1 r
  cases rx
  have fin : ∀ (its : List Value), Vals ys its → ys.length ≤ sizeLine → ∀ (h' : Heap) (c' : Nat), (∀ b o', s.heap.get? b = some o' → h'.get? b = some o') →
      h'.get? s.heap.objs.size = some { cls := .type "list", dict := none, data := .seq its.toArray c', slots := #[] } → EP X pins σ Q (.ref s.heap.objs.size) { s with heap := h' } := fun its r' hz h' c' kp e =>
    ⟨.ref s.heap.objs.size, _, I.laid (t' := s.toks) kp (Nat.le_refl _) (show ObjOk X.prog X.w _ h' _ (.lst ys) from ⟨hz, its, c', r', e⟩), rfl, q _ (I.hok.fresh (Nat.le_refl _))⟩
  rcases hq with hq | hq
  · obtain ⟨its, r', pl, hz⟩ := I.list hq
    have hlen := r'.length
    obtain ⟨o, ho, hc, n, hd⟩ := pl.isList
    exact call_list_seq p (.inl rfl) ho hc hd (fun h' c' kp e => fin its r' hz h' c' kp e) (by simp only [List.size_toArray] <;> omega)
  · obtain ⟨its, r', pl, hz⟩ := I.tuple hq
    have hlen := r'.length
    obtain ⟨o, ho, hc, n, hd⟩ := pl
    exact call_list_seq p (.inr rfl) ho hc hd (fun h' c' kp e => fin its r' hz h' c' kp e) (by simp only [List.size_toArray] <;> omega)
def tyV (K : PySem.W.Frag) (T : String) (x : V) (H : Hp) : Prop := match x with
  | .str _ => T = "str"
  | .int _ => T = "int"
  | .ref p => (T = "list" ∧ ∃ xs, SqL K H p xs) ∨ (T = "tuple" ∧ ∃ o, K.lookup p = some o ∧ o.cls = .type "tuple" ∧ o.dict = none) ∨
      (T = "dict" ∧ ((∃ kvs, H p = some (.dK kvs)) ∨ ∃ kvs, H p = some (.dT kvs))) ∨ (T = "set" ∧ ∃ S n, H p = some (.set S n))
  | _ => False
theorem tyV_is {pins : List (Addr × Obj)} {σ : St} {H : Hp} {s : Shared} {T : String} {x : V} {v : Value} (I : Inv X pins σ H s) (r : RelV x v) (ty : tyV X.K T x H) :
    s.TypeIs v T ∧ ∀ a, v = .ref a → ∃ ob, s.heap.get? a = some ob ∧ ob.dict = none := by
  cases x with
  | str z =>
    obtain ⟨t, rfl⟩ := r
    cases (show T = "str" from ty)
    exact ⟨typeIs_str s z t, fun _ e => nomatch e⟩
  | int i =>
    obtain ⟨t, rfl⟩ := r
    cases (show T = "int" from ty)
    exact ⟨typeIs_int s i t, fun _ e => nomatch e⟩
  | ref p =>
    cases r
    rcases ty with ⟨rfl, xs, hq⟩ | ⟨rfl, o, hk, hc, hd⟩ | ⟨rfl, hk⟩ | ⟨rfl, S, n, hk⟩
    · obtain ⟨its, _, pl, _⟩ := I.list hq
      refine ⟨pl.isList.typeIs, fun a e => ?_⟩
      cases e
      obtain ⟨o, n, e, c, hd, _⟩ := pl
      exact ⟨o, e, hd⟩
    · refine ⟨⟨o, I.kIn p o hk, hc⟩, fun a e => ?_⟩
      cases e
      exact ⟨o, I.kIn _ o hk, hd⟩
    · have z : ∃ o, s.heap.get? p = some o ∧ o.ExactDict := by
        rcases hk with ⟨kvs, hk⟩ | ⟨kvs, hk⟩
        · obtain ⟨_, _, _, _, o, _, _, e, ex, _⟩ := I.hok p _ hk
          exact ⟨o, e, ex⟩
        · obtain ⟨_, _, _, _, o, _, _, e, ex, _⟩ := I.hok p _ hk
          exact ⟨o, e, ex⟩
      obtain ⟨o, e, ex⟩ := z
      refine ⟨⟨o, e, ex.1⟩, fun a e2 => ?_⟩
      cases e2
      exact ⟨o, e, ex.2.1⟩
    · obtain ⟨o, _, _, _, e, ex, _⟩ := I.hok p _ hk
      refine ⟨⟨o, e, ex.1⟩, fun a e2 => ?_⟩
      cases e2
      exact ⟨o, e, ex.2.1⟩
  | _ => exact False.elim ty
def tBM0 (K : PySem.W.Frag) (T : String) (r : V → List V → Hp → VK → Prop) (to : TE) : TE := fun σ H Q => to σ H fun x H1 => tyV K T x H1 ∧ r x [] H1 Q
def tBM (K : PySem.W.Frag) (T : String) (r : V → List V → Hp → VK → Prop) (to : TE) (t : TA) : TE := fun σ H Q => to σ H fun x H1 => tyV K T x H1 ∧ t σ H1 fun xs H2 => r x xs H2 Q
variable {o e : Expr} {es : List Expr} {to : TE} {t : TA} {name : Str} {apos cpos : Pos} {T id : String} {r : V → List V → Hp → VK → Prop}
theorem pe_bm0 (pa : PlainAttrs T) (slot : Slot T name id) (hty : typeOf (.builtin id) = pure (.type "method_descriptor")) (hm : MtR X id r) (ho : PE X o to)
    (hbase : attributeBase o name X.env (eval o X.env) = eval o X.env := by rfl) (hline : (apos.endLine == cpos.line) = true := by rfl) : PE X (.Call (.Attribute o name apos) [] [] cpos) (tBM0 X.K T r to) := by
  intro pins s σ H Q I h
  refine wpAny_Call_method0_late hbase hline (thn (ho pins s σ H _ I h) fun v s1 ⟨x, H1, I1, r1, ty, q1⟩ => ?_)
  obtain ⟨h1, h2⟩ := tyV_is I1 r1 ty
  exact ⟨T, id, pa, slot, hty, h1, h2, Calls.callWith_builtin rfl (PySem.evalArgs_none (hm pins s1 σ H1 x [] v [] Q I1 r1 .nil q1))⟩
theorem pe_bm (pa : PlainAttrs T) (slot : Slot T name id) (hty : typeOf (.builtin id) = pure (.type "method_descriptor")) (hm : MtR X id r) (ho : PE X o to) (ha : PA X (e :: es) t)
    (hbase : attributeBase o name X.env (eval o X.env) = eval o X.env := by rfl)
    (hfew : ((backTo cpos (starEach (e :: es) X.env)).all (fun x => !x.1) && (backToKw cpos (keywordEach [] X.env)).all (fun x => x.1.isSome)
      && decide ((e :: es).length + ([] : List Keyword).length + (if ([] : List Keyword).isEmpty then 0 else 1) < 30)) = true := by rfl)
    (hline : (apos.endLine == cpos.line) = true := by rfl) (hs : starEach (e :: es) X.env = (false, eval e X.env) :: starEach es X.env := by rfl) (hplain : (backTo cpos (starEach es X.env)).any (·.1) = false := by rfl) :
    PE X (.Call (.Attribute o name apos) (e :: es) [] cpos) (tBM X.K T r to t) := by
  intro pins s σ H Q I h
  refine wpAny_Call_method_late hbase hfew hline rfl (thn (ho pins s σ H _ I h) fun v s1 ⟨x, H1, I1, r1, ty, q1⟩ => ?_)
  obtain ⟨h1, h2⟩ := tyV_is I1 r1 ty
  refine ⟨T, id, pa, slot, hty, h1, h2, ?_⟩
  have hA := ha cpos pins s1 σ H1 _ I1 q1
  rw [hs] at hA ⊢
  refine Calls.callWith_builtin (by show (false || (backTo cpos (starEach es X.env)).any (·.1)) = false; rw [hplain] <;> rfl) (Calls.evalArgs_plain ?_)
  exact thn hA fun us s2 ⟨vs, H2, I2, r2, q2⟩ => hm pins s2 σ H2 x vs v us Q I2 r1 r2 q2
/- xs.append(e), list.index on a module's tuple .. are MtR facts of 06m -/
end
end L2
namespace L2
open PySem PySem.Spec PyProof.Rows
def MtM (X : Cx) (id : String) (r : V → List V → Hp → VK → Prop) : Prop :=
  ∀ (pins : List (Addr × Obj)) (s : Shared) (σ : St) (H : Hp) (x : V) (xs : List V) (v : Value) (us : List Value) (Q : VK), Inv X pins σ H s → RelV x v → Vals xs us → r x xs H Q →
    wpAny (model X.prog X.w) X.A (call (.builtin id) (v :: us)) (EP X pins σ Q) X.xe s
theorem Vals.one : ∀ {x : V} {us : List Value}, Vals [x] us → ∃ u, us = [u] ∧ RelV x u
  | _, _, .cons r .nil => ⟨_, rfl, r⟩
theorem Vals.zero : ∀ {us : List Value}, Vals [] us → us = []
  | _, .nil => rfl
theorem Vals.dropLast {xs : List V} {us : List Value} (h : Vals xs us) : Vals xs.dropLast us.dropLast := by
  induction h with
  | nil => exact .nil
  | cons r t ih =>
    cases t with
    | nil => exact .nil
    | cons q t' => exact .cons r ih
theorem Vals.rep {xs : List V} {us : List Value} (h : Vals xs us) : ∀ k : Nat, Vals (List.replicate k xs).flatten (List.replicate k us).flatten
  | 0 => .nil
  | k + 1 => by
    rw [List.replicate_succ, List.replicate_succ, List.flatten_cons, List.flatten_cons]
    exact Vals.append h (Vals.rep h k)
theorem erase_last {α : Type} (l : List α) : l.eraseIdx (l.length - 1) = l.dropLast := by
  induction l with
  | nil => rfl
  | cons a r ih =>
    cases r with
    | nil => rfl
    | cons b r =>
      have e : (a :: b :: r).length - 1 = ((b :: r).length - 1) + 1 := by
        have h1 : (a :: b :: r).length = r.length + 2 := rfl
        have h2 : (b :: r).length = r.length + 1 := rfl
        omega
      rw [e, List.eraseIdx_cons_succ, ih]
      all_goals rfl
theorem foldl_rep (its : List Value) : ∀ (k : Nat) (acc : List Value),
    List.foldl (fun x1 x2 => x1 ++ x2) acc.toArray (List.replicate k its.toArray) = (acc ++ (List.replicate k its).flatten).toArray
  | 0, acc => by simp
  | k + 1, acc => by
    have e : acc.toArray ++ its.toArray = (acc ++ its).toArray := by simp
    have e2 : (acc ++ its) ++ (List.replicate k its).flatten = acc ++ (List.replicate (k + 1) its).flatten := by
      rw [List.replicate_succ, List.flatten_cons, List.append_assoc]
    rw [← e2, ← foldl_rep its k (acc ++ its), ← e, List.replicate_succ, List.foldl_cons]
section
variable {X : Cx} {pins : List (Addr × Obj)} {σ : St} {H : Hp} {s : Shared} {l b : Addr} {xs ys zs : List V}
theorem Inv.lset {its its' : List Value} {n : Nat} {f : Array Value → Array Value} {t' : Nat} (I : Inv X pins σ H s) (hH : H l = some (.lst xs))
    (e : s.heap.get? l = some { cls := .type "list", data := .seq its.toArray n }) (hf : f its.toArray = its'.toArray) (hv : Vals ys its') (hz : ys.length ≤ sizeLine) :
    Inv X pins σ (upd H l (.lst ys)) { s with heap := s.heap.update l (Obj.mapSeq f), toks := t' } := by
  have q := PySem.IsL.update e f
  rw [hf] at q
  refine I.write (x := l) (e := l) (by rw [hH]; exact trivial) (.inl rfl) (fun b' u hb hu => (Heap.get?_update_other s.heap (Obj.mapSeq f) (Ne.symm hb)).trans hu) ⟨_, q⟩ ?_
  exact ⟨hz, its', _, hv, q⟩
theorem Inv.lnew {its : List Value} {t' : Nat} (I : Inv X pins σ H s) (hv : Vals ys its) (hz : ys.length ≤ sizeLine) :
    Inv X pins σ (upd H s.heap.objs.size (.lst ys)) { s with heap := s.heap.push { cls := .type "list", data := .seq its.toArray }, toks := t' } :=
  I.laid (fun _ _ q => Heap.get?_push_of_some _ q) (Nat.le_refl _) ⟨hz, its, 0, hv, Heap.get?_push_size _ rfl⟩
theorem Inv.fresh (I : Inv X pins σ H s) : H s.heap.objs.size = none := I.hok.fresh (Nat.le_refl _)
theorem Inv.lstM (I : Inv X pins σ H s) (hH : H l = some (.lst xs)) : xs.length ≤ sizeLine ∧ ∃ (its : List Value) (n : Nat), Vals xs its ∧ xs.length = its.length ∧ s.heap.get? l = some { cls := .type "list", data := .seq its.toArray n } := by
  obtain ⟨z, its, n, r, e⟩ := I.hok l _ hH
  exact ⟨z, its, n, r, r.length, e⟩
theorem notLongL {n : Nat} (h : n ≤ sizeLine) : Builtin.List.listTooLong n = false := by
  unfold Builtin.List.listTooLong
  exact decide_eq_false (by omega)
end
section
variable {X : Cx}
def rAppend : V → List V → Hp → VK → Prop := fun x vs H Q => ∃ l xs y, x = .ref l ∧ vs = [y] ∧ H l = some (.lst xs) ∧ xs.length < sizeLine ∧ Q .non (upd H l (.lst (xs ++ [y])))
theorem mt_append : MtM X "list.append" rAppend := by
  intro pins s σ H x vs v us Q I rx rv h
  obtain ⟨l, xs, y, rfl, rfl, hH, hz, q⟩ := h
  cases rx
  obtain ⟨u, rfl, ru⟩ := rv.one
  obtain ⟨z, its, n, r, hl, e⟩ := I.lstM hH
  refine call_meets F.slot_list_append ⟨_, e, rfl⟩ F.entry_list_append (F.args_list_append_2 _ _) (PySem.list_append l its.toArray n u (by rw [List.size_toArray]; omega)) ⟨e, ?_⟩
  refine ⟨.non, _, I.lset (its' := its ++ [u]) hH e (by simp) (r.append (.cons ru .nil)) ?_, rfl, q⟩
  rw [List.length_append, List.length_singleton]
  omega
def rPop : V → List V → Hp → VK → Prop := fun x vs H Q => ∃ l xs y, x = .ref l ∧ vs = [] ∧ H l = some (.lst xs) ∧ xs[xs.length - 1]? = some y ∧ Q y (upd H l (.lst xs.dropLast))
theorem mt_pop : MtM X "list.pop" rPop := by
  intro pins s σ H x vs v us Q I rx rv h
  obtain ⟨l, xs, y, rfl, rfl, hH, hy, q⟩ := h
  cases rx
  have hus := rv.zero
  subst hus
  obtain ⟨z, its, n, r, hl, e⟩ := I.lstM hH
  obtain ⟨u, hu, ru⟩ := r.get hy
  have hy' : its.toArray[its.toArray.size - 1]? = some u := by
    show its.toArray[its.length - 1]? = some u
    rw [← Array.getElem?_toList, ← hl]
    exact hu
  refine call_meets F.slot_list_pop ⟨_, e, rfl⟩ F.entry_list_pop (F.args_list_pop_1 _) (MeetsSeq.list_pop_last l its.toArray n u hy' (by rw [List.size_toArray]; omega)) ⟨e, ?_⟩
  refine ⟨y, _, I.lset (its' := its.dropLast) hH e ?_ r.dropLast ?_, ru, q⟩
  · show its.toArray.eraseIdxIfInBounds (its.toArray.size - 1) = its.dropLast.toArray
    rw [List.size_toArray, List.eraseIdxIfInBounds_toArray, erase_last]
  · rw [List.length_dropLast]
    omega
def rCat : R2 := fun x y H Q => ∃ l b xs zs, x = .ref l ∧ y = .ref b ∧ H l = some (.lst xs) ∧ H b = some (.lst zs) ∧ xs.length + zs.length ≤ sizeLine ∧ ∀ p, H p = none → Q (.ref p) (upd H p (.lst (xs ++ zs)))
theorem op_cat : OpR X (binaryOp .Add) rCat := by
  intro pins s σ H x y v u Q I rx ry h
  obtain ⟨l, b, xs, zs, rfl, rfl, hH, hB, hz, q⟩ := h
  cases rx
  cases ry
  obtain ⟨z, its, n, r, hl, e⟩ := I.lstM hH
  obtain ⟨z2, its2, n2, r2, hl2, e2⟩ := I.lstM hB
  refine PySem.P.add_list e e2 ?_ (by rw [List.size_toArray, List.size_toArray]; omega)
  have ea : its.toArray ++ its2.toArray = (its ++ its2).toArray := by simp
  rw [ea]
  exact ⟨.ref _, _, I.lnew (t' := s.toks) (r.append r2) (by rw [List.length_append]; omega), rfl, q _ I.fresh⟩
def rRep : R2 := fun x y H Q => ∃ l k xs, x = .ref l ∧ y = .int k ∧ H l = some (.lst xs) ∧ -(2 ^ 63) ≤ k ∧ k < 2 ^ 63 ∧ xs.length * k.toNat ≤ sizeLine ∧
  ∀ p, H p = none → Q (.ref p) (upd H p (.lst (List.replicate k.toNat xs).flatten))
theorem len_rep {α : Type} (xs : List α) (k : Nat) : (List.replicate k xs).flatten.length = k * xs.length := by
  induction k with
  | zero => simp
  | succ k ih => rw [List.replicate_succ, List.flatten_cons, List.length_append, ih, Nat.succ_mul, Nat.add_comm]
theorem op_rep : OpR X (binaryOp .Mult) rRep := by
  intro pins s σ H x y v u Q I rx ry h
  obtain ⟨l, k, xs, rfl, rfl, hH, h1, h2, hz, q⟩ := h
  cases rx
  obtain ⟨t, rfl⟩ := ry
  obtain ⟨z, its, n, r, hl, e⟩ := I.lstM hH
  have hlen : its.toArray.size * k.toNat ≤ sizeLine := by rw [List.size_toArray, ← hl]; exact hz
  have hcap : ¬ its.toArray.size * k.toNat > (2 ^ 63 - 1) / 8 := by
    have : (sizeLine : Nat) ≤ (2 ^ 63 - 1) / 8 := by decide
    omega
  have hfit : ¬ (!Builtin.List.listFitsIndex k) = true := by
    rw [fitsIndex_both h1 h2]
    exact Bool.false_ne_true
  have hlong : ¬ Builtin.List.listTooLong (its.toArray.size * k.toNat) = true := by
    rw [notLongL hlen]
    exact Bool.false_ne_true
  have hnew : List.foldl (fun x1 x2 => x1 ++ x2) #[] (List.replicate (if its.toArray.isEmpty = true then 0 else k.toNat) its.toArray) = (List.replicate k.toNat its).flatten.toArray := by
    have f0 : ∀ m : Nat, List.foldl (fun x1 x2 => x1 ++ x2) #[] (List.replicate m its.toArray) = (List.replicate m its).flatten.toArray := fun m => by
      have := foldl_rep its m []
      rw [List.nil_append] at this
      exact this
    rw [f0]
    cases its with
    | nil => simp
    | cons a r' => rw [if_neg (by simp)]
  refine wpAny_binaryOp_repeat_ref (T := "list") (U := "int") (by decide) ⟨_, e, rfl⟩ (fun s' => typeIs_int s' k t) noFill_list_mul F.fills_int_mul F.slot_int_rmul repeat_list F.slot_int_index.lookup
    (call_meets F.slot_int_rmul (typeIs_int s k t) F.entry_int_rmul (F.args_int_rmul_2 _ _) (int___rmul___int_list k t l its.toArray n)
      ⟨e, rfl, ⟨_, e, rfl⟩, call_meets F.slot_list_mul ⟨_, e, rfl⟩ F.entry_list_mul (F.args_list_mul_2 _ _) (AutoListH.list___mul___list_int_3 l its.toArray n k t hfit hcap hlong) ⟨e, ?_⟩⟩)
  rw [hnew]
  exact ⟨.ref _, _, I.lnew (t' := s.toks) (r.rep k.toNat) (by rw [len_rep, Nat.mul_comm]; exact hz), rfl, q _ I.fresh⟩
end
section
variable {prog : Program} {w : World} {A : Around} {E : Value → Shared → Prop} {s : Shared}
end
section
variable {X : Cx}
end
end L2
namespace L2
open PySem PySem.Spec PyProof.Rows
section
variable {κ : Type} [DecidableEq κ]
def valV (kvs : List (κ × V)) (k : κ) : Option V := (kvs.find? fun kv => decide (kv.1 = k)).map (·.2)
def putK (kvs : List (κ × V)) (k : κ) (v : V) : List (κ × V) :=
  if (kvs.any fun kv => decide (kv.1 = k)) = true then kvs.map (fun kv => if kv.1 = k then (kv.1, v) else kv) else kvs ++ [(k, v)]
def dropK (kvs : List (κ × V)) (k : κ) : List (κ × V) := kvs.filter fun kv => decide (kv.1 ≠ k)
theorem valV_pos {p : κ × V} {r : List (κ × V)} {k : κ} (e : p.1 = k) : valV (p :: r) k = some p.2 := by simp [valV, List.find?_cons, e]
theorem valV_neg {p : κ × V} {r : List (κ × V)} {k : κ} (e : ¬ p.1 = k) : valV (p :: r) k = valV r k := by simp [valV, List.find?_cons, e]
theorem valV_any (k : κ) : ∀ kvs : List (κ × V), (kvs.any fun kv => decide (kv.1 = k)) = (valV kvs k).isSome
  | [] => rfl
  | p :: r => by
    rw [List.any_cons]
    by_cases e : p.1 = k
    · simp only [valV_pos e, decide_eq_true e, Bool.true_or, Option.isSome_some]
    · rw [valV_neg e, decide_eq_false e, Bool.false_or]; exact valV_any k r
theorem valV_map (k j : κ) (y : V) : ∀ kvs : List (κ × V), valV (kvs.map fun kv => if kv.1 = k then (kv.1, y) else kv) j = (valV kvs j).map fun x => if j = k then y else x
  | [] => rfl
  | p :: r => by
    have ih := valV_map k j y r
    rw [List.map_cons]
    by_cases h : p.1 = k
    · rw [if_pos h]
      by_cases e : p.1 = j
      · rw [valV_pos (p := (p.1, y)) e, valV_pos e, Option.map_some, if_pos (e.symm.trans h)]
      · rw [valV_neg (p := (p.1, y)) e, valV_neg e, ih]
    · rw [if_neg h]
      by_cases e : p.1 = j
      · rw [valV_pos (p := p) e, valV_pos e, Option.map_some, if_neg (fun z => h (e.trans z))]
      · rw [valV_neg (p := p) e, valV_neg e, ih]
theorem valV_snoc (k j : κ) (y : V) : ∀ kvs : List (κ × V), valV kvs k = none → valV (kvs ++ [(k, y)]) j = if j = k then some y else valV kvs j
  | [], _ => by
    by_cases e : k = j
    · rw [if_pos e.symm]; exact valV_pos (p := (k, y)) e
    · rw [if_neg (fun z => e z.symm)]; exact valV_neg (p := (k, y)) e
  | p :: r, hn => by
    rw [List.cons_append]
    have hk : ¬ p.1 = k := fun z => by rw [valV_pos z] at hn; cases hn
    rw [valV_neg hk] at hn
    have ih := valV_snoc k j y r hn
    by_cases e : p.1 = j
    · rw [valV_pos e, valV_pos e, if_neg (fun z => hk (e.trans z))]
    · rw [valV_neg e, valV_neg e, ih]
theorem valV_put (kvs : List (κ × V)) (k j : κ) (y : V) : valV (putK kvs k y) j = if j = k then some y else valV kvs j := by
  unfold putK
  by_cases a : (kvs.any fun kv => decide (kv.1 = k)) = true
  · rw [if_pos a, valV_map]
    rw [valV_any] at a
    by_cases e : j = k
    · obtain ⟨x, hx⟩ := Option.isSome_iff_exists.mp a
      rw [if_pos e, e, hx, Option.map_some, if_pos rfl]
    · rw [if_neg e]
      cases valV kvs j with
      | none => rfl
      | some x => rw [Option.map_some, if_neg e]
  · rw [if_neg a]
    refine valV_snoc k j y kvs ?_
    rw [valV_any] at a
    cases q : valV kvs k with
    | none => rfl
    | some x => rw [q] at a; exact (a rfl).elim
theorem length_putK (kvs : List (κ × V)) (k : κ) (v : V) : (putK kvs k v).length ≤ kvs.length + 1 := by
  unfold putK
  split
  · rw [List.length_map]; omega
  · rw [List.length_append, List.length_cons, List.length_nil]; omega
theorem RelO.isSome_eq {o : Option V} {u : Option Value} (r : RelO o u) : o.isSome = u.isSome := by
  cases o with
  | none => cases u with
    | none => rfl
    | some _ => exact (show False from r).elim
  | some _ => cases u with
    | none => exact (show False from r).elim
    | some _ => rfl
theorem RelO.getD {o : Option V} {u : Option Value} {d : V} {d' : Value} (r : RelO o u) (rd : RelV d d') : RelV (o.getD d) (u.getD d') := by
  cases o with
  | none => cases u with
    | none => exact rd
    | some _ => exact (show False from r).elim
  | some _ => cases u with
    | none => exact (show False from r).elim
    | some _ => exact r
theorem KV.val {kvs : List (κ × V)} {vs : List (κ × Value)} (r : KV kvs vs) (k : κ) : RelO (valV kvs k) (valueAt vs k) := by
  unfold KV at r
  induction r with
  | nil => exact True.intro
  | @cons p q ps qs h t ih =>
    obtain ⟨h1, h2⟩ := h
    by_cases e : p.1 = k
    · have e' : q.1 = k := h1.symm.trans e
      have b : valueAt (q :: qs) k = some q.2 := by simp [valueAt, List.find?_cons, e']
      rw [valV_pos e, b]; exact h2
    · have e' : ¬ q.1 = k := fun z => e (h1.trans z)
      have b : valueAt (q :: qs) k = valueAt qs k := by simp [valueAt, List.find?_cons, e']
      rw [valV_neg e, b]; exact ih
theorem KV.any {kvs : List (κ × V)} {vs : List (κ × Value)} (r : KV kvs vs) (k : κ) : (kvs.any fun kv => decide (kv.1 = k)) = vs.any fun kv => decide (kv.1 = k) := by
  unfold KV at r
  induction r with
  | nil => rfl
  | cons h t ih => rw [List.any_cons, List.any_cons, ih, h.1]
theorem KV.repl {kvs : List (κ × V)} {vs : List (κ × Value)} (r : KV kvs vs) (k : κ) {y : V} {u : Value} (ry : RelV y u) :
    KV (kvs.map fun kv => if kv.1 = k then (kv.1, y) else kv) (vs.map fun kv => if kv.1 = k then (kv.1, u) else kv) := by
  unfold KV at r ⊢
  induction r with
  | nil => exact .nil
  | @cons p q ps qs h t ih =>
    rw [List.map_cons, List.map_cons]
    refine .cons ?_ ih
    obtain ⟨h1, h2⟩ := h
    by_cases e : p.1 = k
    · rw [if_pos e, if_pos (h1.symm.trans e)]; exact ⟨h1, ry⟩
    · rw [if_neg e, if_neg (fun z => e (h1.trans z))]; exact ⟨h1, h2⟩
theorem KV.put {kvs : List (κ × V)} {vs : List (κ × Value)} (r : KV kvs vs) (k : κ) {y : V} {u : Value} (ry : RelV y u) : KV (putK kvs k y) (stored vs k u) := by
  unfold putK stored
  rw [r.any k]
  by_cases e : (vs.any fun kv => decide (kv.1 = k)) = true
  · rw [if_pos e, if_pos e]; exact r.repl k ry
  · rw [if_neg e, if_neg e]; exact Paired.snoc r ⟨rfl, ry⟩
theorem KV.length {kvs : List (κ × V)} {vs : List (κ × Value)} (r : KV kvs vs) : kvs.length = vs.length := Paired.length r
end
theorem kV_is {P : Program} {w : World} {k : Key} {u : Value} (r : RelV (kV k) u) : (mixKind P w).is k u = true := by
  cases k with
  | inl i => obtain ⟨t, e⟩ := (show ∃ t, u = Value.int i t from r); subst e; exact mixKind_int P w i t
  | inr x => obtain ⟨t, e⟩ := (show ∃ t, u = Value.str x t from r); subst e; exact mixKind_str P w x t
theorem items_are {P : Program} {w : World} : ∀ {ks : List Key} {us : List Value}, Vals (ks.map kV) us → ItemsAre (mixKind P w) ks us
  | [], _, r => by rw [List.map_nil] at r; cases r; exact .nil
  | k :: ks, _, r => by
    rw [List.map_cons] at r
    cases r with
    | cons h t => exact .cons (kV_is h) (items_are t)
abbrev KT (H : Hp) : List (List Key × V) → List (List Key × Addr × Value) → Prop := Paired fun p q => p.1 = q.1 ∧ H q.2.1 = some (.tup (p.1.map kV)) ∧ RelV p.2 q.2.2
theorem KT.val {H : Hp} {kvs : List (List Key × V)} {xs : List (List Key × Addr × Value)} (r : KT H kvs xs) (k : List Key) : RelO (valV kvs k) ((atKey xs k).map (·.2)) := by
  induction r with
  | nil => exact True.intro
  | @cons p q ps qs h t ih =>
    obtain ⟨h1, _, h2⟩ := h
    by_cases e : p.1 = k
    · have e' : q.1 = k := h1.symm.trans e
      have b : atKey (q :: qs) k = some q.2 := by simp [atKey, List.find?_cons, e']
      rw [valV_pos e, b]; exact h2
    · have e' : ¬ q.1 = k := fun z => e (h1.trans z)
      have b : atKey (q :: qs) k = atKey qs k := by simp [atKey, List.find?_cons, e']
      rw [valV_neg e, b]; exact ih
theorem KT.repl {H : Hp} {kvs : List (List Key × V)} {xs : List (List Key × Addr × Value)} (r : KT H kvs xs) (k : List Key) {y : V} {u : Value} (ry : RelV y u) :
    KT H (kvs.map fun kv => if kv.1 = k then (kv.1, y) else kv) (xs.map (putAt k u)) := by
  induction r with
  | nil => exact .nil
  | @cons p q ps qs h t ih =>
    rw [List.map_cons, List.map_cons]
    refine .cons ?_ ih
    obtain ⟨h1, h2, h3⟩ := h
    unfold putAt
    by_cases e : p.1 = k
    · rw [if_pos e, if_pos (h1.symm.trans e)]; exact ⟨h1, h2, ry⟩
    · rw [if_neg e, if_neg (fun z => e (h1.trans z))]; exact ⟨h1, h2, h3⟩
theorem KT.put {H : Hp} {kvs : List (List Key × V)} {xs : List (List Key × Addr × Value)} (r : KT H kvs xs) (k : List Key) {b : Addr} {y : V} {u : Value} (hb : H b = some (.tup (k.map kV))) (ry : RelV y u) :
    KT H (putK kvs k y) (storedH xs k b u) := by
  have e : (kvs.any fun kv => decide (kv.1 = k)) = (atKey xs k).isSome := by
    rw [valV_any, (r.val k).isSome_eq, Option.isSome_map]
  unfold putK storedH
  rw [e]
  by_cases q : (atKey xs k).isSome = true
  · rw [if_pos q, if_pos q]; exact r.repl k ry
  · rw [if_neg q, if_neg q]; exact Paired.snoc r ⟨rfl, hb, ry⟩
theorem KT.keeps {H H' : Hp} {kvs : List (List Key × V)} {xs : List (List Key × Addr × Value)} (r : KT H kvs xs) (ht : ∀ b ys, H b = some (.tup ys) → H' b = some (.tup ys)) : KT H' kvs xs :=
  Paired.mapP r fun _ _ z => ⟨z.1, ht _ _ z.2.1, z.2.2⟩
section
variable {P : Program} {w : World} {H : Hp} {h : Heap} {a : Addr}
theorem rd_of {u : HO} (ok : HOk P w H h) (e : Rd H a u) : ObjOk P w H h a u := e.ok ok
theorem dk_rd {kvs : List (Key × V)} (ok : HOk P w H h) (e : Rd H a (.dK kvs)) : kvs.length ≤ sizeLine ∧ (a == sysModules) = false ∧ ∃ vs, KV kvs vs ∧ h.DictOf (mixKind P w) a vs :=
  show ObjOk P w H h a (.dK kvs) from rd_of ok e
theorem dk_of {kvs : List (Key × V)} (ok : HOk P w H h) (e : H a = some (.dK kvs)) : kvs.length ≤ sizeLine ∧ (a == sysModules) = false ∧ ∃ vs, KV kvs vs ∧ h.DictOf (mixKind P w) a vs := dk_rd ok (.inl e)
theorem key_of {ks : List Key} (ok : HOk P w H h) (e : H a = some (.tup (ks.map kV))) : (tupleKind (mixKind P w)).is h ks a := by
  obtain ⟨_, its, r, o, h1, h2, n, h3⟩ := (show ObjOk P w H h a (.tup (ks.map kV)) from ok a _ e)
  exact ⟨o, its.toArray, n, h1, h2, h3, by simpa using items_are r⟩
theorem dt_rd {kvs : List (List Key × V)} (ok : HOk P w H h) (e : Rd H a (.dT kvs)) : kvs.length ≤ sizeLine ∧ (a == sysModules) = false ∧
    ∃ xs, KT H kvs xs ∧ h.DictOfH (tupleKind (mixKind P w)) a xs := by
  obtain ⟨z, y, xs, r, o, es, ep, h1, h2, h3, h4, h5⟩ := (show ObjOk P w H h a (.dT kvs) from rd_of ok e)
  refine ⟨z, y, xs, r, o, es, ep, h1, h2, h3, h4, fun x hx => ?_, h5⟩
  have all : ∀ {l : List (List Key × V)} {m : List (List Key × Addr × Value)}, KT H l m → ∀ x ∈ m, (tupleKind (mixKind P w)).is h x.1 x.2.1 := by
    intro l m q
    induction q with
    | nil => intro x hx; exact nomatch hx
    | @cons p q ps qs hq t ih =>
      intro x hx
      rcases List.mem_cons.mp hx with e | hx
      · subst e
        exact key_of ok (by rw [← hq.1]; exact hq.2.1)
      · exact ih x hx
  exact all r x hx
theorem dt_of {kvs : List (List Key × V)} (ok : HOk P w H h) (e : H a = some (.dT kvs)) : kvs.length ≤ sizeLine ∧ (a == sysModules) = false ∧
    ∃ xs, KT H kvs xs ∧ h.DictOfH (tupleKind (mixKind P w)) a xs := dt_rd ok (.inl e)
end
def DGet (H : Hp) (a : Addr) (y : V) (r : Option V) : Prop :=
  (∃ kvs k, Rd H a (.dK kvs) ∧ y = kV k ∧ r = valV kvs k) ∨ ∃ kvs k b, Rd H a (.dT kvs) ∧ y = .ref b ∧ H b = some (.tup (k.map kV)) ∧ r = valV kvs k
def DPut (H : Hp) (a : Addr) (y v : V) (H' : Hp) : Prop :=
  (∃ kvs k, H a = some (.dK kvs) ∧ y = kV k ∧ kvs.length < sizeLine ∧ H' = upd H a (.dK (putK kvs k v))) ∨
  ∃ kvs k b, H a = some (.dT kvs) ∧ y = .ref b ∧ H b = some (.tup (k.map kV)) ∧ kvs.length < sizeLine ∧ H' = upd H a (.dT (putK kvs k v))
theorem DGet.k {H : Hp} {a : Addr} {kvs : List (Key × V)} {k : Key} (e : H a = some (.dK kvs)) : DGet H a (kV k) (valV kvs k) := .inl ⟨kvs, k, .inl e, rfl, rfl⟩
theorem DPut.k {H : Hp} {a : Addr} {kvs : List (Key × V)} {k : Key} {v : V} (e : H a = some (.dK kvs)) (hl : kvs.length < sizeLine) : DPut H a (kV k) v (upd H a (.dK (putK kvs k v))) := .inl ⟨kvs, k, e, rfl, hl, rfl⟩
section
variable {X : Cx} {pins : List (Addr × Obj)} {σ : St} {H : Hp} {s : Shared} {a : Addr} {y v : V} {u r : Value} {o : Option V} {A : Around} {E : Value → Shared → Prop}
theorem Inv.big (I : Inv X pins σ H s) : sysModules < s.heap.objs.size := by
  have h : mainGlobals < s.heap.objs.size := (I.mod.glob.keeps I.bk).lt
  exact Nat.lt_trans (by decide) h
theorem d_getItem {Q : Value → Shared → Prop} (hu : A.units + 1 < cLine) (I : Inv X pins σ H s) (g : DGet H a y (some v)) (ry : RelV y u) (h : ∀ w' s', Inv X pins σ H s' → RelV v w' → Q w' s') :
    wpAny (model X.prog X.w) A (getItem (.ref a) u) Q E s := by
  rcases g with ⟨kvs, k, e, ey, l⟩ | ⟨kvs, k, b, e, ey, eb, l⟩
  · subst ey
    obtain ⟨z, hd, vs, rel, dd⟩ := dk_rd I.hok e
    obtain ⟨w', hw, rw'⟩ := RelO.some_of (v := v) (o := valueAt vs k) (by rw [l]; exact rel.val k)
    exact wpAny_getItem_of (kV_is ry) dd.mapOf hw (h w' _ (I.tok _) rw')
  · subst ey
    cases (show u = Value.ref b from ry)
    obtain ⟨z, hd, xs, rel, dd⟩ := dt_rd I.hok e
    obtain ⟨w', hw, rw'⟩ := RelO.some_of (v := v) (o := (atKey xs k).map (·.2)) (by rw [l]; exact rel.val k)
    obtain ⟨p, hp, hp2⟩ := Option.map_eq_some_iff.mp hw
    refine wpAny_getItem_heap (tupleKind_room_in1 hu) (key_of I.hok eb) dd hp ?_
    rw [hp2]
    exact h w' _ (I.tok _) rw'
theorem d_notIn {Q : Value → Shared → Prop} (hu : A.units + 1 < cLine) (I : Inv X pins σ H s) (g : DGet H a y o) (ry : RelV y u) (h : ∀ s', Inv X pins σ H s' → Q (.bool (!o.isSome)) s') :
    wpAny (model X.prog X.w) A (compareOp .NotIn u (.ref a)) Q E s := by
  rcases g with ⟨kvs, k, e, ey, l⟩ | ⟨kvs, k, b, e, ey, eb, l⟩
  · subst ey
    obtain ⟨z, hd, vs, rel, dd⟩ := dk_rd I.hok e
    refine wpAny_notIn_of (kV_is ry) hd dd.mapOf ?_
    rw [← (rel.val k).isSome_eq, ← l]
    exact h _ (I.tok _)
  · subst ey
    cases (show u = Value.ref b from ry)
    obtain ⟨z, hd, xs, rel, dd⟩ := dt_rd I.hok e
    refine wpAny_notIn_heap (tupleKind_room_in1 hu) (key_of I.hok eb) hd dd ?_
    have q := (rel.val k).isSome_eq
    rw [Option.isSome_map] at q
    rw [← q, ← l]
    exact h _ (I.tok _)
theorem d_write {h' : Heap} {t' : Nat} {ob : HO} (I : Inv X pins σ H s) (mu : Mut (H a)) (hs : Heap.SameBut a s.heap h') (he : ∃ q, h'.get? a = some q) (new : ObjOk X.prog X.w (upd H a ob) h' a ob) :
    Inv X pins σ (upd H a ob) { s with heap := h', toks := t' } :=
  I.write (x := a) (e := a) mu (.inl rfl) (fun b q hb z => (hs.2 b hb).trans z) he new
theorem dk_new {P : Program} {w : World} {H' : Hp} {h' : Heap} {kvs : List (Key × V)} {vs : List (Key × Value)} (z : kvs.length ≤ sizeLine) (hd : (a == sysModules) = false) (rel : KV kvs vs) (dd : h'.DictOf (mixKind P w) a vs) :
    ObjOk P w H' h' a (.dK kvs) := ⟨z, hd, vs, rel, dd⟩
theorem d_setItem {H' : Hp} {Q : Unit → Shared → Prop} (hu : A.units + 1 < cLine) (I : Inv X pins σ H s) (g : DPut H a y v H') (ry : RelV y u) (rv : RelV v r) (h : ∀ s', Inv X pins σ H' s' → Q () s') :
    wpAny (model X.prog X.w) A (setItem (.ref a) u r) Q E s := by
  rcases g with ⟨kvs, k, e, ey, l, eH⟩ | ⟨kvs, k, b, e, ey, eb, l, eH⟩
  · subst ey eH
    obtain ⟨z, hd, vs, rel, dd⟩ := dk_of I.hok e
    have hz : vs.length ≤ sizeLine := by rw [← rel.length]; exact z
    have hl : (putK kvs k v).length ≤ sizeLine := by have := length_putK kvs k v; omega
    refine wpAny_setItem_pairs (hsz := hz) (kV_is ry) dd fun h' dd' hs => h _ ?_
    have he : ∃ q, h'.get? a = some q := let ⟨q, _, _, hq, _⟩ := dd'; ⟨q, hq⟩
    exact d_write I (by rw [e]; exact True.intro) hs he (dk_new hl hd (rel.put k rv) dd')
  · subst ey eH
    cases (show u = Value.ref b from ry)
    obtain ⟨z, hd, xs, rel, dd⟩ := dt_of I.hok e
    have hz : xs.length ≤ sizeLine := by rw [← Paired.length rel]; exact z
    have hl : (putK kvs k v).length ≤ sizeLine := by have := length_putK kvs k v; omega
    refine wpAny_setItem_heap (hsz := hz) (tupleKind_room_in1 hu) (key_of I.hok eb) dd fun h' dd' hs => h _ ?_
    obtain ⟨q, es, ep, hq, h2, h3, h4, _, h5⟩ := dd'
    refine d_write I (by rw [e]; exact True.intro) hs ⟨q, hq⟩ ⟨hl, hd, _, (rel.put k eb rv).keeps fun c ys ec => ?_, q, es, ep, hq, h2, h3, h4, h5⟩
    rw [upd_ne (ne_of ec e (fun z => nomatch z))]
    exact ec
end
section
variable {X : Cx} {pins : List (Addr × Obj)} {σ : St} {H : Hp} {s : Shared} {a : Addr} {kvs : List (Key × V)} {k : Key} {u : Value} {A : Around} {E : Value → Shared → Prop}
end
def NoSl (i : Expr) : Prop := ∀ ov iv, subscripted i false ov iv = operate [ov, iv] (getItem ov iv)
theorem subD_of {prog : Program} {w : World} {A : Around} {E : Value → Shared → Prop} {s : Shared} {env : Env} {value slice : Expr} {pos : Pos} {T id : String} {Q : Value → Shared → Prop}
    (hl : typeLookup (.type T) "__getitem__" = pure (some (.builtin id))) (hs : NoSl slice)
    (h : wpAny (model prog w) A (eval value env) (fun o s₁ => wpAny (model prog w) A (eval slice env) (fun i s₂ => s₂.TypeIs o T ∧ wpAny (model prog w) A (getItem o i) Q E s₂) E s₁) E s) :
    wpAny (model prog w) A (eval (.Subscript value slice pos) env) Q E s := by
  refine Subscript_ (wpAny_mono h (fun o s₁ h₁ => wpAny_mono h₁ (fun i s₂ h₂ => ?_) fun _ _ x => x) fun _ _ x => x)
  obtain ⟨hT, h₂⟩ := h₂
  unfold subscriptTail
  refine wpAny_bind ?_
  rw [getitemInPython_of_ne hT.not_modules]
  refine wpAny_bind (wpAny_specialOf hT hl ?_)
  have fin : wpAny (model prog w) A (subscripted slice false o i) (fun r s₃ => wpAny (model prog w) A (letTemporaryGo value o r >>= fun _ => pure r) Q E s₃) E s₂ := by
    rw [hs o i]
    exact wpAny_operating (wpAny_mono h₂ (fun r s₃ h₃ => wpAny_bind (wpAny_letTemporaryGo (wpAny_pure h₃))) fun _ _ x => x)
  first
    | exact wpAny_pure (wpAny_bind fin)
    | exact wpAny_bind (wpAny_pure (wpAny_bind fin))
    | exact wpAny_bind fin
theorem dict_typeIs {X : Cx} {pins : List (Addr × Obj)} {σ : St} {H : Hp} {s : Shared} {a : Addr} {y : V} {o : Option V} (I : Inv X pins σ H s) (g : DGet H a y o) : s.TypeIs (.ref a) "dict" := by
  rcases g with ⟨kvs, k, e, _, _⟩ | ⟨kvs, k, b, e, _, _, _⟩
  · obtain ⟨_, _, vs, _, dd⟩ := dk_rd I.hok e
    exact dd.typeIs
  · obtain ⟨_, _, xs, _, dd⟩ := dt_rd I.hok e
    exact dd.typeIs
section
variable {X : Cx} {o i e value : Expr} {pos pos' tpos : Pos} {td ty tv : TE}
end
theorem dk_empty {P : Program} {w : World} {H : Hp} (h : Heap) (hb : sysModules < h.objs.size) : ObjOk P w H (h.push { cls := .type "dict", data := .dict #[] }) h.objs.size (.dK []) :=
  ⟨Nat.zero_le _, beq_eq_false_iff_ne.mpr (Ne.symm (Nat.ne_of_lt hb)), [], .nil, Heap.DictOf.new h⟩
def tDNewK : TE := fun _ H Q => ∀ p, H p = none → Q (.ref p) (upd H p (.dK []))
section
variable {X : Cx} {pos : Pos}
theorem pe_dnewK : PE X (.Dict [] [] pos) tDNewK := fun pins s σ H Q I h =>
  wpAny_Dict_empty ⟨.ref s.heap.objs.size, _, I.laid (a := s.heap.objs.size) (o := .dK []) (t' := s.toks) (fun _ _ q => Heap.get?_push_of_some _ q) (Nat.le_refl _) (dk_empty s.heap I.big), rfl, h _ (I.hok.fresh (Nat.le_refl _))⟩
end
def tPairs : List (TE × TE) → St → Hp → (List (V × V) → Hp → Prop) → Prop
  | [], _, H, Q => Q [] H
  | (tk, tv) :: r, σ, H, Q => tk σ H fun x H1 => tv σ H1 fun y H2 => tPairs r σ H2 fun ps H3 => Q ((x, y) :: ps) H3
abbrev VV : List (V × V) → List (Value × Value) → Prop := Paired fun p q => RelV p.1 q.1 ∧ RelV p.2 q.2
def PPs (X : Cx) (pos : Pos) (keys : List (Option Expr)) (values : List Expr) (trs : List (TE × TE)) : Prop :=
  ∀ (pins : List (Addr × Obj)) (s : Shared) (σ : St) (H : Hp) (Q : List (V × V) → Hp → Prop), Inv X pins σ H s → tPairs trs σ H Q →
    wpAny (model X.prog X.w) X.A (evalPairs (pairTrees keys values X.env pos)) (fun vs s' => ∃ ps H', Inv X pins σ H' s' ∧ VV ps vs ∧ Q ps H') X.xe s
theorem pps_nil {X : Cx} {pos : Pos} : PPs X pos [] [] [] := fun pins s σ H Q I h => pairTrees_nil_walk ⟨[], H, I, .nil, h⟩
theorem pps_cons {X : Cx} {pos : Pos} {k v : Expr} {ks : List (Option Expr)} {vs : List Expr} {tk tv : TE} {trs : List (TE × TE)} (hk : PE X k tk) (hv : PE X v tv) (hr : PPs X pos ks vs trs) :
    PPs X pos (some k :: ks) (v :: vs) ((tk, tv) :: trs) := fun pins s σ H Q I h =>
  pairTrees_cons_walk (thn (hk pins s σ H _ I h) fun u s1 ⟨x, H1, I1, rx, q1⟩ => thn (hv pins s1 σ H1 _ I1 q1) fun w2 s2 ⟨y, H2, I2, ry, q2⟩ =>
    thn (hr pins s2 σ H2 _ I2 q2) fun ws s3 ⟨ps, H3, I3, rel, q3⟩ => ⟨(x, y) :: ps, H3, I3, .cons ⟨rx, ry⟩ rel, q3⟩)
def mergeK (kvs more : List (Key × V)) : List (Key × V) := more.foldl (fun acc kv => putK acc kv.1 kv.2) kvs
theorem KV.merge : ∀ {more : List (Key × V)} {rs : List (Key × Value)} {kvs : List (Key × V)} {vs : List (Key × Value)}, KV more rs → KV kvs vs → KV (mergeK kvs more) (merged vs rs) := by
  intro more rs kvs vs r
  unfold KV at r
  induction r generalizing kvs vs with
  | nil => intro q; exact q
  | @cons p q ps qs h t ih =>
    intro r0
    have e : KV (putK kvs p.1 p.2) (stored vs q.1 q.2) := by
      have := r0.put p.1 h.2
      rw [← h.1]; exact this
    exact ih e
theorem length_mergeK : ∀ (more kvs : List (Key × V)), (mergeK kvs more).length ≤ kvs.length + more.length
  | [], kvs => by show kvs.length ≤ kvs.length + 0; omega
  | p :: r, kvs => by
    have h1 := length_mergeK r (putK kvs p.1 p.2)
    have h2 := length_putK kvs p.1 p.2
    show (mergeK (putK kvs p.1 p.2) r).length ≤ _
    rw [List.length_cons]; omega
theorem carries_of {P : Program} {w : World} : ∀ {kvs : List (Key × V)} {ws : List (Value × Value)}, VV (kvs.map fun kv => (kV kv.1, kv.2)) ws → ∃ rs, Carries (mixKind P w) ws rs ∧ KV kvs rs
  | [], _, r => by rw [List.map_nil] at r; cases r; exact ⟨[], True.intro, .nil⟩
  | p :: kvs, _, r => by
    rw [List.map_cons] at r
    cases r with
    | @cons a b as bs h t =>
      obtain ⟨rs, c, q⟩ := carries_of (P := P) (w := w) t
      obtain ⟨b1, b2⟩ := b
      exact ⟨(p.1, b2) :: rs, ⟨kV_is h.1, rfl, c⟩, .cons ⟨rfl, h.2⟩ q⟩
structure M1 (X : Cx) (o : Expr) (m : Str) (apos : Pos) (e : Expr) (cpos : Pos) : Prop where
  base : attributeBase o m X.env (eval o X.env) = eval o X.env
  few : ((backTo cpos (starEach [e] X.env)).all (fun x => !x.1) && (backToKw cpos (keywordEach [] X.env)).all (fun x => x.1.isSome)
    && decide (([e] : List Expr).length + ([] : List Keyword).length + (if ([] : List Keyword).isEmpty then 0 else 1) < 30)) = true
  line : (apos.endLine == cpos.line) = true
  trees : backTo cpos (starEach [e] X.env) = [(false, eval e X.env)]
structure M2 (X : Cx) (o : Expr) (m : Str) (apos : Pos) (e f : Expr) (cpos : Pos) : Prop where
  base : attributeBase o m X.env (eval o X.env) = eval o X.env
  few : ((backTo cpos (starEach [e, f] X.env)).all (fun x => !x.1) && (backToKw cpos (keywordEach [] X.env)).all (fun x => x.1.isSome)
    && decide (([e, f] : List Expr).length + ([] : List Keyword).length + (if ([] : List Keyword).isEmpty then 0 else 1) < 30)) = true
  line : (apos.endLine == cpos.line) = true
  trees : backTo cpos (starEach [e, f] X.env) = [(false, eval e X.env), (false, eval f X.env)]
def IsD (H : Hp) (a : Addr) : Prop := (∃ kvs, Rd H a (.dK kvs)) ∨ ∃ kvs, Rd H a (.dT kvs)
theorem isD_at {X : Cx} {pins : List (Addr × Obj)} {σ : St} {H : Hp} {s : Shared} {a : Addr} (I : Inv X pins σ H s) (d : IsD H a) :
    s.TypeIs (.ref a) "dict" ∧ (∀ b, Value.ref a = .ref b → ∃ ob, s.heap.get? b = some ob ∧ ob.dict = none) ∧ (a == sysModules) = false := by
  rcases d with ⟨kvs, e⟩ | ⟨kvs, e⟩
  · obtain ⟨_, hd, vs, _, dd⟩ := dk_rd I.hok e
    refine ⟨dd.typeIs, fun b q => ?_, hd⟩
    cases q
    obtain ⟨ob, _, _, h1, h2, _⟩ := dd
    exact ⟨ob, h1, h2.2.1⟩
  · obtain ⟨_, hd, xs, _, dd⟩ := dt_rd I.hok e
    refine ⟨dd.typeIs, fun b q => ?_, hd⟩
    cases q
    obtain ⟨ob, _, _, h1, h2, _⟩ := dd
    exact ⟨ob, h1, h2.2.1⟩
section
variable {X : Cx} {pins : List (Addr × Obj)} {σ : St} {H : Hp} {s : Shared} {a : Addr} {y d : V} {u r : Value} {o : Option V} {A : Around} {E : Value → Shared → Prop}
theorem d_get2 {Q : Value → Shared → Prop} (hu : A.units + 1 < cLine) (I : Inv X pins σ H s) (g : DGet H a y o) (ry : RelV y u) (rd : RelV d r) (h : ∀ w' s', Inv X pins σ H s' → RelV (o.getD d) w' → Q w' s') :
    wpAny (model X.prog X.w) A (call (.builtin "dict.get") [.ref a, u, r]) Q E s := by
  rcases g with ⟨kvs, k, e, ey, l⟩ | ⟨kvs, k, b, e, ey, eb, l⟩
  · subst ey
    obtain ⟨z, hd, vs, rel, dd⟩ := dk_rd I.hok e
    refine call_meetsIn PySem.F.slot_dict_get dd.typeIs PySem.F.entry_dict_get (PySem.F.args_dict_get_3 _ _ _) (meets_dict_get_default (mixKind X.prog X.w) a (kV_is ry) hd r) ⟨_, dd.mapOf, h _ _ (I.tok _) ?_⟩
    rw [l]
    exact (rel.val k).getD rd
  · subst ey
    cases (show u = Value.ref b from ry)
    obtain ⟨z, hd, xs, rel, dd⟩ := dt_rd I.hok e
    refine call_meetsIn PySem.F.slot_dict_get dd.typeIs PySem.F.entry_dict_get (PySem.F.args_dict_get_3 _ _ _) (meetsH_dict_get_default (tupleKind (mixKind X.prog X.w)) a b hd r) ⟨tupleKind_room_in1 hu, k, xs, key_of I.hok eb, dd, h _ _ (I.tok _) ?_⟩
    rw [l]
    exact (rel.val k).getD rd
end
def tDGet2 (td ty tx : TE) : TE := fun σ H Q => td σ H fun x H1 => ∃ a, x = .ref a ∧ IsD H1 a ∧ ty σ H1 fun y H2 => tx σ H2 fun z H3 => ∃ o, DGet H3 a y o ∧ Q (o.getD z) H3
section
variable {X : Cx} {o e f : Expr} {apos cpos : Pos} {td ty tx : TE}
theorem pe_dget2 (hu : X.A.units + 1 < cLine) (ho : PE X o td) (he : PE X e ty) (hf : PE X f tx) (m : M2 X o "get" apos e f cpos) : PE X (.Call (.Attribute o "get" apos) [e, f] [] cpos) (tDGet2 td ty tx) := by
  intro pins s σ H Q I h
  refine wpAny_Call_method m.base m.few m.line PySem.F.plainAttrs_dict PySem.F.slot_dict_get PySem.F.type_dict_get (thn (ho pins s σ H _ I h) fun u s1 ⟨x, H1, I1, rx, a, ex, d, q1⟩ => ?_)
  subst ex
  obtain rfl : u = Value.ref a := rx
  obtain ⟨t1, t2, _⟩ := isD_at I1 d
  refine ⟨t1, t2, ?_⟩
  rw [m.trees]
  refine Calls.callWith_builtin rfl (Calls.evalArgs_plain (Calls.spliced_cons (thn (he pins s1 σ H1 _ I1 q1) fun iv s2 ⟨y, H2, I2, ry, q2⟩ =>
    Calls.spliced_cons (thn (hf pins s2 σ H2 _ I2 q2) fun fv s3 ⟨z, H3, I3, rz, ov, g, q3⟩ => Calls.spliced_nil ?_))))
  exact d_get2 hu I3 g ry rz fun w' s4 I4 rw' => ⟨_, H3, I4, rw', q3⟩
end
section
variable {X : Cx} {pins : List (Addr × Obj)} {σ : St} {H : Hp} {s : Shared} {a : Addr} {kvs : List (Key × V)} {A : Around} {E : Value → Shared → Prop}
end
section
variable {X : Cx} {pins : List (Addr × Obj)} {σ : St} {H : Hp} {s : Shared} {a : Addr} {y : V} {u : Value} {A : Around} {E : Value → Shared → Prop}
end
end L2
namespace Att
open PySem PySem.W PySem.Calls PyProof.Rows
theorem ints_of_wellAll {P : Params} {h : Heap} : ∀ (ns : List Int) (vs : List Value), WellAll P h vs (ns.map WData.int) → IntsAre vs ns := by
  intro ns
  induction ns with
  | nil =>
    intro vs w
    rw [List.map_nil] at w
    cases w
    exact .nil
  | cons n ns ih =>
    intro vs w
    rw [List.map_cons] at w
    cases w with
    | cons a b =>
      cases a
      exact .cons _ _ (ih _ b)
theorem script_of {l : OpenLaw} {n : Nat} (hn : l.most = some n) {P : Params} {h : Heap} {args : List WData} {vals : List Value}
    (hpre : l.row.toRowW.claim.pre args = true) (hwl : WellAll P h vals args) :
    ∃ a vs ns, vals = [Value.ref a] ∧ args = [WData.list (ns.map WData.int)] ∧ h.get? a = some { cls := .type "list", data := .seq vs.toArray } ∧ IntsAre vs ns ∧ ns.length ≤ n := by
  have hsh : WShape.hasAll [] args [.list .int] = true := (pre_splitW hpre).1
  have hc : l.pre.holds [] { args := args } = true := (pre_splitW hpre).2
  obtain ⟨d, r, rfl, h1, h2⟩ := hasAllW_cons hsh
  obtain rfl := hasAllW_nil h2
  obtain ⟨xs, rfl, h3⟩ := hasW_list h1
  obtain ⟨ns, rfl⟩ := items_int h3
  have hlen : ns.length ≤ n := by
    unfold OpenLaw.pre at hc
    have h4 : (WTm.not (.lt (.lit (.int (n : Int))) (.len (.arg 0)))).holds [] { args := [.list (ns.map .int)] } = true := by
      have h4 := (holds_andW hc).1
      rw [hn] at h4
      exact h4
    have h5 := condW_of h4 (w_not (w_lt w_lit (w_len_list (w_arg rfl))))
    rw [List.length_map] at h5
    refine Nat.le_of_not_lt fun q => ?_
    have q' : (n : Int) < ((ns.length : Nat) : Int) := by omega
    first
      | (rw [decide_eq_true q'] at h5; exact absurd h5 (by decide))
      | (simp at h5; omega)
  cases hwl with
  | cons w1 w2 =>
    cases w2
    cases w1 with
    | list ho hall => exact ⟨_, _, ns, rfl, rfl, ho, ints_of_wellAll ns _ hall, hlen⟩
theorem post_true (l : OpenLaw) (args : List WData) : l.row.toRowW.claim.post args (.bool true) args = true :=
  postW_of (r := l.row.toRowW) (X := (true == true))
    (show WShape.has [] (.bool true) .bool = true by first | rfl | decide | simp [WShape.has, WShape.arms, WShape.armsAll])
    (show (WTm.eq .res (.lit (.bool true))).value [] { args := args, res := some (.bool true), after := args } = some (.bool (true == true)) from w_eq_bool (w_res rfl) w_lit) rfl
theorem attach_call {l : OpenLaw} {n : Nat} {q : Program} {loose : List Str} {XP : (Str → Option Value) → Heap → Prop} {YP : World → Heap → Prop} {d : DefRec}
    (hn : l.most = some n) (hdf : d.params.defaults = [])
    (call : ∀ (w : World) (s₀ s₁ : Shared) (mg mb : Str → Option Value) (fa : Addr) (o : Obj) (pm cd doc : Value) (a : Addr) (vs : List Value) (ns : List Int),
      Ground q loose [] XP w s₀ mg mb s₁.heap → YP w s₁.heap →
      s₁.heap.get? fa = some o → o.data = .func (docDef d.name d.params d.body d.scope pm cd doc) → s₁.heap.CodeRec cd d.name → mg d.name = some (.ref fa) →
      s₁.heap.get? a = some { cls := .type "list", data := .seq vs.toArray } → IntsAre vs ns → ns.length ≤ n → s₁.gens = #[] →
      codeAny (model l.prog w) callerA (.call (.ref fa) ⟨[.ref a], []⟩) (fun r s' => r = .ok (.ret (.bool true)) ∧ OldK s₁.heap s'.heap ∧ s'.os = s₁.os ∧ AllBare s'.gens) s₁) :
    WalkO q loose XP YP l.row.toRowW d [] (fun f vs => PySem.call f vs) := by
  intro w s₀ s₁ mg mb G Y fa o pm cd doc dV kV ho hd hcd hD hmg hg args vals as hpre hlay hrd hwl hlo
  obtain rfl : dV = .none := Dflts.none hD hdf
  obtain rfl : kV = .none := Dflts.noKw hD
  obtain ⟨a, vs, ns, rfl, rfl, hobj, hints, hlen⟩ := script_of hn hpre hwl
  refine enter_call (codeAny_mono (call w s₀ s₁ mg mb fa o pm cd doc a vs ns G Y ho (fd_plain hd) hcd hmg hobj hints hlen hg) fun r s' hq => ?_)
  obtain ⟨rfl, h2, h3, h4⟩ := hq
  exact ⟨.inl ⟨.bool true, .bool true, [], rfl, fun _ => rfl, .bool true, post_true l _, fun _ => ⟨List.Pairwise.nil, fun _ hm => (nomatch hm)⟩⟩, h2, h3, h4⟩
section
variable {prog : Program} {w : World} {A : Around} {E : Value → Shared → Prop} {s : Shared} {K : Frag}
end
end Att
namespace L2
open PySem PySem.Spec PyProof.Rows
theorem vals_ints : ∀ {vs : List Value} {ns : List Int}, IntsAre vs ns → Vals (ns.map V.int) vs
  | _, _, .nil => .nil
  | _, _, .cons n t h => .cons ⟨t, rfl⟩ (vals_ints h)
def Only (H : Hp) : Prop := ∀ b, H b = none ∨ ∃ o xs, H b = some (.frz o (.lst xs))
theorem law_call {P : Program} {w : World} {K : PySem.W.Frag} {mg mb : Str → Option Value} {CX : CXT} {k : Nat} {fa a : Addr} {fd : FuncData} {x : Str} {sp : Sp} {s₁ : Shared} {vs : List Value} {ns : List Int}
    (KX : K.In s₁.heap) (hns : s₁.heap.Ns mainGlobals mg) (hb : s₁.heap.Ns builtinsNs mb) (hbb : ∀ x : Str, x ≠ "__name__" → mb x = bootBuiltins x) (hlim : s₁.heap.NoLimit) (hg : s₁.gens = #[])
    (ha : s₁.heap.get? a = some { cls := .type "list", data := .seq vs.toArray }) (hi : IntsAre vs ns) (hl : ns.length ≤ sizeLine) (hr : Room k callerA)
    (F : ∀ base : Heap, K.In base → base.Ns mainGlobals mg → FnOk P w K mg base CX k fa fd [x] sp) (hbind : ∀ (s : Shared) (u : Value), BindsTo s fd ⟨[u], []⟩ [(x, u)])
    (hsp : ∀ H : Hp, Only H → SqL K H a (ns.map V.int) → sp [.ref a] H (fun v _ => v = .bl true) fun _ _ _ => False)
    (hCX : ∀ H e s', CX [] H s₁ (fun _ _ _ => False) e s' → False) :
    codeAny (model P w) callerA (.call (.ref fa) ⟨[.ref a], []⟩) (fun r s' => r = .ok (.ret (.bool true)) ∧ OldK s₁.heap s'.heap ∧ s'.os = s₁.os ∧ AllBare s'.gens) s₁ := by
  have rv := vals_ints hi
  have lenV := hi.length
  -- from an abstract heap in which nothing but the script may be tracked
  have core : ∀ H : Hp, Only H → SqL K H a (ns.map V.int) → HOk P w H s₁.heap → (∀ b, H b ≠ none → b = a) → (H a ≠ none → K.lookup a = none) →
      codeAny (model P w) callerA (.call (.ref fa) ⟨[.ref a], []⟩) (fun r s' => r = .ok (.ret (.bool true)) ∧ OldK s₁.heap s'.heap ∧ s'.os = s₁.os ∧ AllBare s'.gens) s₁ := by
    intro H hO hS hok hA hK
    have base_of : ∀ {b : Addr} {o : Obj}, s₁.heap.get? b = some o → H b = none → (hidT s₁.heap H).get? b = some o := fun e n => hidT_get e n
    have noA : ∀ {b : Addr} {o : Obj} {es : Array DictEntry} {ep : Nat}, s₁.heap.get? b = some o → o.data = .dict es ep → H b = none := fun {b o es ep} e d => by
      cases q : H b with
      | none => rfl
      | some u =>
        have e' : b = a := hA b (by rw [q]; simp)
        subst e'
        rw [ha] at e; cases e
        have d' : Data.seq vs.toArray _ = Data.dict es ep := d
        cases d'
    have nsK : ∀ {b : Addr} {m : Str → Option Value}, s₁.heap.Ns b m → (hidT s₁.heap H).Ns b m := fun {b m} ⟨o, es, ep, e, d, r⟩ => ⟨o, es, ep, base_of e (noA e d), d, r⟩
    have hKb : K.In (hidT s₁.heap H) := fun b o e => base_of (KX b o e) (by
      cases q : H b with
      | none => rfl
      | some u =>
        have e' : b = a := hA b (by rw [q]; simp)
        subst e'
        rw [hK (by rw [q]; simp)] at e; cases e)
    have hM : Mod K mg (hidT s₁.heap H) := ⟨hKb, nsK hns, ⟨mb, nsK hb, hbb⟩, let ⟨mc, h1, h2⟩ := hlim; ⟨mc, nsK h1, h2⟩⟩
    have e0 : Env0 P w K mg (hidT s₁.heap H) callerA [] s₁ H := ⟨rfl, hM, fun b o e => of_hidT e, Nat.le_of_eq (hidT_size _ _), trivial, fun b hb => absurd (show b ∈ ([] : List Addr) from hb) (by simp), hok, .of_eq hg⟩
    refine codeAny_mono ((F _ hKb (nsK hns)).run callerA [] s₁ H ⟨[.ref a], []⟩ [.ref a] [.ref a] _ _ hr e0 (hbind s₁ (.ref a)) (.cons rfl .nil) (hsp H hO hS)) fun r s' h => ?_
    cases r with
    | error e => exact (hCX H e s' h).elim
    | ok fl =>
      cases fl with
      | next => exact False.elim h
      | brk => exact False.elim h
      | cont => exact False.elim h
      | ret u =>
        obtain ⟨v, H', os, bare, un, hok', r', q⟩ := h
        have q' : v = .bl true := q
        subst q'
        obtain rfl : u = Value.bool true := r'
        refine ⟨rfl, OldK.of_keep fun b o e => ?_, os, bare⟩
        cases q : H b with
        | none => exact un.keep b o e q (by intro z; exact absurd (show b ∈ ([] : List Addr) from z) (by simp)) (by simp)
        | some u =>
          rcases hO b with z | ⟨ob, xs, z⟩
          · rw [q] at z; cases z
          · have z2 := un.frzs b ob _ z
            obtain ⟨e1, _⟩ := hok b _ z
            obtain ⟨e2, _⟩ := hok' b _ z2
            rw [e] at e1; cases e1
            exact e2
  cases hk : K.lookup a with
  | some o =>
    -- the script is one of the module's own objects
    have e := KX a o hk
    rw [ha] at e
    cases e
    refine core (fun _ => none) (fun _ => .inl rfl) (.inr ⟨_, vs.toArray, _, hk, rfl, rfl, rfl, by rw [List.size_toArray, lenV]; exact hl, by simpa using rv⟩) (fun b u z => by have z' : (none : Option HO) = some u := z; cases z') (fun b z => absurd rfl z) fun z => absurd rfl z
  | none =>
    refine core (fun b => if b = a then some (.frz { cls := .type "list", data := .seq vs.toArray } (.lst (ns.map V.int))) else none) (fun b => ?_) (.inl (.inr ⟨{ cls := .type "list", data := .seq vs.toArray }, if_pos rfl⟩)) (fun b u z => ?_) (fun b z => ?_) fun _ => hk
    · by_cases hb : b = a
      · exact .inr ⟨_, _, if_pos hb⟩
      · exact .inl (if_neg hb)
    · by_cases hb : b = a
      · have z' := (if_pos hb).symm.trans z
        cases z'
        subst hb
        exact ⟨ha, by rw [List.length_map]; exact hl, vs, _, rv, ha⟩
      · have z' := (if_neg hb).symm.trans z
        cases z'
    · by_cases hb : b = a
      · exact hb
      · exact absurd (if_neg hb) z
end L2
namespace L2
open PySem PySem.Spec PyProof.Rows
end L2
/- THE LAST THEOREM (shape; LID, My.* are yours):
   My.Adr: a structure of the addresses that your layer names (classes, functions); My.Txt K t: a structure (Prop) of the equations over K;
   My.txt_mk : {K} {implicit addresses ..} (e1 : nsIn K mainGlobals "law" = some (some (.ref f))) (e2 : K.lookup f = some ⟨oc, od, .func (fnOf "law" "law" params body scope dV kV doc pm an cdv ct), sl⟩) (e3 : codeIn K cdv "law" = true) .. : ∃ t, My.Txt K t
set_option maxRecDepth 100000 in
set_option maxHeartbeats 0 in
theorem PySem.Challenge.cw_LID_holds : PySem.Challenge.rw_LID.Holds := by
  w_on; o_law; k_head; (case hw => w_witness2)
  k_fill
  refine L2.walk_of (l := PySem.Challenge.rw_LID) (n := 63) (k := 40) (x := "script") (CX := fun w => ..) (sp := fun _ => My.sp_law) rfl (by decide) rfl ⟨rfl, by decide, by decide⟩ (fun w h Y => PySem.W.kIn_of Y) ?F ?S ?C
  case F =>
    intro w mg fa h KX G hmg
    have T : ∃ t, My.Txt (L2.KOf KX) t := by
      dsimp only [L2.KOf]                          -- K must stand as «<heap const> w.params» for k_is
      refine' My.txt_mk ?e1 ?e2 ?e3 ..
      (case e1 => PySem.W.k_is)                    -- in the order: a name -> its address -> its object -> its parts
      (case e2 => PySem.W.k_is)
      ..
    obtain ⟨t, T⟩ := T
    have e0 := hmg.symm.trans (PySem.W.mg_of KX G T.law)
    cases e0                                       -- fa is the law's own address
    exact ⟨_, fun s u => .of_eq rfl, fun base kb nb => My.law_fn T kb nb⟩     -- if «.of_eq rfl» comes too early: refine' ⟨_, ?b, fun base kb nb => My.law_fn T kb nb⟩; exact fun s u => .of_eq rfl
  case S => exact fun w H a ns hl hO hS => ..
  case C => exact ..
(the tactic k_is has no namespace: write k_is) -/
namespace L2
open PySem PySem.Spec PyProof.Rows
def defArgs (s : Stmt) : Arguments := match s with
  | .FunctionDef _ a _ _ _ _ _ _ _ _ => a
  | _ => { posonlyargs := [], args := [], vararg := none, kwonlyargs := [], kw_defaults := [], kwarg := none, defaults := [] }
def defBody (s : Stmt) : List Stmt := match s with
  | .FunctionDef _ _ b _ _ _ _ _ _ _ => b
  | _ => []
def defScope (s : Stmt) : Scope := match s with
  | .FunctionDef _ _ _ _ _ _ sc _ _ _ => sc
  | _ => { kind := .function, names := [], isGenerator := false, isCoroutine := false }
abbrev CX0 : CXT := fun _ _ _ _ _ _ => False
abbrev E0 : XK := fun _ _ _ => False
theorem pass0 {X : Cx} : Passes CX0 X E0 := fun _ _ _ _ _ _ _ h => h.elim
structure Fun (K : PySem.W.Frag) (x qual : Str) (st : Stmt) (f : Addr) (fd : FuncData) : Prop where
  ex : ∃ (oc : Value) (od : Option Addr) (kV doc pm : Value) (an : Option Addr) (cdv ct : Value) (osl : Array (Option Value)),
    fd = PySem.W.fnOf x qual (defArgs st) (defBody st) (defScope st) .none kV doc pm an cdv ct ∧ K.lookup f = some ⟨oc, od, .func fd, osl⟩ ∧ PySem.W.codeIn K cdv qual = true
  kp : PySem.W.keepIn K (.ref f) = true
section
variable {P : Program} {w : World} {K : PySem.W.Frag} {mg : Str → Option Value} {base : Heap}
theorem Fun.ok {x qual : Str} {st : Stmt} {f : Addr} {fd : FuncData} {N ps : List Str} {k : Nat} {sp : Sp} (F : Fun K x qual st f fd) (S : FnScope N ps (defScope st)) (len : ∀ vs H Q E, sp vs H Q E → vs.length = ps.length)
    (hbody : ∀ (cdv : Value) (A : Around) (outer : List Env) (s : Shared) (H : Hp) (vs : List V) (Q : VK) (E : XK), Room k (A.deeper (envOfC qual (defScope st) s.heap.objs.size f cdv)) → sp vs H Q E →
      ∃ t, PSs (cxOf CX0 P w K mg base N qual (defScope st) f cdv A outer s H E).nox (defBody st) t ∧ t { nx := fun _ H' => Q .non H', rt := Q } (start N vs) H) : FnOk P w K mg base CX0 (k + 1) f fd ps sp := by
  obtain ⟨oc, od, kV, doc, pm, an, cdv, ct, osl, rfl, lk, hcd⟩ := F.ex
  refine fn_of lk hcd S len fun A outer s H vs Q E hr hsp => ?_
  obtain ⟨t, h, q⟩ := hbody cdv A outer s H vs Q E hr hsp
  exact ⟨t, h.nox, q⟩
end
theorem hu_of {A : Around} {k : Nat} (hr : Room k A) : A.units + 1 < cLine := Nat.lt_of_le_of_lt (Nat.add_le_add_left (by decide : 1 ≤ 64) _) hr.units
theorem small1000 {n : Nat} (h : n ≤ 1000) : n < sizeLine := Nat.lt_of_le_of_lt h (by decide)
section
variable {X : Cx}
theorem pv (i : Nat) {x : Str} {pos : Pos} (hN : X.N[i]? = some x := by rfl) (hv : Vis X.env.scope x := by first | exact Or.inl rfl | exact Or.inr (Or.inl rfl) | exact Or.inr (Or.inr rfl)) (hd : (x == ("__debug__" : Str)) = false := by decide)
    (hcd : (x == ("__classdict__" : Str)) = false := by decide) : PE X (.Name x pos) (tVar i) := pe_var hN hv hd hcd
end
theorem iteF {A B : Prop} (h : B) : if false = true then A else B := by
  rw [if_neg Bool.false_ne_true]
  exact h
theorem iteT {A B : Prop} (h : A) : if true = true then A else B := by
  rw [if_pos rfl]
  exact h
theorem ite2 {c A B : Prop} [Decidable c] (h1 : c → A) (h2 : ¬ c → B) : if c then A else B := by
  by_cases h : c
  · rw [if_pos h]
    exact h1 h
  · rw [if_neg h]
    exact h2 h
def Same (H H' : Hp) : Prop := ∀ b o, H b = some o → H' b = some o
theorem Same.refl (H : Hp) : Same H H := fun _ _ h => h
theorem Same.trans {H H1 H2 : Hp} (a : Same H H1) (b : Same H1 H2) : Same H H2 := fun c o h => b c o (a c o h)
theorem Same.free {H H' : Hp} (e : Same H H') {l : Addr} (h : H' l = Option.none) : H l = Option.none := by
  cases q : H l with
  | none => rfl
  | some o =>
    rw [e l o q] at h
    cases h
theorem Same.seq {K : PySem.W.Frag} {H H' : Hp} {a : Addr} {xs : List V} (e : Same H H') (h : SqL K H a xs) : SqL K H' a xs := by
  rcases h with (h | ⟨o, h⟩) | h
  · exact .inl (.inl (e _ _ h))
  · exact .inl (.inr ⟨o, e _ _ h⟩)
  · exact .inr h
section
variable {X : Cx}
end
section
variable {κ : Type} [DecidableEq κ]
end
end L2
set_option Elab.async false
set_option linter.all false
set_option maxRecDepth 100000
set_option maxHeartbeats 4000000
namespace L2
open PySem PySem.Spec PyProof.Rows
mutual
inductive Rp (K : PySem.W.Frag) (H : Hp) : V → PyData → Prop
  | non : Rp K H .non .none
  | bl (b : Bool) : Rp K H (.bl b) (.bool b)
  | int (i : Int) : Rp K H (.int i) (.int i)
  | str (x : Str) : Rp K H (.str x) (.str x)
  | lst {a : Addr} {xs : List V} {ds : List PyData} : H a = some (.lst xs) → RpL K H xs ds → Rp K H (.ref a) (.list ds)
  | tup {a : Addr} {xs : List V} {ds : List PyData} : H a = some (.tup xs) → RpL K H xs ds → Rp K H (.ref a) (.tuple ds)
inductive RpL (K : PySem.W.Frag) (H : Hp) : List V → List PyData → Prop
  | nil : RpL K H [] []
  | cons {x : V} {d : PyData} {xs : List V} {ds : List PyData} : Rp K H x d → RpL K H xs ds → RpL K H (x :: xs) (d :: ds)
end
mutual
theorem Rp.mono {K : PySem.W.Frag} {H H' : Hp} (g : Same H H') : ∀ {v : V} {d : PyData}, Rp K H v d → Rp K H' v d
  | _, _, .non => .non
  | _, _, .bl b => .bl b
  | _, _, .int i => .int i
  | _, _, .str x => .str x
  | _, _, .lst h r => .lst (g _ _ h) (RpL.mono g r)
  | _, _, .tup h r => .tup (g _ _ h) (RpL.mono g r)
theorem RpL.mono {K : PySem.W.Frag} {H H' : Hp} (g : Same H H') : ∀ {vs : List V} {ds : List PyData}, RpL K H vs ds → RpL K H' vs ds
  | _, _, .nil => .nil
  | _, _, .cons h r => .cons (Rp.mono g h) (RpL.mono g r)
end
mutual
theorem Rp.reads {X : Cx} {pins : List (Addr × Obj)} {σ : St} {H : Hp} {s : Shared} (I : Inv X pins σ H s) : ∀ {v : V} {d : PyData} {u : Value}, Rp X.K H v d → RelV v u → ∃ as, Reads s.heap u d as
  | _, _, _, .non, r => by cases r; exact ⟨_, .none⟩
  | _, _, _, .bl b, r => by cases r; exact ⟨_, .bool b⟩
  | _, _, _, .int i, r => by obtain ⟨t, rfl⟩ := r; exact ⟨_, .int i t⟩
  | _, _, _, .str x, r => by obtain ⟨t, rfl⟩ := r; exact ⟨_, .str x t⟩
  | _, _, _, .lst h q, r => by
    cases r
    obtain ⟨its, rv, ⟨o, n, e, hc, hd, hs⟩, _⟩ := I.list (SqL.of h)
    obtain ⟨as, ra⟩ := RpL.reads I q rv
    exact ⟨_, .list e hc hs (by simpa using ra)⟩
  | _, _, _, .tup h q, r => by
    cases r
    obtain ⟨its, rv, ⟨o, e, hc, n, hs⟩, _⟩ := I.tuple (SqT.of h)
    obtain ⟨as, ra⟩ := RpL.reads I q rv
    exact ⟨_, .tuple e hc hs (by simpa using ra)⟩
theorem RpL.reads {X : Cx} {pins : List (Addr × Obj)} {σ : St} {H : Hp} {s : Shared} (I : Inv X pins σ H s) : ∀ {vs : List V} {ds : List PyData} {us : List Value}, RpL X.K H vs ds → Vals vs us → ∃ as, ReadsAll s.heap us ds as
  | _, _, _, .nil, .nil => ⟨_, .nil⟩
  | _, _, _, .cons h q, .cons r t => by
    obtain ⟨as, ra⟩ := Rp.reads I h r
    obtain ⟨bs, rb⟩ := RpL.reads I q t
    exact ⟨_, .cons ra rb⟩
end
theorem same_new {H : Hp} {p : Addr} (h : H p = none) (o : HO) : Same H (upd H p o) := fun b u q => by rw [upd_ne (ne_of_none q h)]; exact q
section
variable {X : Cx}
def rEqD (K : PySem.W.Frag) : R2 := fun x y H Q => ∃ d e, Rp K H x d ∧ Rp K H y e ∧ SeqAt.shaped d = true ∧ SeqAt.shaped e = true ∧ Q (.bl (PyData.eqv d e)) H
def rNeD (K : PySem.W.Frag) : R2 := fun x y H Q => ∃ d e, Rp K H x d ∧ Rp K H y e ∧ SeqAt.shaped d = true ∧ SeqAt.shaped e = true ∧ Q (.bl (!PyData.eqv d e)) H
theorem op_eqD (hu : X.A.units + 64 < cLine) : OpR X (compareOp .Eq) (rEqD X.K) := by
  intro pins s σ H x y v u Q I rx ry h
  obtain ⟨d, e, hx, hy, sd, se, q⟩ := h
  obtain ⟨as, ra⟩ := hx.reads I rx
  obtain ⟨bs, rb⟩ := hy.reads I ry
  exact eq_dataH ra rb sd se hu ⟨.bl _, H, I, rfl, q⟩
theorem op_neD (hu : X.A.units + 64 < cLine) : OpR X (compareOp .NotEq) (rNeD X.K) := by
  intro pins s σ H x y v u Q I rx ry h
  obtain ⟨d, e, hx, hy, sd, se, q⟩ := h
  obtain ⟨as, ra⟩ := hx.reads I rx
  obtain ⟨bs, rb⟩ := hy.reads I ry
  exact ne_dataH ra rb sd se hu ⟨.bl _, H, I, rfl, q⟩
def rIsi (K : PySem.W.Frag) : List V → Hp → VK → Prop := fun xs H Q => ∃ x T t b, xs = [x, .ty T] ∧ TyOf K H x t ∧ PySem.W.kitOne K t (.type T) = some b ∧ Q (.bl b) H
theorem call_isinst : CallR X (.builtin "isinstance") (rIsi X.K) := by
  intro pins s σ H xs us Q I r h
  obtain ⟨x, T, t, b, rfl, ty, e, q⟩ := h
  obtain ⟨u, w, rfl, ru, rw'⟩ := vals2 r
  cases rw'
  exact isinst_ok I ru ty e fun tk => ⟨.bl b, H, I.tok _, rfl, q⟩
theorem pe_type {n : Str} {T : String} {pos : Pos} (hg : Gl X n) (hm : X.mg n = none) (hv : bootBuiltins n = some (.type T)) (hn : n ≠ "__name__" := by decide) (hd : (n == ("__debug__" : Str)) = false := by decide) : PE X (.Name n pos) (tC (.ty T)) :=
  pe_bltn hg hm hv rfl hn hd
end
def rIxG : R2 := fun x y H Q => ∃ p i xs v, x = .ref p ∧ y = .int i ∧ (H p = some (.tup xs) ∨ H p = some (.lst xs)) ∧ atI xs i = some v ∧ Q v H
theorem ix_g {X : Cx} : IxR X rIxG := by
  intro value slice pins s σ H x y v u Q I rx ry h hs
  obtain ⟨p, i, xs, z, rfl, rfl, hq, he, q⟩ := h
  rcases hq with hq | hq
  · exact ix_tup value slice pins s σ H _ _ v u Q I rx ry ⟨p, xs, i, z, rfl, rfl, SqT.of hq, he, q⟩ hs
  · exact ix_list value slice pins s σ H _ _ v u Q I rx ry ⟨p, xs, i, z, rfl, rfl, SqL.of hq, he, q⟩ hs
theorem atI_0 {α : Type} {a : α} {l : List α} : atI (a :: l) 0 = some a := atI_nat (j := 0) rfl
theorem atI_1 {α : Type} {a b : α} {l : List α} : atI (a :: b :: l) 1 = some b := atI_nat (j := 1) rfl
theorem atI_2 {α : Type} {a b c : α} {l : List α} : atI (a :: b :: c :: l) 2 = some c := atI_nat (j := 2) rfl
theorem atI_3 {α : Type} {a b c d : α} {l : List α} : atI (a :: b :: c :: d :: l) 3 = some d := atI_nat (j := 3) rfl
theorem atI_4 {α : Type} {a b c d e : α} {l : List α} : atI (a :: b :: c :: d :: e :: l) 4 = some e := atI_nat (j := 4) rfl
theorem atI_in {α : Type} {xs : List α} {i : Int} (h0 : 0 ≤ i) (h1 : i < xs.length) : ∃ v, atI xs i = some v ∧ v ∈ xs ∧ xs[i.toNat]? = some v := by
  have hk : i.toNat < xs.length := by omega
  have e : ((i.toNat : Nat) : Int) = i := by omega
  refine ⟨xs[i.toNat], ?_, List.getElem_mem hk, List.getElem?_eq_getElem hk⟩
  have := atI_nat (xs := xs) (j := i.toNat) (v := xs[i.toNat]) (List.getElem?_eq_getElem hk)
  rwa [e] at this
theorem fresh_any {H : Hp} {o : HO} {R : Addr → Hp → Prop} (h : ∀ p H', H p = none → Same H H' → H' p = some o → R p H') : ∀ p, H p = none → R p (upd H p o) := fun p hp => h p _ hp (same_new hp o) upd_same
theorem sz {n : Nat} (h : n ≤ 1000) : (n ≤ sizeLine) = True := eq_true (Nat.le_of_lt (small1000 h))
theorem mn1 {n : Nat} : min 1 (n + 1) = 1 := by omega
theorem mn2 {n : Nat} : min 2 (n + 2) = 2 := by omega
theorem na2 : Int.natAbs 2 = 2 := rfl
theorem na10 : Int.natAbs 10 = 10 := rfl
theorem sz0 : (0 ≤ sizeLine) = True := sz (by decide)
theorem sz1 : (1 ≤ sizeLine) = True := sz (by decide)
theorem sz2 : (2 ≤ sizeLine) = True := sz (by decide)
theorem sz3 : (3 ≤ sizeLine) = True := sz (by decide)
theorem sz4 : (4 ≤ sizeLine) = True := sz (by decide)
theorem sz5 : (5 ≤ sizeLine) = True := sz (by decide)
theorem sz6 : (6 ≤ sizeLine) = True := sz (by decide)
theorem ofString_inj {a b : String} : (Str.ofString a = Str.ofString b) = (a = b) := by
  apply propext
  constructor
  · intro h
    rw [Str.ofString_eq_toList, Str.ofString_eq_toList] at h
    injection h with h
    have h2 : a.toList.map Char.toNat = b.toList.map Char.toNat := by simpa using congrArg Array.toList h
    have inj : ∀ c d : Char, c.toNat = d.toNat → c = d := fun c d e => Char.ext (UInt32.toNat_inj.mp e)
    exact String.toList_inj.mp (List.map_inj_right (fun c d e => inj c d e) |>.mp h2)
  · rintro rfl; rfl
theorem RpL.nil_inv {K : PySem.W.Frag} {H : Hp} {vs : List V} (h : RpL K H vs []) : vs = [] := by cases h; rfl
theorem RpL.cons_inv {K : PySem.W.Frag} {H : Hp} {vs : List V} {d : PyData} {ds : List PyData} (h : RpL K H vs (d :: ds)) : ∃ x xs, vs = x :: xs ∧ Rp K H x d ∧ RpL K H xs ds := by cases h with | cons a b => exact ⟨_, _, rfl, a, b⟩
theorem Rp.str_inv {K : PySem.W.Frag} {H : Hp} {v : V} {x : Str} (h : Rp K H v (.str x)) : v = .str x := by cases h; rfl
theorem Rp.int_inv {K : PySem.W.Frag} {H : Hp} {v : V} {x : Int} (h : Rp K H v (.int x)) : v = .int x := by cases h; rfl
theorem Rp.tup_inv {K : PySem.W.Frag} {H : Hp} {v : V} {ds : List PyData} (h : Rp K H v (.tuple ds)) : ∃ a xs, v = .ref a ∧ H a = some (.tup xs) ∧ RpL K H xs ds := by cases h with | tup a b => exact ⟨_, _, rfl, a, b⟩
theorem Rp.lst_inv {K : PySem.W.Frag} {H : Hp} {v : V} {ds : List PyData} (h : Rp K H v (.list ds)) : ∃ a xs, v = .ref a ∧ H a = some (.lst xs) ∧ RpL K H xs ds := by cases h with | lst a b => exact ⟨_, _, rfl, a, b⟩
theorem Rp.tup1 {K : PySem.W.Frag} {H : Hp} {v : V} {d : PyData} (h : Rp K H v (.tuple [d])) : ∃ a x, v = .ref a ∧ H a = some (.tup [x]) ∧ Rp K H x d := by
  obtain ⟨a, xs, rfl, ha, r⟩ := h.tup_inv
  obtain ⟨x, xs, rfl, hx, r⟩ := r.cons_inv
  cases r.nil_inv
  exact ⟨a, x, rfl, ha, hx⟩
theorem Rp.tup2 {K : PySem.W.Frag} {H : Hp} {v : V} {d e : PyData} (h : Rp K H v (.tuple [d, e])) : ∃ a x y, v = .ref a ∧ H a = some (.tup [x, y]) ∧ Rp K H x d ∧ Rp K H y e := by
  obtain ⟨a, xs, rfl, ha, r⟩ := h.tup_inv
  obtain ⟨x, xs, rfl, hx, r⟩ := r.cons_inv
  obtain ⟨y, xs, rfl, hy, r⟩ := r.cons_inv
  cases r.nil_inv
  exact ⟨a, x, y, rfl, ha, hx, hy⟩
theorem Rp.tup3 {K : PySem.W.Frag} {H : Hp} {v : V} {d e f : PyData} (h : Rp K H v (.tuple [d, e, f])) : ∃ a x y z, v = .ref a ∧ H a = some (.tup [x, y, z]) ∧ Rp K H x d ∧ Rp K H y e ∧ Rp K H z f := by
  obtain ⟨a, xs, rfl, ha, r⟩ := h.tup_inv
  obtain ⟨x, xs, rfl, hx, r⟩ := r.cons_inv
  obtain ⟨y, xs, rfl, hy, r⟩ := r.cons_inv
  obtain ⟨z, xs, rfl, hz, r⟩ := r.cons_inv
  cases r.nil_inv
  exact ⟨a, x, y, z, rfl, ha, hx, hy, hz⟩
def keyOf : V → Option Key
  | .int i => some (.inl i)
  | .str x => some (.inr x)
  | _ => none
theorem kV_of {y : V} {k : Key} (h : keyOf y = some k) : y = kV k := by
  cases y <;> simp only [keyOf, Option.some.injEq, reduceCtorEq] at h <;> subst h <;> rfl
section
variable {X : Cx} {i o e value : Expr} {ty td te tv : TE} {pos pos' apos cpos : Pos}
def tDInG (ty td : TE) : TE := fun σ H Q => ty σ H fun y H1 => td σ H1 fun x H2 => ∃ a kvs k, x = .ref a ∧ H2 a = some (.dK kvs) ∧ keyOf y = some k ∧ Q (.bl (valV kvs k).isSome) H2
def tDNotInG (ty td : TE) : TE := fun σ H Q => ty σ H fun y H1 => td σ H1 fun x H2 => ∃ a kvs k, x = .ref a ∧ H2 a = some (.dK kvs) ∧ keyOf y = some k ∧ Q (.bl (!(valV kvs k).isSome)) H2
def tDGetG (td ty : TE) : TE := fun σ H Q => td σ H fun x H1 => ty σ H1 fun y H2 => ∃ a kvs k v, x = .ref a ∧ H2 a = some (.dK kvs) ∧ keyOf y = some k ∧ valV kvs k = some v ∧ Q v H2
def sDPutG (td ty tv : TE) : TS := fun D σ H => tv σ H fun v H1 => td σ H1 fun x H2 => ty σ H2 fun y H3 => ∃ a kvs k, x = .ref a ∧ H3 a = some (.dK kvs) ∧ keyOf y = some k ∧ kvs.length < sizeLine ∧ D.nx σ (upd H3 a (.dK (putK kvs k v)))
theorem pe_dgetG (hu : X.A.units + 1 < cLine) (ho : PE X o td) (hi : PE X i ty) (hs : NoSl i) : PE X (.Subscript o i pos) (tDGetG td ty) := by
  intro pins s σ H Q I h
  refine subD_of PySem.F.slot_dict_getitem.lookup hs (thn (ho pins s σ H _ I h) fun u s1 ⟨x, H1, I1, rx, q1⟩ => thn (hi pins s1 σ H1 _ I1 q1) fun iv s2 ⟨y, H2, I2, ry, a, kvs, k, v, ex, ha, ek, ev, q2⟩ => ?_)
  subst ex
  obtain rfl : u = Value.ref a := rx
  have g : DGet H2 a y (some v) := by rw [kV_of ek, ← ev]; exact DGet.k ha
  exact ⟨dict_typeIs I2 g, d_getItem hu I2 g ry fun w' s3 I3 rw' => ⟨v, H2, I3, rw', q2⟩⟩
theorem pc_dnotinG (hu : X.A.units + 1 < cLine) (hi : PE X i ty) (ho : PE X o td) : PC X .NotIn i o (tDNotInG ty td) := by
  intro pins s σ H Q I h
  refine thn (hi pins s σ H _ I h) fun iv s1 ⟨y, H1, I1, ry, q1⟩ => thn (ho pins s1 σ H1 _ I1 q1) fun u s2 ⟨x, H2, I2, rx, a, kvs, k, ex, ha, ek, q2⟩ => ?_
  subst ex
  obtain rfl : u = Value.ref a := rx
  have g : DGet H2 a y (valV kvs k) := by rw [kV_of ek]; exact DGet.k ha
  exact d_notIn hu I2 g ry fun s3 I3 => ⟨.bl _, H2, I3, rfl, q2⟩
theorem ps_dputG (hu : X.A.units + 1 < cLine) (ho : PE X o td) (hi : PE X i ty) (hv : PE X value tv) (hs : swapsWith value (some (.Subscript o i pos')) pos.line X.env = pure false := by rfl) :
    PS X (.Assign [.Subscript o i pos'] value pos) (sDPutG td ty tv) := by
  intro pins s σ H D I h
  refine wpAny_Assign_Subscript (thn (hv pins s σ H _ I h) fun r s1 ⟨v, H1, I1, rv, q1⟩ => thn (ho pins s1 σ H1 _ I1 q1) fun u s2 ⟨x, H2, I2, rx, q2⟩ => thn (hi pins s2 σ H2 _ I2 q2) fun iv s3 ⟨y, H3, I3, ry, a, kvs, k, ex, ha, ek, hz, q3⟩ => ?_) hs
  subst ex
  obtain rfl : u = Value.ref a := rx
  have g : DPut H3 a y v (upd H3 a (.dK (putK kvs k v))) := by rw [kV_of ek]; exact DPut.k ha hz
  exact d_setItem hu I3 g ry rv fun s4 I4 => ⟨σ, _, I4, q3⟩
def tApp (to te : TE) : TE := fun σ H Q => to σ H fun x H1 => ∃ l xs, x = .ref l ∧ H1 l = some (.lst xs) ∧ te σ H1 fun y H2 => rAppend (.ref l) [y] H2 Q
theorem pe_app (ho : PE X o td) (he : PE X e te)
    (hbase : attributeBase o "append" X.env (eval o X.env) = eval o X.env := by rfl)
    (hfew : ((backTo cpos (starEach [e] X.env)).all (fun x => !x.1) && (backToKw cpos (keywordEach [] X.env)).all (fun x => x.1.isSome)
      && decide ([e].length + ([] : List Keyword).length + (if ([] : List Keyword).isEmpty then 0 else 1) < 30)) = true := by rfl)
    (hline : (apos.endLine == cpos.line) = true := by rfl) (hs : starEach [e] X.env = [(false, eval e X.env)] := by rfl) :
    PE X (.Call (.Attribute o "append" apos) [e] [] cpos) (tApp td te) := by
  intro pins s σ H Q I h
  refine wpAny_Call_method_late hbase hfew hline rfl (thn (ho pins s σ H _ I h) fun v s1 ⟨x, H1, I1, r1, l, xs, ex, hl, q1⟩ => ?_)
  subst ex
  obtain ⟨h1, h2⟩ := tyV_is (T := "list") I1 r1 (Or.inl ⟨rfl, xs, SqL.of hl⟩)
  refine ⟨"list", _, PySem.F.plainAttrs_list, PySem.F.slot_list_append, PySem.F.type_list_append, h1, h2, ?_⟩
  have hA := (pa_cons he pa_nil (hs := by rw [hs]; rfl)) cpos pins s1 σ H1 (fun vs H2 => rAppend (.ref l) vs H2 Q) I1 q1
  rw [hs] at hA ⊢
  refine Calls.callWith_builtin (by rfl) (Calls.evalArgs_plain ?_)
  exact thn hA fun us s2 ⟨vs, H2, I2, r2, q2⟩ => mt_append pins s2 σ H2 _ vs v us Q I2 r1 r2 q2
end
theorem scal_ss {a b : Str} : scal (.str a) (.str b) = true := rfl
theorem scal_ii {a b : Int} : scal (.int a) (.int b) = true := rfl
theorem scal_bb {a b : Bool} : scal (.bl a) (.bl b) = true := rfl
theorem scal_nn : scal .non .non = true := rfl
theorem scal_ns {b : Str} : scal .non (.str b) = true := rfl
theorem scal_sn {b : Str} : scal (.str b) .non = true := rfl
theorem scal_ni {b : Int} : scal .non (.int b) = true := rfl
theorem scal_in {b : Int} : scal (.int b) .non = true := rfl
theorem keyOf_s {a : Str} : keyOf (.str a) = some (.inr a) := rfl
theorem keyOf_i {a : Int} : keyOf (.int a) = some (.inl a) := rfl
theorem flat_s {a : Str} : flatV (.str a) = true := rfl
theorem flat_i {a : Int} : flatV (.int a) = true := rfl
theorem flat_n : flatV .non = true := rfl
theorem flat_b {a : Bool} : flatV (.bl a) = true := rfl
theorem inV_nil {x : V} : inV x [] = false := rfl
theorem inV_cons {x y : V} {l : List V} : inV x (y :: l) = (eqV y x || inV x l) := rfl
theorem eqV_ss {a b : Str} : eqV (.str a) (.str b) = decide (a = b) := by
  show (a == b) = _
  rw [Bool.eq_iff_iff]; simp
theorem eqV_ii {a b : Int} : eqV (.int a) (.int b) = decide (a = b) := by
  show (a == b) = _
  rw [Bool.eq_iff_iff]; simp
theorem cx_K {CX : CXT} {P : Program} {w : World} {K : PySem.W.Frag} {mg : Str → Option Value} {base : Heap} {N : List Str} {qual : Str} {scope : Scope} {f : Addr} {cd : Value} {A : Around} {outer : List Env} {s : Shared} {H : Hp} {E : XK} : (cxOf CX P w K mg base N qual scope f cd A outer s H E).K = K := rfl
section
variable {X : Cx}
def rInG (neg : Bool) : R2 := fun x y H Q => ∃ p xs, y = .ref p ∧ (H p = some (.tup xs) ∨ H p = some (.lst xs)) ∧ flatV x = true ∧ xs.all flatV = true ∧ Q (.bl (if neg then !inV x xs else inV x xs)) H
theorem op_inG : OpR X (compareOp .In) (rInG false) := by
  intro pins s σ H x y v u Q I rx ry h
  obtain ⟨p, xs, rfl, hq, fx, fs, q⟩ := h
  exact op_in_seq pins s σ H x _ v u Q I rx ry ⟨p, xs, rfl, hq.symm.imp SqL.of SqT.of, fx, fs, q⟩
theorem op_notInG : OpR X (compareOp .NotIn) (rInG true) := by
  intro pins s σ H x y v u Q I rx ry h
  obtain ⟨p, xs, rfl, hq, fx, fs, q⟩ := h
  exact op_notIn_seq pins s σ H x _ v u Q I rx ry ⟨p, xs, rfl, hq.symm.imp SqL.of SqT.of, fx, fs, q⟩
def gTupG (n : Nat) (t : TGs) : TG := fun v σ H Q => ∃ a xs, v = .ref a ∧ H a = some (.tup xs) ∧ xs.length = n ∧ t xs σ H Q
theorem pg_tupG {es : List Expr} {k : Nat} {t : TGs} {pos : Pos} (n : Nat) (hc : X.calm = true) (h : PGs X es t)
    (hn : (assignEach es X.env).length = n := by rfl) (hst : (assignEach es X.env).findIdx? (·.1) = none := by rfl) : PG X (.Tuple es k pos) (gTupG n t) := by
  intro pins s σ H v u Q I r hw
  obtain ⟨a, xs, e1, hq, hl, hw⟩ := hw
  exact pg_tup hc h hn hst pins s σ H v u Q I r ⟨a, xs, e1, SqT.of hq, hl, hw⟩
def tM (t : TE) : TE := fun σ H Q => ∃ Q1 : VK, t σ H Q1 ∧ ∀ v H', Q1 v H' → Q v H'
theorem PE.up {e : Expr} {t : TE} (h : PE X e t) : PE X e (tM t) := by
  intro pins s σ H Q I hq
  obtain ⟨Q1, h1, h2⟩ := hq
  exact thn (h pins s σ H Q1 I h1) fun u s' ⟨v, H', I', r, q⟩ => ⟨v, H', I', r, h2 v H' q⟩
def rSlG : V → Option Int → Option Int → Hp → VK → Prop := fun x lo hi H Q => ∃ a xs, x = .ref a ∧
  ((H a = some (.tup xs) ∧ ¬ (HT.sIx xs.length 0 lo = 0 ∧ HT.sIx xs.length xs.length hi = xs.length) ∧ ∀ p H', H p = none → Same H H' → H' p = some (.tup (cutV xs lo hi)) → Q (.ref p) H') ∨
   (H a = some (.lst xs) ∧ ∀ p H', H p = none → Same H H' → H' p = some (.lst (cutV xs lo hi)) → Q (.ref p) H'))
theorem sl_g : SlR X rSlG := by
  intro pins s σ H x v vl vu lo hi sl Q I rx hs pl pu h
  obtain ⟨a, xs, rfl, ⟨ha, hn, q⟩ | ⟨ha, q⟩⟩ := h
  · exact sl_tup pins s σ H _ v vl vu lo hi sl Q I rx hs pl pu ⟨a, xs, rfl, SqT.of ha, hn, fresh_any q⟩
  · exact sl_list pins s σ H _ v vl vu lo hi sl Q I rx hs pl pu ⟨a, xs, rfl, SqL.of ha, fresh_any q⟩
def rSlK (K : PySem.W.Frag) : V → Option Int → Option Int → Hp → VK → Prop := fun x lo hi H Q => ∃ a xs, x = .ref a ∧ SqL K H a xs ∧ ∀ p H', H p = none → Same H H' → H' p = some (.lst (cutV xs lo hi)) → Q (.ref p) H'
theorem sl_k : SlR X (rSlK X.K) := by
  intro pins s σ H x v vl vu lo hi sl Q I rx hs pl pu h
  obtain ⟨a, xs, rfl, ha, q⟩ := h
  exact sl_list pins s σ H _ v vl vu lo hi sl Q I rx hs pl pu ⟨a, xs, rfl, ha, fresh_any q⟩
def tMA (t : TA) : TA := fun σ H Q => ∃ Q1 : List V → Hp → Prop, t σ H Q1 ∧ ∀ vs H', Q1 vs H' → Q vs H'
theorem PA.up {es : List Expr} {t : TA} (h : PA X es t) : PA X es (tMA t) := by
  intro pos pins s σ H Q I hq
  obtain ⟨Q1, h1, h2⟩ := hq
  exact thn (h pos pins s σ H Q1 I h1) fun us s' ⟨vs, H', I', r, q⟩ => ⟨vs, H', I', r, h2 vs H' q⟩
def tTupG (t : TA) : TE := fun σ H Q => t σ H fun xs H1 => xs.length ≤ sizeLine ∧ ∀ p H', H1 p = none → Same H1 H' → H' p = some (.tup xs) → Q (.ref p) H'
def tLstG (t : TA) : TE := fun σ H Q => t σ H fun xs H1 => xs.length ≤ sizeLine ∧ ∀ p H', H1 p = none → Same H1 H' → H' p = some (.lst xs) → Q (.ref p) H'
theorem pe_tupG {es : List Expr} {t : TA} {pos : Pos} {x1} (h : PA X es t) : PE X (.Tuple es x1 pos) (tTupG t) := fun pins s σ H Q I hq =>
  pe_tup h.up pins s σ H Q I ⟨_, hq, fun _ _ q => ⟨q.1, fresh_any q.2⟩⟩
theorem pe_lstG {es : List Expr} {t : TA} {pos : Pos} (h : PA X es t) : PE X (.List es pos) (tLstG t) := fun pins s σ H Q I hq =>
  pe_lst h.up pins s σ H Q I ⟨_, hq, fun _ _ q => ⟨q.1, fresh_any q.2⟩⟩
def tDNewG : TE := fun _ H Q => ∀ p H', H p = none → Same H H' → H' p = some (.dK []) → Q (.ref p) H'
theorem pe_dnewG {pos : Pos} : PE X (.Dict [] [] pos) tDNewG := fun pins s σ H Q I h => pe_dnewK pins s σ H Q I (fresh_any h)
def rDictG : List V → Hp → VK → Prop := fun xs H Q => ∃ a kvs, xs = [.ref a] ∧ H a = some (.dK kvs) ∧ ∀ p H', H p = none → Same H H' → H' p = some (.dK kvs) → Q (.ref p) H'
structure Mu (H : Hp) (l : Addr) (o : HO) (H' : Hp) : Prop where
  at_ : H' l = some o
  else_ : ∀ a, a ≠ l → H' a = H a
theorem Mu.mk' {H : Hp} {l : Addr} {o : HO} : Mu H l o (upd H l o) := ⟨upd_same, fun _ h => upd_ne h⟩
theorem Mu.old {H H' : Hp} {l a : Addr} {o u : HO} (m : Mu H l o H') (h : H a = some u) (n : a ≠ l) : H' a = some u := by rw [m.else_ a n]; exact h
theorem Mu.same {H0 H H' : Hp} {l : Addr} {o : HO} (m : Mu H l o H') (g : Same H0 H) (n : H0 l = none) : Same H0 H' := fun a u h => m.old (g a u h) (ne_of_none h n)
def tAppG (to te : TE) : TE := fun σ H Q => to σ H fun x H1 => ∃ l xs, x = .ref l ∧ H1 l = some (.lst xs) ∧ te σ H1 fun y H2 => ∃ ys, H2 l = some (.lst ys) ∧ ys.length < sizeLine ∧ ∀ H3, Mu H2 l (.lst (ys ++ [y])) H3 → Q .non H3
theorem pe_appG {o e : Expr} {td te : TE} {apos cpos : Pos} (ho : PE X o td) (he : PE X e te)
    (hbase : attributeBase o "append" X.env (eval o X.env) = eval o X.env := by rfl)
    (hfew : ((backTo cpos (starEach [e] X.env)).all (fun x => !x.1) && (backToKw cpos (keywordEach [] X.env)).all (fun x => x.1.isSome)
      && decide ([e].length + ([] : List Keyword).length + (if ([] : List Keyword).isEmpty then 0 else 1) < 30)) = true := by rfl)
    (hline : (apos.endLine == cpos.line) = true := by rfl) (hs : starEach [e] X.env = [(false, eval e X.env)] := by rfl) :
    PE X (.Call (.Attribute o "append" apos) [e] [] cpos) (tAppG td te) := fun pins s σ H Q I h =>
  pe_app ho.up he.up hbase hfew hline hs pins s σ H Q I ⟨_, h, fun _ _ ⟨l, xs, e1, h1, q⟩ => ⟨l, xs, e1, h1, _, q, fun y _ ⟨ys, h2, hz, q⟩ => ⟨l, ys, y, rfl, rfl, h2, hz, q _ .mk'⟩⟩⟩
def sDPutG2 (td ty tv : TE) : TS := fun D σ H => tv σ H fun v H1 => td σ H1 fun x H2 => ty σ H2 fun y H3 => ∃ a kvs k, x = .ref a ∧ H3 a = some (.dK kvs) ∧ keyOf y = some k ∧ kvs.length < sizeLine ∧ ∀ H4, Mu H3 a (.dK (putK kvs k v)) H4 → D.nx σ H4
theorem ps_dputG2 {i o value : Expr} {ty td tv : TE} {pos pos' : Pos} (hu : X.A.units + 1 < cLine) (ho : PE X o td) (hi : PE X i ty) (hv : PE X value tv) (hs : swapsWith value (some (.Subscript o i pos')) pos.line X.env = pure false := by rfl) :
    PS X (.Assign [.Subscript o i pos'] value pos) (sDPutG2 td ty tv) := fun pins s σ H D I h =>
  ps_dputG hu ho.up hi.up hv.up hs pins s σ H D I ⟨_, h, fun _ _ q => ⟨_, q, fun _ _ q => ⟨_, q, fun _ _ ⟨a, kvs, k, e1, e2, e3, e4, q⟩ => ⟨a, kvs, k, e1, e2, e3, e4, q _ .mk'⟩⟩⟩⟩
def pairsOf : List (V × V) → Option (List (Key × V))
  | [] => some []
  | (x, y) :: r => (keyOf x).bind fun k => (pairsOf r).bind fun l => some ((k, y) :: l)
theorem pairsOf_map : ∀ {ps : List (V × V)} {kvs : List (Key × V)}, pairsOf ps = some kvs → ps = kvs.map fun kv => (kV kv.1, kv.2)
  | [], kvs, h => by cases h; rfl
  | (x, y) :: r, kvs, h => by
    cases hk : keyOf x with
    | none => simp [pairsOf, hk] at h
    | some k =>
      cases hr : pairsOf r with
      | none => simp [pairsOf, hk, hr] at h
      | some l =>
        simp [pairsOf, hk, hr] at h
        subst h
        rw [List.map_cons, ← pairsOf_map hr, ← kV_of hk]
def tDispG (trs : List (TE × TE)) : TE := fun σ H Q => ∀ p H', H p = none → Same H H' → H' p = some (.dK []) → tPairs trs σ H' fun ps H2 => H2 p = some (.dK []) ∧ ∃ kvs, pairsOf ps = some kvs ∧ kvs.length ≤ 15 ∧ ∀ H3, Mu H2 p (.dK (mergeK [] kvs)) H3 → Q (.ref p) H3
theorem pe_dispG {pos : Pos} {keys : List (Option Expr)} {values : List Expr} {trs : List (TE × TE)} (h : PPs X pos keys values trs) (hall : keys.all (·.isSome) = true) (hl : keys.length = values.length) (h0 : keys ≠ [])
    (h15 : keys.length ≤ 15) : PE X (.Dict keys values pos) (tDispG trs) := by
  intro pins s σ H Q I q
  have hn := I.hok.fresh (Nat.le_refl s.heap.objs.size)
  have I1 := I.laid (a := s.heap.objs.size) (o := .dK []) (h' := s.heap.push { cls := .type "dict", data := .dict #[] }) (t' := s.toks) (fun _ _ q => Heap.get?_push_of_some _ q) (Nat.le_refl _) (dk_empty s.heap I.big)
  refine wpAny_Dict_walk (knd := mixKind X.prog X.w) hall hl h0 h15 (thn (h pins _ σ _ _ I1 (q _ _ hn (same_new hn _) upd_same)) fun ws s2 ⟨ps, H2, I2, rel, e, kvs, ep, lk, q2⟩ => ?_)
  have ep := pairsOf_map ep
  subst ep
  obtain ⟨rs, c, rk⟩ := carries_of (P := X.prog) (w := X.w) rel
  obtain ⟨z, hd, vs0, r0, dd⟩ := dk_of I2.hok e
  cases r0
  refine ⟨rs, c, dd, fun h' dd' hs => ⟨.ref s.heap.objs.size, _, ?_, rfl, q2 _ .mk'⟩⟩
  have hz : (mergeK [] kvs).length ≤ sizeLine := by
    have h1 := length_mergeK kvs []
    rw [List.length_nil] at h1
    rw [sizeLine_eq]; omega
  have he : ∃ q, h'.get? s.heap.objs.size = some q := let ⟨q, _, _, hq, _⟩ := dd'; ⟨q, hq⟩
  exact d_write I2 (by rw [e]; exact True.intro) hs he (dk_new hz hd (rk.merge .nil) dd')
def turns (a : Addr) (o : HO) (g : TG) (tb : TS) (D : Ends) : List V → St → Hp → Prop
  | [], σ, H => H a = some o ∧ D.nx σ H
  | x :: r, σ, H => H a = some o ∧ g x σ H fun σ2 H2 => tb { D with nx := turns a o g tb D r, ct := turns a o g tb D r, bk := D.nx } σ2 H2
def tForT (tl : TE) (g : TG) (tb : TS) : TS := fun D σ H => tl σ H fun x H1 => ∃ a xs, x = .ref a ∧ H1 a = some (.tup xs) ∧ turns a (.tup xs) g tb D xs σ H1
def tForL (tl : TE) (g : TG) (tb : TS) : TS := fun D σ H => tl σ H fun x H1 => ∃ a xs, x = .ref a ∧ H1 a = some (.lst xs) ∧ turns a (.lst xs) g tb D xs σ H1
end
def hoT : HO → Option String
  | .lst _ => some "list"
  | .tup _ => some "tuple"
  | .dK _ => some "dict"
  | _ => none
def tyG (H : Hp) : V → Option String
  | .non => some "NoneType"
  | .bl _ => some "bool"
  | .int _ => some "int"
  | .str _ => some "str"
  | .ref a => (H a).bind hoT
  | _ => none
theorem tyG_n {H : Hp} : tyG H .non = some "NoneType" := rfl
theorem tyG_b {H : Hp} {x : Bool} : tyG H (.bl x) = some "bool" := rfl
theorem tyG_i {H : Hp} {x : Int} : tyG H (.int x) = some "int" := rfl
theorem tyG_s {H : Hp} {x : Str} : tyG H (.str x) = some "str" := rfl
theorem tyG_r {H : Hp} {a : Addr} : tyG H (.ref a) = (H a).bind hoT := rfl
theorem hoT_l {xs : List V} : hoT (.lst xs) = some "list" := rfl
theorem hoT_t {xs : List V} : hoT (.tup xs) = some "tuple" := rfl
theorem hoT_d {xs : List (Key × V)} : hoT (.dK xs) = some "dict" := rfl
theorem tyOf_of {K : PySem.W.Frag} {H : Hp} {x : V} {t : String} (h : tyG H x = some t) : TyOf K H x (.type t) := by
  cases x with
  | non => cases h; exact .non
  | bl b => cases h; exact .bl b
  | int b => cases h; exact .int b
  | str b => cases h; exact .str b
  | ref a =>
    rw [tyG_r] at h
    cases e : H a with
    | none => rw [e] at h; cases h
    | some o =>
      rw [e] at h
      cases o with
      | lst xs => cases h; exact .lst e
      | tup xs => cases h; exact .tup e
      | dK xs => cases h; exact .dK e
      | _ => cases h
  | _ => cases h
def rIsiG (K : PySem.W.Frag) : List V → Hp → VK → Prop := fun xs H Q => ∃ x T t b, xs = [x, .ty T] ∧ tyG H x = some t ∧ PySem.W.kitOne K (.type t) (.type T) = some b ∧ Q (.bl b) H
theorem call_isinstG {X : Cx} : CallR X (.builtin "isinstance") (rIsiG X.K) := by
  intro pins s σ H xs us Q I r h
  obtain ⟨x, T, t, b, e1, e2, e3, q⟩ := h
  exact call_isinst pins s σ H xs us Q I r ⟨x, T, _, b, e1, tyOf_of e2, e3, q⟩
theorem kit_ii {K : PySem.W.Frag} : PySem.W.kitOne K (.type "int") (.type "int") = some true := rfl
theorem kit_it {K : PySem.W.Frag} : PySem.W.kitOne K (.type "int") (.type "tuple") = some false := rfl
theorem kit_il {K : PySem.W.Frag} : PySem.W.kitOne K (.type "int") (.type "list") = some false := rfl
theorem kit_is {K : PySem.W.Frag} : PySem.W.kitOne K (.type "int") (.type "str") = some false := rfl
theorem kit_ib {K : PySem.W.Frag} : PySem.W.kitOne K (.type "int") (.type "bool") = some false := rfl
theorem kit_id {K : PySem.W.Frag} : PySem.W.kitOne K (.type "int") (.type "dict") = some false := rfl
theorem kit_ni {K : PySem.W.Frag} : PySem.W.kitOne K (.type "NoneType") (.type "int") = some false := rfl
theorem kit_nt {K : PySem.W.Frag} : PySem.W.kitOne K (.type "NoneType") (.type "tuple") = some false := rfl
theorem kit_nl {K : PySem.W.Frag} : PySem.W.kitOne K (.type "NoneType") (.type "list") = some false := rfl
theorem kit_ns {K : PySem.W.Frag} : PySem.W.kitOne K (.type "NoneType") (.type "str") = some false := rfl
theorem kit_nb {K : PySem.W.Frag} : PySem.W.kitOne K (.type "NoneType") (.type "bool") = some false := rfl
theorem kit_nd {K : PySem.W.Frag} : PySem.W.kitOne K (.type "NoneType") (.type "dict") = some false := rfl
theorem kit_ti {K : PySem.W.Frag} : PySem.W.kitOne K (.type "tuple") (.type "int") = some false := rfl
theorem kit_tt {K : PySem.W.Frag} : PySem.W.kitOne K (.type "tuple") (.type "tuple") = some true := rfl
theorem kit_tl {K : PySem.W.Frag} : PySem.W.kitOne K (.type "tuple") (.type "list") = some false := rfl
theorem kit_ts {K : PySem.W.Frag} : PySem.W.kitOne K (.type "tuple") (.type "str") = some false := rfl
theorem kit_tb {K : PySem.W.Frag} : PySem.W.kitOne K (.type "tuple") (.type "bool") = some false := rfl
theorem kit_td {K : PySem.W.Frag} : PySem.W.kitOne K (.type "tuple") (.type "dict") = some false := rfl
theorem kit_li {K : PySem.W.Frag} : PySem.W.kitOne K (.type "list") (.type "int") = some false := rfl
theorem kit_lt {K : PySem.W.Frag} : PySem.W.kitOne K (.type "list") (.type "tuple") = some false := rfl
theorem kit_ll {K : PySem.W.Frag} : PySem.W.kitOne K (.type "list") (.type "list") = some true := rfl
theorem kit_ls {K : PySem.W.Frag} : PySem.W.kitOne K (.type "list") (.type "str") = some false := rfl
theorem kit_lb {K : PySem.W.Frag} : PySem.W.kitOne K (.type "list") (.type "bool") = some false := rfl
theorem kit_ld {K : PySem.W.Frag} : PySem.W.kitOne K (.type "list") (.type "dict") = some false := rfl
theorem kit_si {K : PySem.W.Frag} : PySem.W.kitOne K (.type "str") (.type "int") = some false := rfl
theorem kit_st {K : PySem.W.Frag} : PySem.W.kitOne K (.type "str") (.type "tuple") = some false := rfl
theorem kit_sl {K : PySem.W.Frag} : PySem.W.kitOne K (.type "str") (.type "list") = some false := rfl
theorem kit_ss {K : PySem.W.Frag} : PySem.W.kitOne K (.type "str") (.type "str") = some true := rfl
theorem kit_sb {K : PySem.W.Frag} : PySem.W.kitOne K (.type "str") (.type "bool") = some false := rfl
theorem kit_sd {K : PySem.W.Frag} : PySem.W.kitOne K (.type "str") (.type "dict") = some false := rfl
theorem kit_bi {K : PySem.W.Frag} : PySem.W.kitOne K (.type "bool") (.type "int") = some true := rfl
theorem kit_bt {K : PySem.W.Frag} : PySem.W.kitOne K (.type "bool") (.type "tuple") = some false := rfl
theorem kit_bl {K : PySem.W.Frag} : PySem.W.kitOne K (.type "bool") (.type "list") = some false := rfl
theorem kit_bs {K : PySem.W.Frag} : PySem.W.kitOne K (.type "bool") (.type "str") = some false := rfl
theorem kit_bb {K : PySem.W.Frag} : PySem.W.kitOne K (.type "bool") (.type "bool") = some true := rfl
theorem kit_bd {K : PySem.W.Frag} : PySem.W.kitOne K (.type "bool") (.type "dict") = some false := rfl
theorem kit_di {K : PySem.W.Frag} : PySem.W.kitOne K (.type "dict") (.type "int") = some false := rfl
theorem kit_dt {K : PySem.W.Frag} : PySem.W.kitOne K (.type "dict") (.type "tuple") = some false := rfl
theorem kit_dl {K : PySem.W.Frag} : PySem.W.kitOne K (.type "dict") (.type "list") = some false := rfl
theorem kit_ds {K : PySem.W.Frag} : PySem.W.kitOne K (.type "dict") (.type "str") = some false := rfl
theorem kit_db {K : PySem.W.Frag} : PySem.W.kitOne K (.type "dict") (.type "bool") = some false := rfl
theorem kit_dd {K : PySem.W.Frag} : PySem.W.kitOne K (.type "dict") (.type "dict") = some true := rfl
def notStar : Expr → Bool
  | .Starred _ _ => false
  | _ => true
theorem star_of {e : Expr} {es : List Expr} {env : Env} (h : notStar e = true) : starEach (e :: es) env = (false, eval e env) :: starEach es env := by
  cases e with
  | Starred v q => exact absurd (show false = true from h) Bool.false_ne_true
  | _ => rfl
theorem star_all {pos : Pos} {env : Env} : ∀ {es : List Expr}, es.all notStar = true → (backTo pos (starEach es env)).any (·.1) = false
  | [], _ => rfl
  | e :: es, h => by
    rw [List.all_cons, Bool.and_eq_true] at h
    rw [star_of h.1]
    show (false || (backTo pos (starEach es env)).any (·.1)) = false
    rw [star_all h.2]
    rfl
section
variable {X : Cx} {e : Expr} {es : List Expr} {te : TE} {t : TA} {x : Str} {p pos : Pos} {id T : String} {r : List V → Hp → VK → Prop}
theorem pa_c (ha : PE X e te) (hr : PA X es t) (hn : notStar e = true := by rfl) : PA X (e :: es) (tCons te t) := pa_cons ha hr (star_of hn)
theorem pe_cB (hc : CallR X (.builtin id) r) (hg : Gl X x) (hm : X.mg x = none) (hv : bootBuiltins x = some (.builtin id)) (ha : PA X (e :: es) t) (hn : x ≠ "__name__" := by decide) (hdb : (x == ("__debug__" : Str)) = false := by decide)
    (hs : (e :: es).all notStar = true := by rfl) : PE X (.Call (.Name x p) (e :: es) [] pos) (tCB r t) :=
  pe_callB hc hg hm hv ha hn hdb (star_of (Bool.and_eq_true_iff.mp hs).1) (star_all (Bool.and_eq_true_iff.mp hs).2)
theorem pe_cTy (hc : CallR X (.type T) r) (hg : Gl X x) (hm : X.mg x = none) (hv : bootBuiltins x = some (.type T)) (ha : PA X (e :: es) t) (hn : x ≠ "__name__" := by decide) (hdb : (x == ("__debug__" : Str)) = false := by decide)
    (hs : (e :: es).all notStar = true := by rfl) : PE X (.Call (.Name x p) (e :: es) [] pos) (tCB r t) :=
  pe_callTy hc hg hm hv ha hn hdb (star_of (Bool.and_eq_true_iff.mp hs).1) (star_all (Bool.and_eq_true_iff.mp hs).2)
end
structure DefAt (K : PySem.W.Frag) (mg : Str → Option Value) (x : Str) (st : Stmt) (ps : List Str) : Prop where
  ex : ∃ f fd, mg x = some (.ref f) ∧ Fun K x x st f fd ∧ Binds K fd ps []
structure OkD (P : Program) (w : World) (K : PySem.W.Frag) (mg : Str → Option Value) (base : Heap) (n : Nat) (x : Str) (ps : List Str) (sp : Sp) : Prop where
  ex : ∃ f fd, mg x = some (.ref f) ∧ PySem.W.keepIn K (.ref f) = true ∧ Binds K fd ps [] ∧ FnOk P w K mg base CX0 n f fd ps sp
def tDef (sp : Sp) (t : TA) : TE := fun σ H Q => t σ H fun vs H1 => sp vs H1 Q E0
section
variable {P : Program} {w : World} {K : PySem.W.Frag} {mg : Str → Option Value} {base : Heap} {x : Str} {st : Stmt} {N ps : List Str} {k : Nat} {sp : Sp}
theorem DefAt.ok (D : DefAt K mg x st ps) (S : FnScope N ps (defScope st)) (len : ∀ vs H Q E, sp vs H Q E → vs.length = ps.length)
    (hbody : ∀ (f : Addr) (cdv : Value) (A : Around) (outer : List Env) (s : Shared) (H : Hp) (vs : List V) (Q : VK) (E : XK), Room k (A.deeper (envOfC x (defScope st) s.heap.objs.size f cdv)) → sp vs H Q E →
      ∃ t, PSs (cxOf CX0 P w K mg base N x (defScope st) f cdv A outer s H E).nox (defBody st) t ∧ t { nx := fun _ H' => Q .non H', rt := Q } (start N vs) H) : OkD P w K mg base (k + 1) x ps sp := by
  obtain ⟨f, fd, hm, F, hb⟩ := D.ex
  exact ⟨f, fd, hm, F.kp, hb, F.ok S len (hbody f)⟩
theorem DefAt.never (D : DefAt K mg x st ps) (n : Nat) (h : ∀ vs H Q E, ¬ sp vs H Q E) : OkD P w K mg base n x ps sp := by
  obtain ⟨f, fd, hm, F, hb⟩ := D.ex
  exact ⟨f, fd, hm, F.kp, hb, ⟨fun vs H Q E q => absurd q (h vs H Q E), fun A outer s H args us vs Q E _ _ _ _ q => absurd q (h vs H Q E)⟩⟩
end
section
variable {X : Cx} {k n : Nat} {ps : List Str} {sp : Sp} {x : Str} {p pos : Pos} {e : Expr} {es : List Expr} {t : TA}
theorem pe_def (G : OkD X.prog X.w X.K X.mg X.base k x ps sp) (hr : Room n X.A) (hg : Gl X x) (ha : PA X (e :: es) t) (hk : k ≤ n := by omega) (hdb : (x == ("__debug__" : Str)) = false := by decide)
    (hs : (e :: es).all notStar = true := by rfl) : PE X (.Call (.Name x p) (e :: es) [] pos) (tDef sp t) := by
  obtain ⟨f, fd, hm, kp, hb, F⟩ := G.ex
  intro pins s σ H Q I h
  refine pe_call F (hr.mono hk) hg hm kp hb .nil pass0 ha hdb (star_of (Bool.and_eq_true_iff.mp hs).1) (star_all (Bool.and_eq_true_iff.mp hs).2) pins s σ H Q I ?_
  have e : (fun vs H1 => sp (vs ++ []) H1 Q E0) = fun vs H1 => sp vs H1 Q E0 := by funext vs H1; rw [List.append_nil]
  show t σ H fun vs H1 => sp (vs ++ []) H1 Q E0
  rw [e]
  exact h
theorem pe_def0 (G : OkD X.prog X.w X.K X.mg X.base k x ps sp) (hr : Room n X.A) (hg : Gl X x) (hk : k ≤ n := by omega) (hdb : (x == ("__debug__" : Str)) = false := by decide) :
    PE X (.Call (.Name x p) [] [] pos) (tDef sp tNil) := by
  obtain ⟨f, fd, hm, kp, hb, F⟩ := G.ex
  exact pe_call0 F (hr.mono hk) hg hm kp hb .nil pass0 hdb
end
def spLaw (K : PySem.W.Frag) : Sp := fun vs H Q _ => ∃ (a : Addr) (ns : List Int), vs = [.ref a] ∧ SqL K H a (ns.map V.int) ∧ ns.length ≤ 63 ∧ ∀ H', Q (.bl true) H'
end L2
set_option Elab.async false
set_option linter.all false
set_option maxRecDepth 100000
set_option maxHeartbeats 4000000
namespace L2
open PySem PySem.Spec PyProof.Rows
structure Fly (h : Heap) (x T : Addr) (cls fl : Value) : Prop where
  ex : ∃ oe vs oT ts, h.get? x = some oe ∧ oe.cls = cls ∧ oe.dict = none ∧ oe.data = .fields vs ∧ vs[1]? = some (.ref T) ∧ T ≠ x ∧ h.get? T = some oT ∧ oT.data = .fields ts ∧ ts[3]? = some fl
def CXr (P : Program) (w : World) : CXT := fun outer H s E e s' => ∃ (x T : Addr) (cls : Value) (H' : Hp), e = .ref x ∧ s'.os = s.os ∧ AllBare s'.gens ∧ Un (frs outer) [] H H' s.heap s'.heap ∧ HOk P w H' s'.heap ∧
  Fly s'.heap x T cls .none ∧ s.heap.get? x = none ∧ s.heap.get? T = none ∧ H' x = none ∧ H' T = none ∧ E cls none H'
structure Kept (x : Addr) (ts fr : List Addr) (h h' : Heap) : Prop where
  keep : ∀ b o, h.get? b = some o → b ≠ x → b ∉ ts → b ∉ fr → h'.get? b = some o
  slot : ∀ b o, h.get? b = some o → b ≠ x → b ∉ ts → ∃ sl, h'.get? b = some { o with slots := sl }
section
variable {M : Model} {A : Around} {E : Value → Shared → Prop} {s : Shared} {base : Heap} {env : Env} {outer : List Env} {L x : Addr} {oe : Obj} {vs : Array Value} {Q : Unit → Shared → Prop}
end
section
variable {X : Cx} {pins : List (Addr × Obj)} {σ : St} {H1 : Hp} {s1 : Shared}
end
section
variable {P : Program} {w : World} {K : PySem.W.Frag} {mg : Str → Option Value} {base : Heap} {N : List Str} {qual : Str} {scope : Scope} {f : Addr} {cd : Value} {A : Around} {outer : List Env} {s : Shared} {H : Hp} {E : XK}
end
def veM : List Value := [.type "ValueError", .type "Exception", .type "BaseException", .type "object"]
structure ExcAt (K : PySem.W.Frag) (mg : Str → Option Value) (x : Str) (C : Addr) : Prop where
  gl : mg x = some (.ref C)
  ok : PySem.W.excIn K C veM "ValueError.__new__" = true
def tRaise (C : Addr) (t : TA) (E : XK) : TS := fun _ σ H => t σ H fun vs H1 => vs.length ≤ sizeLine ∧ E (.ref C) none H1
section
variable {X : Cx} {E : XK} {x : Str} {C : Addr} {np cpos pos : Pos} {e : Expr} {es : List Expr} {t : TA}
end
section
variable {P : Program} {w : World} {K : PySem.W.Frag} {mg : Str → Option Value} {base : Heap} {N : List Str} {qual : Str} {scope : Scope} {f : Addr} {cd : Value} {A : Around} {outer : List Env} {s : Shared} {H : Hp} {E : XK}
end
structure OkR (P : Program) (w : World) (K : PySem.W.Frag) (mg : Str → Option Value) (base : Heap) (n : Nat) (x : Str) (ps : List Str) (sp : Sp) : Prop where
  ex : ∃ f fd, mg x = some (.ref f) ∧ PySem.W.keepIn K (.ref f) = true ∧ Binds K fd ps [] ∧ FnOk P w K mg base (CXr P w) n f fd ps sp
def tDefR (sp : Sp) (E : XK) (t : TA) : TE := fun σ H Q => t σ H fun vs H1 => sp vs H1 Q E
section
variable {P : Program} {w : World} {K : PySem.W.Frag} {mg : Str → Option Value} {base : Heap} {x : Str} {st : Stmt} {N ps : List Str} {k : Nat} {sp : Sp}
end
section
variable {X : Cx} {E : XK} {k n : Nat} {ps : List Str} {sp : Sp} {x : Str} {p pos : Pos} {e : Expr} {es : List Expr} {t : TA}
end
section
variable {X : Cx} {pins : List (Addr × Obj)} {σ : St} {H : Hp} {s : Shared}
structure Far (X : Cx) (pins : List (Addr × Obj)) (b : Addr) : Prop where
  old : X.s₀.heap.get? b = none
  loc : b ≠ X.env.locals
  cel : ∀ y c, X.env.cells.lookup y = some c → c ≠ b
  pin : ∀ p ∈ X.pn ++ pins, p.1 ≠ b
end
def ExcIs (x C : Addr) (h : Heap) : Prop := ∃ ox, PySem.W.InstAt h x ox C none
def excO (x C : Addr) : HO := .ext (ExcIs x C)
section
open PySem.W
end
structure PlainX (K : PySem.W.Frag) (C : Addr) : Prop where
  ga : PySem.W.findIn K (.ref C) "__getattribute__" = some (some (.builtin "BaseException.__getattribute__"))
  gt : PySem.W.findIn K (.ref C) "__getattr__" = some none
  mroB : PySem.W.mroIn K C (.type "BaseException") = some true
  cls : (PySem.W.clsIn K C).isSome = true
  fnd : PySem.W.findIn K (.ref C) "__class__" = some (some (.builtin "object.__class__"))
  spc : PySem.W.specialIn K (.builtin "object.__class__") "__get__" = some (some (.builtin "getset_descriptor.__get__"))
  tak : PySem.W.takesIn K (.builtin "object.__class__") = some true
  mro : PySem.W.mroIn K C (.type "object") = some true
def rIsiX (K : PySem.W.Frag) : List V → Hp → VK → Prop := fun xs H Q => ∃ x C c cv b, xs = [.ref x, c] ∧ H x = some (excO x C) ∧ PlainX K C ∧ (c = .ref cv ∧ PySem.W.kitOne K (.ref C) (.ref cv) = some b ∧ Q (.bl b) H)
def rIsiXT (K : PySem.W.Frag) : List V → Hp → VK → Prop := fun xs H Q => ∃ x C T b, xs = [.ref x, .ty T] ∧ H x = some (excO x C) ∧ PlainX K C ∧ PySem.W.kitOne K (.ref C) (.type T) = some b ∧ Q (.bl b) H
abbrev TX := St → Hp → VK → XK → Prop
def tCallX (sp : Sp) (t : TA) : TX := fun σ H Q E => t σ H fun vs H1 => sp vs H1 Q E
section
variable {X : Cx} {k n : Nat} {ps : List Str} {sp : Sp} {x : Str} {p pos : Pos} {e : Expr} {es : List Expr} {t : TA}
end
def tTry1 (K : PySem.W.Frag) (B : Addr) (i : Nat) (t : TX) (th : TS) : TS := fun D σ H => t σ H (fun _ H1 => D.nx σ H1) fun cls _ H1 => ∃ C, cls = .ref C ∧ PySem.W.exmOne K (.ref C) (.ref B) = some true ∧
  ∀ x H2, H1 x = none → Same H1 H2 → H2 x = some (excO x C) → th { nx := fun σ' H' => D.nx (σ'.set i none) H', rt := D.rt, bk := fun σ' H' => D.bk (σ'.set i none) H', ct := fun σ' H' => D.ct (σ'.set i none) H' } (σ.set i (some (.ref x))) H2
section
variable {X : Cx} {B : Addr} {i : Nat} {n cx : Str} {e : Expr} {b0 : Stmt} {suite : List Stmt} {ep np hpos pos : Pos} {t : TX} {th : TS}
end
end L2
set_option Elab.async false
set_option linter.all false
set_option maxRecDepth 100000
set_option maxHeartbeats 4000000
namespace L2
open PySem PySem.Spec PyProof.Rows
abbrev Cx.comp (X : Cx) (scope : Scope) (cl : List (Str × Addr)) (N : List Str) (C : Addr) (fp : List Addr) (s₀ : Shared) (H₀ : Hp) : Cx :=
  { X with N := N, s₀ := s₀, H₀ := H₀, env := compEnvC scope cl C X.env, outer := X.stack, ex := fp, fn := fun _ => false, pn := [], xe := fun _ _ => False }
structure CompScope (X : Cx) (scope : Scope) (cl : List (Str × Addr)) (N : List Str) (cap : List Nat) : Prop where
  kind : scope.kind = .function
  clos : X.Ok → closureFor scope X.env = pure cl
  ncell : ∀ y ∈ scope.names, y.2 ≠ .cell
  names : ∀ y ∈ scope.names, y.2 = .local → scope.names.lookup y.1 = some .local
  nd : N.Nodup
  has : ∀ y, ((relabel scope X.env).names.lookup y = some .cell ∨ (relabel scope X.env).names.lookup y = some .free) → ∃ c, cl.lookup y = some c
  sub : X.Ok → ∀ y c, cl.lookup y = some c → X.env.cells.lookup y = some c
  len : N.length = cap.length + 1
  cap : ∀ (j i : Nat) (y : Str), N[j + 1]? = some y → cap[j]? = some i → X.N[i]? = some y ∧ Vis X.env.scope y ∧ X.env.kindOf y ≠ some .local ∧ ((relabel scope X.env).names.lookup y = some .cell ∨ (relabel scope X.env).names.lookup y = some .free)
def capOf (σ : St) (cap : List Nat) : St := cap.map fun i => (σ[i]?).join
section
variable {X : Cx} {pins : List (Addr × Obj)} {σ : St} {H : Hp} {s : Shared} {scope : Scope} {cl : List (Str × Addr)} {N : List Str} {cap : List Nat}
end
def PTs (X : Cx) (ifs : List Expr) (t : TT) : Prop :=
  ∀ (pins : List (Addr × Obj)) (s : Shared) (σ : St) (H : Hp) (Q : Bool → Hp → Prop), Inv X pins σ H s → t σ H Q →
    wpAny (model X.prog X.w) X.A (forIn ifs true fun c r => if r = true then do let ok ← isTrue c X.env (eval c X.env); pure (ForInStep.yield ok) else pure (ForInStep.yield r)) (TP X pins σ Q) X.xe s
def tYes : TT := fun _ H Q => Q true H
theorem pts_nil {X : Cx} : PTs X [] tYes := fun _ _ _ H _ I h => wpAny_tests_nil ⟨H, I, h⟩
theorem pts_one {X : Cx} {c : Expr} {t : TT} (h : PT X c t) : PTs X [c] t := fun pins s σ H Q I q => wpAny_tests_one (h pins s σ H Q I q)
section
variable {X : Cx} {scope : Scope} {cl : List (Str × Addr)} {N : List Str} {cap : List Nat} {x : Str} {px pos : Pos} {iter elt : Expr} {ifs : List Expr} {wi : TI} {tc : TT} {te : TE}
end
end L2
set_option Elab.async false
set_option linter.all false
set_option maxRecDepth 100000
set_option maxHeartbeats 4000000
namespace L2
open PySem PySem.Spec PyProof.Rows
def Its (x : Str) : It := ⟨fun i _ => i < x.cps.size, fun i H v H' => H' = H ∧ ∃ c, x.cps[i]? = some c ∧ v = .str ⟨#[c]⟩, fun i _ => x.cps.size ≤ i⟩
theorem turn_ascii {P : Program} {w : World} {K : PySem.W.Frag} {tg : Expr} (x : Str) (t : Tok) (it : Addr) : Turn P w K tg (Its x) [it] it (fun i h => h.IsStrIter it "str_ascii_iterator" x t i) where
  mem := List.mem_singleton_self _
  obj := fun i h st b hb => by
    obtain rfl := List.mem_singleton.mp hb
    obtain ⟨o, e, c, d⟩ := st
    exact ⟨o, e, fun v z => by rw [d] at z; cases z⟩
  keep := fun i h h' ⟨o, e, c, d⟩ k => ⟨o, k it (List.mem_singleton_self _) o e, c, d⟩
  item := by
    intro X hP hw hK hc i pins s σ H E I hf st hg
    subst hP hw hK
    obtain ⟨f0, f1, f2, f3, f4, f5⟩ := hf it (List.mem_singleton_self _)
    have hi : i < x.cps.size := hg
    refine wpAny_pyNext_ascii_item st (c := x.cps[i]) (Array.getElem?_eq_getElem hi) fun h' st' sb => ?_
    have I1 : Inv X pins σ H { s with heap := h', toks := s.toks + 1 } := I.turned (t' := s.toks + 1) (fun b o hb e => (sb.2 b hb).trans e) f0 f1 f3 f4 f5
    obtain ⟨o, e, c, d⟩ := id st'
    exact ⟨_, rfl, go_of (s := { s with heap := h', toks := s.toks + 1 }) e c d (by decide) ⟨.str ⟨#[x.cps[i]]⟩, H, I1, ⟨_, rfl⟩, ⟨rfl, _, Array.getElem?_eq_getElem hi, rfl⟩, st', fun b hb => (hf b hb).1⟩⟩
  done := by
    intro X hP hw hK hc i pins s σ H E I hf st hg
    subst hP hw hK
    obtain ⟨f0, f1, f2, f3, f4, f5⟩ := hf it (List.mem_singleton_self _)
    have hi : x.cps.size ≤ i := hg
    exact wpAny_pyNext_ascii_end (I.ok.hd hc) st (Array.getElem?_eq_none hi) fun h' eb => ⟨rfl, I.turned (t' := s.toks) (fun b o hb e => eb b o hb e) f0 f1 f3 f4 f5⟩
  self := fun _ _ _ _ _ st h => wpAny_pyIter_striter_ascii st h
theorem turn_wide {P : Program} {w : World} {K : PySem.W.Frag} {tg : Expr} (x : Str) (t : Tok) (it : Addr) : Turn P w K tg (Its x) [it] it (fun i h => h.IsStrIter it "str_iterator" x t i) where
  mem := List.mem_singleton_self _
  obj := fun i h st b hb => by
    obtain rfl := List.mem_singleton.mp hb
    obtain ⟨o, e, c, d⟩ := st
    exact ⟨o, e, fun v z => by rw [d] at z; cases z⟩
  keep := fun i h h' ⟨o, e, c, d⟩ k => ⟨o, k it (List.mem_singleton_self _) o e, c, d⟩
  item := by
    intro X hP hw hK hc i pins s σ H E I hf st hg
    subst hP hw hK
    obtain ⟨f0, f1, f2, f3, f4, f5⟩ := hf it (List.mem_singleton_self _)
    have hi : i < x.cps.size := hg
    refine wpAny_pyNext_wide_item st (c := x.cps[i]) (Array.getElem?_eq_getElem hi) fun h' st' sb => ?_
    have I1 : Inv X pins σ H { s with heap := h', toks := s.toks + 1 } := I.turned (t' := s.toks + 1) (fun b o hb e => (sb.2 b hb).trans e) f0 f1 f3 f4 f5
    obtain ⟨o, e, c, d⟩ := id st'
    exact ⟨_, rfl, go_of (s := { s with heap := h', toks := s.toks + 1 }) e c d (by decide) ⟨.str ⟨#[x.cps[i]]⟩, H, I1, ⟨_, rfl⟩, ⟨rfl, _, Array.getElem?_eq_getElem hi, rfl⟩, st', fun b hb => (hf b hb).1⟩⟩
  done := by
    intro X hP hw hK hc i pins s σ H E I hf st hg
    subst hP hw hK
    obtain ⟨f0, f1, f2, f3, f4, f5⟩ := hf it (List.mem_singleton_self _)
    have hi : x.cps.size ≤ i := hg
    exact wpAny_pyNext_wide_end (I.ok.hd hc) st (Array.getElem?_eq_none hi) fun h' eb => ⟨rfl, I.turned (t' := s.toks) (fun b o hb e => eb b o hb e) f0 f1 f3 f4 f5⟩
  self := fun _ _ _ _ _ st h => wpAny_pyIter_striter_wide st h
def iStr (tl : TE) : TI := fun σ H R => tl σ H fun v H1 => ∃ x, v = .str x ∧ R (Its x) H1
theorem pi_str {X : Cx} {tg l : Expr} {tl : TE} (hl : PE X l tl) : PI X tg l (iStr tl) := by
  intro pins s σ H R I h
  refine thn (hl pins s σ H _ I h) fun v s1 ⟨y, H1, I1, r1, x, e, q⟩ => ?_
  subst e
  obtain ⟨t, rfl⟩ := r1
  have new : ∀ {o : Obj}, Inv X pins σ H1 { s1 with heap := s1.heap.push o } := fun {o} => I1.kept (t' := s1.toks) fun b u e => Heap.get?_push_of_some _ e
  have fp : ∀ b ∈ [s1.heap.objs.size], FpOk X pins H1 b := fun b hb => by
    obtain rfl := List.mem_singleton.mp hb
    exact I1.fpOk (Nat.le_refl _) (I1.hok.fresh (Nat.le_refl _))
  cases ha : x.cps.all (· < 128)
  · exact wpAny_pyIter_wide ha ⟨_, _, _, _, H1, rfl, new, turn_wide x t _, ⟨_, Heap.get?_push_size _ rfl, rfl, rfl⟩, fp, q⟩
  · exact wpAny_pyIter_ascii ha ⟨_, _, _, _, H1, rfl, new, turn_ascii x t _, ⟨_, Heap.get?_push_size _ rfl, rfl, rfl⟩, fp, q⟩
def rAll : List V → Hp → VK → Prop := fun xs H Q => ∃ (p : Addr) (bs : List Bool), xs = [.ref p] ∧ H p = some (.lst (bs.map V.bl)) ∧ Q (.bl (bs.all id)) H
structure Over (J : It) (xs : List V) (ok : Hp → Prop) : Prop where
  go : ∀ i H, ok H → i < xs.length → J.go i H
  stop : ∀ i H, ok H → xs.length ≤ i → J.stop i H
  yld : ∀ i H x H', ok H → i < xs.length → J.yld i H x H' → H' = H ∧ xs[i]? = some x
theorem over_str (x : Str) : Over (Its x) (x.cps.toList.map fun c => V.str ⟨#[c]⟩) (fun _ => True) where
  go := fun i H _ h => (show i < x.cps.size by simpa using h)
  stop := fun i H _ h => (show x.cps.size ≤ i by simpa using h)
  yld := fun i H v H' _ h y => by
    obtain ⟨e, c, hc, rfl⟩ := y
    refine ⟨e, ?_⟩
    rw [List.getElem?_map]
    have : x.cps.toList[i]? = some c := by simpa using hc
    rw [this]; rfl
theorem over_list {K : PySem.W.Frag} {a : Addr} {xs : List V} : Over (Itl K a) xs (fun H => H a = some (.lst xs)) where
  go := fun i H e h => ⟨xs, xs[i], SqL.of e, List.getElem?_eq_getElem h⟩
  stop := fun i H e h => ⟨xs, SqL.of e, h⟩
  yld := fun i H v H' e h y => ⟨y.1, y.2 xs (SqL.of e)⟩
theorem over_tup {K : PySem.W.Frag} {a : Addr} {xs : List V} : Over (Itt K a) xs (fun H => H a = some (.tup xs)) where
  go := fun i H e h => ⟨xs, xs[i], SqT.of e, List.getElem?_eq_getElem h⟩
  stop := fun i H e h => ⟨xs, SqT.of e, h⟩
  yld := fun i H v H' e h y => ⟨y.1, y.2 xs (SqT.of e)⟩
theorem over_range (lo : Int) (n : Nat) : Over (Itr lo n) ((List.range n).map fun (k : Nat) => V.int (lo + k)) (fun _ => True) where
  go := fun i H _ h => (show i < n by simpa using h)
  stop := fun i H _ h => (show n ≤ i by simpa using h)
  yld := fun i H v H' _ h y => by
    obtain ⟨e, rfl⟩ := y
    refine ⟨e, ?_⟩
    have h' : i < n := by simpa using h
    rw [List.getElem?_map, List.getElem?_range h']; rfl
theorem lookup_mem {names : List (Str × NameKind)} {y : Str} {k : NameKind} (h : names.lookup y = some k) : (y, k) ∈ names := PySem.mem_of_lookup h
def tFmt (te : TE) : TE := fun σ H Q => te σ H fun v H1 => (∃ x, v = .str x ∧ x.length ≤ sizeLine ∧ Q (.str x) H1) ∨ ∃ i : Int, v = .int i ∧ i.natAbs.log2 < 1920 ∧ Q (.str (toString i)) H1
abbrev TJ := Str → St → Hp → (Str → Hp → Prop) → Prop
def jNil : TJ := fun out _ H Q => out.length ≤ sizeLine ∧ Q out H
def jCons (te : TE) (t : TJ) : TJ := fun out σ H Q => te σ H fun v H1 => ∃ x, v = .str x ∧ (out ++ x).length ≤ sizeLine ∧ t (out ++ x) σ H1 Q
def tJoin (t : TJ) : TE := fun σ H Q => t Str.empty σ H fun x H1 => Q (.str x) H1
end L2
set_option Elab.async false
set_option linter.all false
set_option maxRecDepth 100000
set_option maxHeartbeats 4000000
namespace L2
open PySem PySem.Spec PyProof.Rows
section
variable {X : Cx}
def rStarts : V → List V → Hp → VK → Prop := fun x vs H Q => ∃ a b, x = .str a ∧ vs = [.str b] ∧ Q (.bl (PySem.Txt.startswith a b)) H
def rMulS : R2 := fun x y H Q => ∃ a n, x = .str a ∧ y = .int n ∧ MulOk a n ∧ Q (.str (PySem.Txt.mul a n)) H
def rSlS : V → Option Int → Option Int → Hp → VK → Prop := fun x lo hi H Q => ∃ a, x = .str a ∧ a.length ≤ sizeLine ∧ Q (.str (PySem.Txt.slice a lo hi)) H
theorem sl_str : SlR X rSlS := by
  intro pins s σ H x v vl vu lo hi sl Q I rx hs pl pu h
  obtain ⟨a, rfl, hz, q⟩ := h
  obtain ⟨t, rfl⟩ := rx
  refine ⟨"str", _, F.slot_str_getitem.lookup, typeIs_str _ _ _, ?_⟩
  cases pl with
  | none =>
    cases pu with
    | none => exact wpAny_getItem_str_slice (l := none) (u := none) (st := none) hs rfl (post_val_or_str ⟨Nat.le_trans (PySem.Txt.slice_le a _ _) hz, fun t' k => ⟨.str _, H, I.tok _, ⟨_, rfl⟩, q⟩⟩)
    | int j uj => exact wpAny_getItem_str_slice (l := none) (u := some (j, uj)) (st := none) hs rfl (post_val_or_str ⟨Nat.le_trans (PySem.Txt.slice_le a _ _) hz, fun t' k => ⟨.str _, H, I.tok _, ⟨_, rfl⟩, q⟩⟩)
  | int i ui =>
    cases pu with
    | none => exact wpAny_getItem_str_slice (l := some (i, ui)) (u := none) (st := none) hs rfl (post_val_or_str ⟨Nat.le_trans (PySem.Txt.slice_le a _ _) hz, fun t' k => ⟨.str _, H, I.tok _, ⟨_, rfl⟩, q⟩⟩)
    | int j uj => exact wpAny_getItem_str_slice (l := some (i, ui)) (u := some (j, uj)) (st := none) hs rfl (post_val_or_str ⟨Nat.le_trans (PySem.Txt.slice_le a _ _) hz, fun t' k => ⟨.str _, H, I.tok _, ⟨_, rfl⟩, q⟩⟩)
theorem vals_strs : ∀ {ys : List Str} {us : List Value}, Vals (ys.map V.str) us → ∃ l : List (Str × Tok), us = strValues l ∧ l.map (·.1) = ys
  | [], _, .nil => ⟨[], rfl, rfl⟩
  | y :: ys, _, .cons r t => by
    obtain ⟨k, rfl⟩ := r
    obtain ⟨l, rfl, e⟩ := vals_strs t
    exact ⟨(y, k) :: l, rfl, by rw [List.map_cons, e]⟩
def rJoinS : V → List V → Hp → VK → Prop := fun x vs H Q => ∃ a l ys, x = .str a ∧ vs = [.ref l] ∧ H l = some (.lst (ys.map V.str)) ∧ JoinOk a ys = true ∧ Q (.str (PySem.Txt.join a ys)) H
theorem mt_join : MtR X "str.join" rJoinS := by
  intro pins s σ H x vs v us Q I rx rv h
  obtain ⟨a, l, ys, rfl, rfl, hl, hok, q⟩ := h
  obtain ⟨t, rfl⟩ := rx
  obtain ⟨u, rfl, ru⟩ := rv.one
  cases ru
  obtain ⟨z, its, n, r, hlen, e⟩ := I.lstM hl
  obtain ⟨m, rfl, e2⟩ := vals_strs r
  exact SC.join ⟨_, e, rfl, _, rfl⟩ e2 hok fun t' k => ⟨.str _, H, I.tok _, ⟨_, rfl⟩, q⟩
theorem pe_join {o e : Expr} {to te : TE} {apos cpos : Pos} (ho : PE X o to) (he : PE X e te) (hn : notStar e = true := by rfl)
    (hbase : attributeBase o "join" X.env (eval o X.env) = eval o X.env := by rfl)
    (hfew : ((backTo cpos (starEach [e] X.env)).all (fun x => !x.1) && (backToKw cpos (keywordEach [] X.env)).all (fun x => x.1.isSome)
      && decide (([e] : List Expr).length + ([] : List Keyword).length + (if ([] : List Keyword).isEmpty then 0 else 1) < 30)) = true := by rfl)
    (hline : (apos.endLine == cpos.line) = true := by rfl) (hs : starEach [e] X.env = (false, eval e X.env) :: starEach [] X.env := by rfl) (hplain : (backTo cpos (starEach [] X.env)).any (·.1) = false := by rfl) :
    PE X (.Call (.Attribute o "join" apos) [e] [] cpos) (tBM X.K "str" rJoinS to (tCons te tNil)) :=
  pe_bm F.plainAttrs_str F.slot_str_join F.type_str_join mt_join ho (pa_c he pa_nil hn) hbase hfew hline hs hplain
def rInK (K : PySem.W.Frag) (neg : Bool) : R2 := fun x y H Q => ∃ p xs, y = .ref p ∧ (∀ H, SqT K H p xs) ∧ flatV x = true ∧ xs.all flatV = true ∧ Q (.bl (if neg then !inV x xs else inV x xs)) H
end
def rCatG : R2 := fun x y H Q => ∃ l b xs zs, x = .ref l ∧ y = .ref b ∧ H l = some (.lst xs) ∧ H b = some (.lst zs) ∧ xs.length + zs.length ≤ sizeLine ∧ ∀ p H', H p = none → Same H H' → H' p = some (.lst (xs ++ zs)) → Q (.ref p) H'
theorem op_catG {X : Cx} : OpR X (binaryOp .Add) rCatG := by
  intro pins s σ H x y v u Q I rx ry h
  obtain ⟨l, b, xs, zs, e1, e2, h1, h2, hz, q⟩ := h
  exact op_cat pins s σ H x y v u Q I rx ry ⟨l, b, xs, zs, e1, e2, h1, h2, hz, fresh_any q⟩
def rSetG : V → V → V → Hp → (Hp → Prop) → Prop := fun o i v H Q => ∃ p xs k j, o = .ref p ∧ i = .int k ∧ H p = some (.lst xs) ∧ ixN xs.length k = some j ∧ ∀ H', Mu H p (.lst (xs.set j v)) H' → Q H'
theorem set_listG {X : Cx} : PSet X rSetG := by
  intro pins s σ H o i v ov iv u Q I ro ri rv h
  obtain ⟨p, xs, k, j, e1, e2, h1, h2, q⟩ := h
  exact set_list pins s σ H o i v ov iv u Q I ro ri rv ⟨p, xs, k, j, e1, e2, h1, h2, q _ .mk'⟩
theorem for_over {J : It} {xs : List V} {ok : Hp → Prop} (O : Over J xs ok) {g : TG} {tb : TS} {D : Ends} {σ : St} {H : Hp} (Pv : Nat → St → Hp → Prop) (h0 : Pv 0 σ H) (hl : ∀ i σ H, i ≤ xs.length → Pv i σ H → ok H)
    (hs : ∀ i x σ H, xs[i]? = some x → Pv i σ H → g x σ H fun σ2 H2 => tb { D with nx := Pv (i + 1), ct := Pv (i + 1), bk := D.nx } σ2 H2) (hd : ∀ σ H, Pv xs.length σ H → D.nx σ H) :
    ∃ W : Nat → Nat → St → Hp → Prop, (∃ m, W 0 m σ H) ∧ ∀ i m σ H, W i m σ H →
      (J.stop i H ∧ D.nx σ H) ∨ (J.go i H ∧ ∃ N : St → Hp → Prop, (∀ σ' H', N σ' H' → ∃ m', m' < m ∧ W (i + 1) m' σ' H') ∧ ∀ x H', J.yld i H x H' → g x σ H' fun σ2 H2 => tb { D with nx := N, ct := N, bk := D.nx } σ2 H2) := by
  refine ⟨fun i m σ H => m = xs.length - i ∧ i ≤ xs.length ∧ Pv i σ H, ⟨xs.length, by simp, Nat.zero_le _, h0⟩, ?_⟩
  rintro i m σ H ⟨rfl, hi, p⟩
  have q := hl i σ H hi p
  by_cases hlt : i < xs.length
  · refine .inr ⟨O.go i H q hlt, Pv (i + 1), fun σ' H' p' => ⟨xs.length - (i + 1), by omega, rfl, hlt, p'⟩, fun x H' y => ?_⟩
    obtain ⟨rfl, hx⟩ := O.yld i H x H' q hlt y
    exact hs i x σ H' hx p
  · have e : i = xs.length := by omega
    subst e
    exact .inl ⟨O.stop _ _ q (Nat.le_refl _), hd σ H p⟩
theorem tfor_str {tl : TE} {g : TG} {tb : TS} {D : Ends} {σ : St} {H : Hp} (x : Str) (htl : ∀ R : VK, R (.str x) H → tl σ H R) (Pv : List Nat → St → Hp → Prop) (h0 : Pv [] σ H)
    (hs : ∀ (l : List Nat) (c : Nat) (r : List Nat) σ H, x.cps.toList = l ++ c :: r → Pv l σ H → g (.str ⟨#[c]⟩) σ H fun σ2 H2 => tb { D with nx := Pv (l ++ [c]), ct := Pv (l ++ [c]), bk := D.nx } σ2 H2)
    (hd : ∀ σ H, Pv x.cps.toList σ H → D.nx σ H) : tFor (iStr tl) g tb D σ H := by
  refine htl _ ⟨x, rfl, for_over (over_str x) (fun i => Pv (x.cps.toList.take i)) h0 (fun _ _ _ _ _ => trivial) (fun i v σ H hx p => ?_) (fun σ H p => hd σ H (by rw [List.length_map, List.take_length] at p; exact p))⟩
  rw [List.getElem?_map] at hx
  cases hc : x.cps.toList[i]? with
  | none => rw [hc] at hx; cases hx
  | some c =>
    rw [hc] at hx
    cases hx
    obtain ⟨hi, rfl⟩ := List.getElem?_eq_some_iff.mp hc
    have e : x.cps.toList.take (i + 1) = x.cps.toList.take i ++ [x.cps.toList[i]] := by rw [List.take_append_getElem]
    rw [e]
    refine hs _ _ (x.cps.toList.drop (i + 1)) σ H ?_ p
    rw [List.getElem_cons_drop, List.take_append_drop]
def tMs (t : TS) : TS := fun D σ H => ∃ Z : St → Hp → Prop, t { D with nx := Z } σ H ∧ ∀ σ' H', Z σ' H' → D.nx σ' H'
theorem ps_up {X : Cx} {st : Stmt} {t : TS} (h : PS X st t) : PS X st (tMs t) := by
  intro pins s σ H D I hq
  obtain ⟨Z, h1, h2⟩ := hq
  refine thn (h pins s σ H _ I h1) fun fl s' hs => ?_
  cases fl with
  | next => obtain ⟨σ', H', I', q⟩ := hs; exact ⟨σ', H', I', h2 _ _ q⟩
  | _ => exact hs
end L2
set_option Elab.async false
set_option linter.all false
set_option maxRecDepth 100000
set_option maxHeartbeats 4000000
namespace L2
open PySem PySem.Spec PyProof.Rows
section
variable {X : Cx} {pins : List (Addr × Obj)} {σ : St} {H : Hp} {s : Shared} {h' : Heap}
end
inductive F2 (R : V → V → Prop) : List V → List V → Prop
  | nil : F2 R [] []
  | cons {x v : V} {xs vs : List V} : R x v → F2 R xs vs → F2 R (x :: xs) (v :: vs)
theorem forIn_yield_fold {α β : Type} {f : α → β → Sem (ForInStep β)} (g : α → β → β) : ∀ (l : List α) (b : β), (∀ x ∈ l, ∀ b, f x b = pure (.yield (g x b))) → forIn l b f = pure (l.foldl (fun b x => g x b) b)
  | [], b, _ => by rw [List.forIn_nil]; rfl
  | x :: l, b, h => by
    rw [List.forIn_cons, h x List.mem_cons_self b, pure_bind]
    exact forIn_yield_fold g l (g x b) fun y hy => h y (List.mem_cons_of_mem _ hy)
def capG (env : Env) (x : Str × NameKind) (r : List (Str × Addr)) : List (Str × Addr) := if x.2 == .free then (x.1, (env.cells.lookup x.1).getD 0) :: r else r
def clOf (env : Env) (scope : Scope) : List (Str × Addr) := scope.names.foldl (fun r x => capG env x r) []
theorem closure_of {scope : Scope} {env : Env} (h : ∀ y ∈ scope.names, y.2 = .free → ∃ c, env.cells.lookup y.1 = some c) : closureFor scope env = pure (clOf env scope) := by
  simp only [closureFor]
  rw [forIn_yield_fold (capG env) scope.names [] (fun x hx b => by
    obtain ⟨n, k⟩ := x
    cases hk : (k == NameKind.free) with
    | false => simp [capG, hk]
    | true =>
      have e : k = .free := by simpa using hk
      obtain ⟨c, hc⟩ := h _ hx e
      have hc' : env.cells.lookup n = some c := hc
      simp [capG, hk, cellOf, hc'])]
  rfl
theorem cl_sub {env : Env} : ∀ (names : List (Str × NameKind)) (acc : List (Str × Addr)), (∀ y ∈ names, y.2 = .free → ∃ c, env.cells.lookup y.1 = some c) → (∀ y c, acc.lookup y = some c → env.cells.lookup y = some c) →
    ∀ y c, (names.foldl (fun r x => capG env x r) acc).lookup y = some c → env.cells.lookup y = some c
  | [], acc, _, ha, y, c, e => ha y c e
  | (n, k) :: names, acc, h, ha, y, c, e => by
    refine cl_sub names (capG env (n, k) acc) (fun z hz => h z (List.mem_cons_of_mem _ hz)) (fun z d ez => ?_) y c e
    unfold capG at ez
    split at ez
    · rename_i hk
      have hk' : k = .free := by simpa using hk
      obtain ⟨c', hc'⟩ := h _ List.mem_cons_self hk'
      have hc' : env.cells.lookup n = some c' := hc'
      rw [List.lookup_cons] at ez
      split at ez
      · rename_i hzn
        have : z = n := by simpa using hzn
        subst this
        rw [hc'] at ez ⊢
        exact ez
      · exact ha z d ez
    · exact ha z d ez
theorem cl_has {env : Env} : ∀ (names : List (Str × NameKind)) (acc : List (Str × Addr)) (y : Str), ((y, NameKind.free) ∈ names ∨ (acc.lookup y).isSome) → ((names.foldl (fun r x => capG env x r) acc).lookup y).isSome
  | [], acc, y, h => h.elim (fun z => absurd z List.not_mem_nil) id
  | (n, k) :: names, acc, y, h => by
    refine cl_has names (capG env (n, k) acc) y ?_
    rcases h with h | h
    · rcases List.mem_cons.mp h with h | h
      · obtain ⟨rfl, rfl⟩ := Prod.mk.inj h
        right
        simp [capG]
      · exact .inl h
    · right
      unfold capG
      split
      · rw [List.lookup_cons]
        split
        · rfl
        · exact h
      · exact h
theorem lookup_relabel_free {env : Env} : ∀ {names : List (Str × NameKind)} {x : Str}, names.lookup x = some .free →
    (names.map fun (n, k) => if (k == NameKind.free && env.scope.kind == .function && env.kindOf n == some .cell) then (n, NameKind.cell) else (n, k)).lookup x = some .cell ∨
    (names.map fun (n, k) => if (k == NameKind.free && env.scope.kind == .function && env.kindOf n == some .cell) then (n, NameKind.cell) else (n, k)).lookup x = some .free
  | [], _, h => by simp at h
  | (n, k) :: r, x, h => by
    have ih := @lookup_relabel_free env r x
    rw [List.lookup_cons] at h
    rw [List.map_cons]
    cases hx : x == n with
    | true =>
      rw [hx] at h
      have hk : k = .free := by simpa using h
      subst hk
      dsimp only
      split
      · left; rw [List.lookup_cons, hx]
      · right; rw [List.lookup_cons, hx]
    | false =>
      rw [hx] at h
      dsimp only
      split
      · rw [List.lookup_cons, hx]; exact ih h
      · rw [List.lookup_cons, hx]; exact ih h
theorem call_strG {X : Cx} : CallR X (.type "str") (fun xs H Q => (∃ i, xs = [.int i] ∧ i.natAbs.log2 < 1920 ∧ Q (.str (toString i)) H) ∨ ∃ x, xs = [.str x] ∧ Q (.str x) H) := by
  intro pins s σ H xs us Q I r h
  rcases h with ⟨i, rfl, hz, q⟩ | ⟨x, rfl, q⟩
  · obtain ⟨u, rfl, t, rfl⟩ := vals1 r
    exact PySem.P.str_of_int hz ⟨.str _, H, I.tok _, ⟨_, rfl⟩, q⟩
  · obtain ⟨u, rfl, t, rfl⟩ := vals1 r
    exact PySem.P.str_of_str ⟨.str x, H, I, ⟨_, rfl⟩, q⟩
def tTry0 (K : PySem.W.Frag) (B : Addr) (t : TX) (th : TS) : TS := fun D σ H => t σ H (fun _ H1 => D.nx σ H1) fun cls _ H1 => ∃ C, cls = .ref C ∧ PySem.W.exmOne K (.ref C) (.ref B) = some true ∧ th D σ H1
section
variable {X : Cx} {B : Addr} {cx : Str} {e : Expr} {b0 : Stmt} {suite : List Stmt} {ep np hpos pos : Pos} {t : TX} {th : TS}
end
def ForJ (J : It) (g : TG) (tb : TS) (D : Ends) (σ : St) (H1 : Hp) : Prop := ∃ W : Nat → Nat → St → Hp → Prop, (∃ m, W 0 m σ H1) ∧ ∀ i m σ H, W i m σ H →
  (J.stop i H ∧ D.nx σ H) ∨ (J.go i H ∧ ∃ N : St → Hp → Prop, (∀ σ' H', N σ' H' → ∃ m', m' < m ∧ W (i + 1) m' σ' H') ∧ ∀ x H', J.yld i H x H' → g x σ H' fun σ2 H2 => tb { D with nx := N, ct := N, bk := D.nx } σ2 H2)
theorem tfor_in {wi : TI} {g : TG} {tb : TS} {D : Ends} {σ : St} {H : Hp} (h : wi σ H fun J H1 => ForJ J g tb D σ H1) : tFor wi g tb D σ H := h
end L2
set_option Elab.async false
set_option linter.all false
set_option maxRecDepth 100000
set_option maxHeartbeats 4000000
namespace L2
open PySem PySem.Spec PyProof.Rows
section
variable {X : Cx} {pins : List (Addr × Obj)} {σ : St} {H : Hp} {s : Shared}
end
def Itk (d : Addr) (o : Obj) (kvs : List (Key × V)) : It :=
  ⟨fun i H => i < kvs.length ∧ H d = some (.frz o (.dK kvs)), fun i H x H' => H' = H ∧ ∃ k v, kvs[i]? = some (k, v) ∧ x = kV k, fun i H => kvs.length ≤ i ∧ H d = some (.frz o (.dK kvs))⟩
def iKeys (nf : Addr → Prop) (tl : TE) : TI := fun σ H R => tl σ H fun x H1 => ∃ d kvs, x = .ref d ∧ H1 d = some (.dK kvs) ∧ ∀ o, nf d → R (Itk d o kvs) (upd H1 d (.frz o (.dK kvs)))
def tForK (nf : Addr → Prop) (tl : TE) (g : TG) (tb : TS) : TS := fun D => tFor (iKeys nf tl) g tb { D with nx := fun σ' H' => ∃ d o kvs, nf d ∧ H' d = some (.frz o (.dK kvs)) ∧ D.nx σ' (upd H' d (.dK kvs)) }
def tDGetR (td ty : TE) : TE := fun σ H Q => td σ H fun x H1 => ty σ H1 fun y H2 => ∃ a kvs k v, x = .ref a ∧ Rd H2 a (.dK kvs) ∧ keyOf y = some k ∧ valV kvs k = some v ∧ Q v H2
section
variable {X : Cx}
def rPopG : V → List V → Hp → VK → Prop := fun x vs H Q => ∃ l xs y, x = .ref l ∧ vs = [] ∧ H l = some (.lst (xs ++ [y])) ∧ ∀ H', Mu H l (.lst xs) H' → Q y H'
theorem mt_popG : MtR X "list.pop" rPopG := by
  intro pins s σ H x vs v us Q I rx rv h
  obtain ⟨l, xs, y, e1, e2, hH, q⟩ := h
  refine mt_pop pins s σ H x vs v us Q I rx rv ⟨l, xs ++ [y], y, e1, e2, hH, ?_, ?_⟩
  · rw [List.length_append, List.length_singleton, Nat.add_sub_cancel]
    simp
  · rw [List.dropLast_concat]
    exact q _ .mk'
def rRepG : R2 := fun x y H Q => ∃ l k xs, x = .ref l ∧ y = .int k ∧ H l = some (.lst xs) ∧ -(2 ^ 63) ≤ k ∧ k < 2 ^ 63 ∧ xs.length * k.toNat ≤ sizeLine ∧ ∀ p H', H p = none → Same H H' → H' p = some (.lst (List.replicate k.toNat xs).flatten) → Q (.ref p) H'
theorem op_repG : OpR X (binaryOp .Mult) rRepG := by
  intro pins s σ H x y v u Q I rx ry h
  obtain ⟨l, k, xs, e1, e2, h1, h2, h3, h4, q⟩ := h
  exact op_rep pins s σ H x y v u Q I rx ry ⟨l, k, xs, e1, e2, h1, h2, h3, h4, fresh_any q⟩
end
section
variable {prog : Program} {w : World} {A : Around} {E : Value → Shared → Prop} {s : Shared}
theorem draw_list {it t : Addr} {items : Array Value} (hne : t ≠ it) : ∀ (n i : Nat) (s : Shared) (Q : List Value → Shared → Prop), s.heap.IsListIter it t i → s.heap.IsList t items → i + n ≤ items.size →
    (∀ h', h'.IsListIter it t (i + n) → Heap.SameBut it s.heap h' → Q ((items.toList.drop i).take n) { s with heap := h' }) → wpAny (model prog w) A (draw (.ref it) n) Q E s
  | 0, i, s, Q, hit, _, _, hQ => by
    show wpAny _ _ (pure []) Q E s
    exact wpAny_pure (by simpa using hQ s.heap hit (Heap.SameBut.refl ..))
  | n + 1, i, s, Q, hit, ht, hle, hQ => by
    have hlt : i < items.size := by omega
    show wpAny _ _ (pyNext (.ref it) >>= _) Q E s
    refine wpAny_bind (wpAny_pyNext_list_item hit ht (x := items[i]) (by simp [hlt]) fun h₁ hit₁ hs₁ => ?_)
    refine wpAny_bind (wpAny_holding (draw_list hne n (i + 1) _ _ hit₁ (ht.at fun o e => (hs₁.2 t hne).trans e) (by omega) fun h₂ hit₂ hs₂ => wpAny_pure ?_))
    have hd : items.toList.drop i = items[i] :: items.toList.drop (i + 1) := by simp [List.drop_eq_getElem_cons, hlt]
    have := hQ h₂ (by rw [show i + (n + 1) = i + 1 + n by omega]; exact hit₂) (hs₁.trans hs₂)
    rw [hd, List.take_succ_cons] at this
    exact this
theorem unpackItems_list {t : Addr} {items : Array Value} {Q : List Value → Shared → Prop} (hh : A.handled = none) (ht : s.heap.IsList t items)
    (hQ : ∀ h', Heap.ExtBut s.heap.objs.size s.heap h' → Q items.toList { s with heap := h' }) : wpAny (model prog w) A (unpackItems (.ref t) items.size none) Q E s := by
  have hlt : t ≠ s.heap.objs.size := by obtain ⟨o, ho, _⟩ := ht; exact Nat.ne_of_lt (Heap.lt_size ho)
  unfold unpackItems
  refine wpAny_bind ?_
  unfold notIterableAtAll
  refine wpAny_bind (wpAny_specialOf ht.typeIs F.slot_list_iter.lookup ?_)
  refine wpAny_pure ?_
  simp only [Bool.false_eq_true, if_false]
  refine wpAny_bind (wpAny_holding (wpAny_pyIter_list ht ?_))
  refine wpAny_bind (wpAny_holding (draw_list hlt items.size 0 _ _ ⟨_, Heap.get?_push_size _ rfl, rfl, rfl⟩ (ht.at fun o e => Heap.get?_push_of_some _ e) (by omega) fun h₁ hit₁ hs₁ => ?_))
  have hall : List.take items.size (List.drop 0 items.toList) = items.toList := by
    rw [List.drop_zero]; exact List.take_of_length_le (by simp)
  rw [hall]
  rw [if_neg (by simp)]
  have ht₁ : h₁.IsList t items := (ht.at fun o e => Heap.get?_push_of_some _ e).at fun o e => (hs₁.2 t hlt).trans e
  refine wpAny_bind (wpAny_holding (wpAny_pyNext_list_end hh hit₁ ht₁ (by simp) fun h₂ he₂ => ?_))
  simp only [Option.isSome_none, Bool.false_eq_true, if_false]
  refine wpAny_pure (hQ h₂ fun b o hb e => he₂ b o hb (hs₁.extBut b o hb (Heap.get?_push_of_some _ e)))
end
def gLstG (n : Nat) (t : TGs) : TG := fun v σ H Q => ∃ a xs, v = .ref a ∧ H a = some (.lst xs) ∧ xs.length = n ∧ t xs σ H Q
theorem pg_lstG {X : Cx} {es : List Expr} {k : Nat} {t : TGs} {pos : Pos} (n : Nat) (hc : X.calm = true) (h : PGs X es t)
    (hn : (assignEach es X.env).length = n := by rfl) (hst : (assignEach es X.env).findIdx? (·.1) = none := by rfl) : PG X (.Tuple es k pos) (gLstG n t) := by
  intro pins s σ H v u Q I r hw
  obtain ⟨a, xs, e1, hq, hl, hw⟩ := hw
  subst e1
  cases r
  obtain ⟨its, rv, p, hz⟩ := I.list (SqL.of hq)
  rw [assign_Tuple]
  refine wpAny_bind (wpAny_standAt ?_)
  unfold unpack
  have e : (assignEach es X.env).length = its.toArray.size := by simp [hn, ← hl, rv.length]
  rw [e, hst]
  refine wpAny_bind (wpAny_holding (unpackItems_list (I.ok.hd hc) p.isList fun h' hx => ?_))
  have I1 : Inv X pins σ H { s with heap := h' } := I.kept (t' := s.toks) fun b o e => hx b o (Nat.ne_of_lt (Heap.lt_size e)) e
  exact h pins _ σ H xs _ Q I1 (by simpa using rv) hw
end L2
set_option Elab.async false
set_option linter.all false
set_option maxRecDepth 100000
set_option maxHeartbeats 4000000
namespace L2
open PySem PySem.Spec PyProof.Rows
def rSum : List V → Hp → VK → Prop := fun xs H Q => ∃ (p : Addr) (ns : List Int), xs = [.ref p] ∧ H p = some (.lst (ns.map V.int)) ∧ Q (.int ns.sum) H
def rSort : List V → Hp → VK → Prop := fun xs H Q => ∃ (p : Addr) (ns : List Int), xs = [.ref p] ∧ (H p = some (.lst (ns.map V.int)) ∨ ∃ kvs : List (Key × V), H p = some (.dK kvs) ∧ kvs.map (·.1) = ns.map Sum.inl) ∧ ns.length < 64 ∧
  ∀ D H' ms, H D = none → Same H H' → H' D = some (.lst (ms.map V.int)) → List.Perm ms ns → List.Pairwise (fun x y => x ≤ y) ms → Q (.ref D) H'
def rListG (K : PySem.W.Frag) : List V → Hp → VK → Prop := fun xs H Q => ∃ p ys, xs = [.ref p] ∧ (H p = some (.lst ys) ∨ H p = some (.tup ys)) ∧ ∀ l H', H l = none → Same H H' → H' l = some (.lst ys) → Q (.ref l) H'
theorem call_listG {X : Cx} : CallR X (.type "list") (rListG X.K) := by
  intro pins s σ H xs us Q I r h
  obtain ⟨p, ys, e, hp, q⟩ := h
  exact call_list_of pins s σ H xs us Q I r ⟨p, ys, e, hp.elim (fun h => .inl (SqL.of h)) (fun h => .inr (.inl (.inl h))), fresh_any q⟩
def insL (xs : List V) (k : Nat) (y : V) : List V := xs.take k ++ y :: xs.drop k
def rInsG : V → List V → Hp → VK → Prop := fun x vs H Q => ∃ l xs k y, x = .ref l ∧ vs = [.int k, y] ∧ H l = some (.lst xs) ∧ 0 ≤ k ∧ k ≤ xs.length ∧ xs.length < 1000 ∧ ∀ H', Mu H l (.lst (insL xs k.toNat y)) H' → Q .non H'
def tDPopG (td ty : TE) : TE := fun σ H Q => td σ H fun x H1 => ∃ a, x = .ref a ∧ (∃ kvs, H1 a = some (.dK kvs)) ∧ ty σ H1 fun y H2 => ∃ kvs k v, H2 a = some (.dK kvs) ∧ keyOf y = some k ∧ valV kvs k = some v ∧ ∀ H', Mu H2 a (.dK (dropK kvs k)) H' → Q v H'
section
variable {prog : Program} {w : World} {A : Around} {s : Shared}
theorem cl_loop {elt target iter : PySem.Expr} {ifs : List PySem.Expr} {scope : Scope} {pos : Pos} {it acc : Value} {env : Env} {R : Result → Shared → Prop} (I : Nat → Shared → Prop)
    (turn : ∀ n s, I n s → wpAny (model prog w) A (pyNext it) (fun r s₁ => match r with
      | none => R (.ok .next) s₁
      | some v => wpAny (model prog w) A (letOwnedTupleGo target it v) (fun _ s₀ => wpAny (model prog w) A (assign target env v) (fun _ s₂ =>
          wpAny (model prog w) A (forIn ifs true fun c r => if r = true then do let ok ← isTrue c env (eval c env); pure (ForInStep.yield ok) else pure (ForInStep.yield r)) (fun ok s₃ => if ok = true then wpAny (model prog w) A (eval elt env) (fun x s₄ =>
            wpAny (model prog w) A (call (.builtin "list.append") [acc, x]) (fun _ s₅ => ∃ m, m < n ∧ I m s₅) (notedBy (model prog w) A env fun e s' => R (.error e) s') s₄) (notedBy (model prog w) A env fun e s' => R (.error e) s') s₃
            else ∃ m, m < n ∧ I m s₃) (notedBy (model prog w) A env fun e s' => R (.error e) s') s₂)
          (notedBy (model prog w) A env fun e s' => R (.error e) s') s₀) (notedBy (model prog w) A env fun e s' => R (.error e) s') s₁) (notedBy (model prog w) A env fun e s' => R (.error e) s') s)
    (n : Nat) (h : I n s) : codeAny (model prog w) A (.compLoop (.ListComp elt [⟨target, iter, ifs, 0⟩] scope pos) 0 it acc env) R s := by
  refine codeAny_loop rfl I (fun n s hI => ?_) n h
  refine (show wpAny _ A ((compTurn (.ListComp elt [⟨target, iter, ifs, 0⟩] scope pos) 0 it acc env).onRaise _) _ _ s from wpAny_noted ?_)
  rw [compTurn_list]
  refine wpAny_bind (wpAny_standAt (wpAny_bind (wpAny_mono (turn n s hI) (fun r s1 q1 => ?_) fun _ _ z => z)))
  cases r with
  | none => exact wpAny_pure q1
  | some v =>
    refine wpAny_bind (wpAny_mono q1 (fun _ s2 q2 => wpAny_bind (wpAny_mono q2 (fun _ s3 q3 => wpAny_bind (wpAny_mono q3 (fun b s4 q4 => ?_) fun _ _ z => z)) fun _ _ z => z)) fun _ _ z => z)
    cases b with
    | false => exact wpAny_pure ⟨rfl, q4⟩
    | true => exact wpAny_bind (wpAny_bind (wpAny_mono q4 (fun x s5 q5 => wpAny_bind (wpAny_mono q5 (fun _ s6 q6 => wpAny_pure (wpAny_pure ⟨rfl, q6⟩)) fun _ _ z => z)) fun _ _ z => z))
end
structure CompScopeN (X : Cx) (scope : Scope) (cl : List (Str × Addr)) (N : List Str) (cap : List Nat) (k : Nat) : Prop where
  kind : scope.kind = .function
  clos : X.Ok → closureFor scope X.env = pure cl
  ncell : ∀ y ∈ scope.names, y.2 ≠ .cell
  names : ∀ y ∈ scope.names, y.2 = .local → scope.names.lookup y.1 = some .local
  nd : N.Nodup
  has : ∀ y, ((relabel scope X.env).names.lookup y = some .cell ∨ (relabel scope X.env).names.lookup y = some .free) → ∃ c, cl.lookup y = some c
  sub : X.Ok → ∀ y c, cl.lookup y = some c → X.env.cells.lookup y = some c
  len : N.length = cap.length + k
  cap : ∀ (j i : Nat) (y : Str), N[j + k]? = some y → cap[j]? = some i → X.N[i]? = some y ∧ Vis X.env.scope y ∧ X.env.kindOf y ≠ some .local ∧ ((relabel scope X.env).names.lookup y = some .cell ∨ (relabel scope X.env).names.lookup y = some .free)
def frameN (k : Nat) (σ : St) (cap : List Nat) : St := List.replicate k none ++ capOf σ cap
def tCompN (k : Nat) (cap : List Nat) (wi : TI) (g : TG) (tc : TT) (te : TE) : TE := fun σ H Q => wi σ H fun J H1 => ∀ D, H1 D = none → ∃ W : Nat → Nat → St → Hp → Prop, (∃ m, W 0 m (frameN k σ cap) (upd H1 D (.lst []))) ∧ ∀ i m σ1 H, W i m σ1 H →
  (J.stop i H ∧ Q (.ref D) H) ∨ (J.go i H ∧ ∀ x H', J.yld i H x H' → g x σ1 H' fun σ2 H1 => tc σ2 H1 fun b H2 => if b = true then te σ2 H2 fun v H3 => ∃ ys, H3 D = some (.lst ys) ∧ ys.length < sizeLine ∧ ∃ m', m' < m ∧ W (i + 1) m' σ2 (upd H3 D (.lst (ys ++ [v])))
    else ∃ m', m' < m ∧ W (i + 1) m' σ2 H2)
section
variable {X : Cx} {pins : List (Addr × Obj)} {σ : St} {H : Hp} {s : Shared} {scope : Scope} {cl : List (Str × Addr)} {N : List Str} {cap : List Nat} {k : Nat}
theorem Inv.enterN {fp : List Addr} {h' : Heap} {tk : Nat} (S : CompScopeN X scope cl N cap k) (I : Inv X pins σ H s) (f : ∀ b ∈ fp, FpOk X pins H b ∧ b < s.heap.objs.size) (hn : h'.Ns s.heap.objs.size fun _ => none)
    (kp : ∀ b o, s.heap.get? b = some o → h'.get? b = some o) : Inv (X.comp scope cl N s.heap.objs.size fp s H) [] (frameN k σ cap) H { s with heap := h', toks := tk } := by
  have nC : ∀ b o, s.heap.get? b = some o → b ≠ s.heap.objs.size := fun b o e => Nat.ne_of_lt (Heap.lt_size e)
  have ok := I.ok
  have cellOut : ∀ y c, cl.lookup y = some c → ∃ v, s.heap.IsCell c v := fun y c e => I.cell y c (S.sub I.ok y c e)
  refine ⟨⟨ok.mod, ?_, ok.glob, ok.blt, Nat.le_refl _, fun x y c a b => ok.inj x y c (S.sub I.ok x c a) (S.sub I.ok y c b), S.has, fun _ _ z => absurd z Bool.false_ne_true, ok.hd, ok.frames, .inl rfl, fun b hb => ⟨Nat.ne_of_lt (f b hb).2, fun y c e => (f b hb).1.2.2.2.2.1 y c (S.sub I.ok y c e)⟩, I.bs, Nat.le_trans ok.bsz I.sz, fun b o e hb => ?_, fun b hb z => ?_, I.stack, I.stkFree⟩,
    rfl, I.bare, Un.kept kp, ⟨_, hn, fun i y v a b c => ?_⟩, fun y c e => ?_, I.hok.fresh (Nat.le_refl _), fun y c e => I.freeC y c (S.sub I.ok y c e), fun p hp => by simp at hp, I.hok.kept kp, ?_⟩
  · exact S.kind
  · have := (f b hb).1.2.2.2.1
    rcases this with z | z
    · exact ok.noex b o e z
    · have l1 := Heap.lt_size e
      exact absurd (Nat.lt_of_lt_of_le l1 (Nat.le_trans ok.bsz z)) (Nat.lt_irrefl _)
  · rcases List.mem_cons.mp (I.stkSub b z) with q | q
    · exact (f b hb).1.2.1 q
    · exact (f b hb).1.2.2.1 q
  · unfold frameN at b
    by_cases hik : i < k
    · rw [List.getElem?_append_left (by rw [List.length_replicate]; exact hik)] at b
      simp [hik] at b
    · obtain ⟨j, rfl⟩ : ∃ j, i = j + k := ⟨i - k, by omega⟩
      rw [List.getElem?_append_right (by rw [List.length_replicate]; omega), List.length_replicate, Nat.add_sub_cancel] at b
      unfold capOf at b
      rw [List.getElem?_map] at b
      cases e : cap[j]? with
      | none => rw [e] at b; cases b
      | some i =>
        rw [e] at b
        have b : (σ[i]?).join = some v := by simpa using b
        obtain ⟨p1, p2, p3, p4⟩ := S.cap j i y a e
        have b' : σ[i]? = some (some v) := by
          cases q : σ[i]? with
          | none => rw [q] at b; cases b
          | some w => rw [q] at b; exact congrArg some b
        obtain ⟨m, hm, hl⟩ := I.loc
        obtain ⟨u, ru, l⟩ := hl i y v p1 b' p2
        refine ⟨u, ru, .inr ⟨p4, ?_⟩⟩
        rcases l with l | ⟨l, c0, e0, o', q', hd'⟩
        · exact absurd l.1 p3
        · obtain ⟨c, ec⟩ := S.has y p4
          have := S.sub I.ok y c ec
          rw [e0] at this
          cases this
          exact ⟨c0, ec, o', kp _ _ q', hd'⟩
  · obtain ⟨v, o, q, hd⟩ := cellOut y c e
    exact ⟨v, o, kp _ _ q, hd⟩
  · show (frameN k σ cap).length = N.length
    unfold frameN capOf
    rw [S.len, List.length_append, List.length_replicate, List.length_map]
    omega
end
section
variable {X : Cx} {scope : Scope} {cl : List (Str × Addr)} {N : List Str} {cap : List Nat} {k : Nat} {tg : Expr} {g : TG} {pos : Pos} {iter elt : Expr} {ifs : List Expr} {wi : TI} {tc : TT} {te : TE}
theorem comp_coreN {use : Option (Value → Sem Unit)} {Qv : Value → Shared → Prop} {pins : List (Addr × Obj)} {s : Shared} {σ : St} {H : Hp} {Q : VK} {pos' : Pos} (S : CompScopeN X scope cl N cap k) (hc : X.calm = true) (hi : PI X tg iter wi) (hg : ∀ C fp s₀ H₀, PG (X.comp scope cl N C fp s₀ H₀) tg g)
    (ht : ∀ C fp s₀ H₀, PTs (X.comp scope cl N C fp s₀ H₀) ifs tc) (he : ∀ C fp s₀ H₀, PE (X.comp scope cl N C fp s₀ H₀) elt te) (hs : ∀ x, foldedSetIterable iter X.env x = pure x)
    (I : Inv X pins σ H s) (h : tCompN k cap wi g tc te σ H Q)
    (fin : ∀ (D C : Addr) (H6 : Hp) (s6 : Shared) (m : Str → Option Value), Inv X pins σ H6 s6 → FpOk X pins H6 C → s6.heap.Ns C m → Q (.ref D) H6 → compPost (model X.prog X.w) X.A X.xe use Qv (.ref D) C (.ok .next) s6) :
    wpAny (model X.prog X.w) X.A (comprehension (.ListComp elt [⟨tg, iter, ifs, 0⟩] scope pos) scope X.env pos' (newList []) false (eval iter X.env) use) Qv X.xe s := by
  refine wpAny_comprehension_free (use := use) rfl hs (S.clos I.ok) S.kind S.names (thn (hi pins s σ H _ I h) fun v s1 h1 => thn h1 fun itv s2 h2 => ?_)
  obtain ⟨it, fp, tn, J, H2, rfl, I2, T, st2, f2, q⟩ := h2
  obtain ⟨W, ⟨m0, w0⟩, turn⟩ := q s2.heap.objs.size (I2.hok.fresh (Nat.le_refl _))
  have I3 : Inv X pins σ (upd H2 s2.heap.objs.size (.lst [])) { s2 with heap := s2.heap.push { cls := .type "list", dict := none, data := .seq ([] : List Value).toArray } } :=
    I2.laid (t' := s2.toks) (fun b u e => Heap.get?_push_of_some _ e) (Nat.le_refl _) ⟨Nat.zero_le _, [], 0, .nil, Heap.get?_push_size _ rfl⟩
  refine wpAny_newObj_type (wpAny_newFunctionEnv S.ncell (by intro y hy; simp at hy) (fun h4 hns hsb => ?_) S.kind)
  generalize hs3 : ({ s2 with heap := s2.heap.push { cls := .type "list", dict := none, data := .seq ([] : List Value).toArray } } : Shared) = s3 at I3 hns hsb ⊢
  have f3 : ∀ b ∈ fp, FpOk X pins (upd H2 s2.heap.objs.size (.lst [])) b ∧ b < s3.heap.objs.size := fun b hb => by
    obtain ⟨o, ho, _⟩ := T.obj _ _ st2 b hb
    have l1 : b < s2.heap.objs.size := Heap.lt_size ho
    refine ⟨⟨?_, (f2 b hb).2⟩, ?_⟩
    · rw [upd_ne (Nat.ne_of_lt l1)]; exact (f2 b hb).1
    · rw [← hs3, Heap.size_push]; exact Nat.lt_succ_of_lt l1
  have nsN : h4.Ns s3.heap.objs.size fun _ => none := by
    have := hns
    simpa using this
  have keep4 : ∀ b o, s3.heap.get? b = some o → h4.get? b = some o := fun b o e => (hsb.2 b (Nat.ne_of_lt (Heap.lt_size e))).trans (Heap.get?_push_of_some _ e)
  have Ic := I3.enterN (tk := s3.toks + ([] : List (Str × Value)).length) S f3 nsN keep4
  have st4 : tn 0 h4 := T.keep _ _ _ st2 fun b hb o e => keep4 b o (by rw [← hs3]; exact Heap.get?_push_of_some _ e)
  have stat : ∀ {H' : Hp}, (∀ b ∈ fp, H' b = none) → ∀ b ∈ fp, FpOk (X.comp scope cl N s3.heap.objs.size fp s3 (upd H2 s2.heap.objs.size (.lst []))) [] H' b := fun hn b hb =>
    ⟨hn b hb, Nat.ne_of_lt (f3 b hb).2, fun z => (List.mem_cons.mp (I3.stkSub b z)).elim (fun q => (f3 b hb).1.2.1 q) fun q => (f3 b hb).1.2.2.1 q, .inl hb, fun y c e => (f3 b hb).1.2.2.2.2.1 y c (S.sub I.ok y c e), fun p hp => by simp at hp⟩
  have out : ∀ {σx : St} {H6 : Hp} {s6 : Shared}, Inv (X.comp scope cl N s3.heap.objs.size fp s3 (upd H2 s2.heap.objs.size (.lst []))) [] σx H6 s6 → Q (.ref s2.heap.objs.size) H6 →
      compPost (model X.prog X.w) X.A X.xe use Qv (Value.ref s2.heap.objs.size) s3.heap.objs.size (.ok .next) s6 := fun {σx H6 s6} I6 q6 => by
    obtain ⟨m, hm, _⟩ := I6.loc
    have Io : Inv X pins σ H6 s6 := I3.call' I6.os I6.base I6.hok I6.bare fun b hb => ⟨(f3 b hb).1.2.2.2.1, (f3 b hb).1.2.1, (f3 b hb).1.2.2.2.2.1, (f3 b hb).1.2.2.2.2.2⟩
    exact fin _ _ _ _ m Io (I3.fpOk (b := s3.heap.objs.size) (H' := H6) (Nat.le_refl _) I6.free) hm q6
  have loop : codeAny (model X.prog X.w) X.A (.compLoop (.ListComp elt [⟨tg, iter, ifs, 0⟩] scope pos) 0 (.ref it) (.ref s2.heap.objs.size) (compEnvC scope cl s3.heap.objs.size X.env))
      (compPost (model X.prog X.w) X.A X.xe use Qv (Value.ref s2.heap.objs.size) s3.heap.objs.size) { s3 with heap := h4, toks := s3.toks + ([] : List (Str × Value)).length } := by
    refine cl_loop (fun n s' => ∃ i σx H', Inv (X.comp scope cl N s3.heap.objs.size fp s3 (upd H2 s2.heap.objs.size (.lst []))) [] σx H' s' ∧ tn i s'.heap ∧ (∀ b ∈ fp, H' b = none) ∧ W i n σx H') ?_ m0 ⟨0, _, _, Ic, st4, fun b hb => (f3 b hb).1.1, w0⟩
    rintro n s5 ⟨i, σx, H5, I5, st5, fr5, w5⟩
    rcases turn i n σx H5 w5 with ⟨stop, qd⟩ | ⟨go, step⟩
    · refine wpAny_mono (T.done (X.comp scope cl N s3.heap.objs.size fp s3 (upd H2 s2.heap.objs.size (.lst []))) rfl rfl rfl hc i [] s5 _ H5 (fun _ _ => False) I5 (stat fr5) st5 stop) (fun r s6 ⟨hr, I6⟩ => ?_) fun _ _ z => z.elim
      subst hr
      exact out I6 qd
    · refine wpAny_mono (T.item (X.comp scope cl N s3.heap.objs.size fp s3 (upd H2 s2.heap.objs.size (.lst []))) rfl rfl rfl hc i [] s5 _ H5 (fun _ _ => False) I5 (stat fr5) st5 go) (fun r s6 ⟨u, hr, h6⟩ => ?_) fun _ _ z => z.elim
      subst hr
      refine wpAny_mono h6 (fun _ s7 ⟨v, H7, I7, r7, y7, st7, fr7⟩ => ?_) fun _ _ z => z.elim
      have I7' := I7.pinned (stat fr7) (T.obj _ _ st7)
      have again : ∀ {σ9 : St} {H9 : Hp} {s9 : Shared}, Inv (X.comp scope cl N s3.heap.objs.size fp s3 (upd H2 s2.heap.objs.size (.lst []))) ([] ++ pinsAt fp s7.heap) σ9 H9 s9 → (∃ m', m' < n ∧ W (i + 1) m' σ9 H9) →
          ∃ m', m' < n ∧ ∃ i σx H', Inv (X.comp scope cl N s3.heap.objs.size fp s3 (upd H2 s2.heap.objs.size (.lst []))) [] σx H' s9 ∧ tn i s9.heap ∧ (∀ b ∈ fp, H' b = none) ∧ W i m' σx H' := fun {σ9 H9 s9} I9 ⟨m', lt, w'⟩ => by
        refine ⟨m', lt, i + 1, σ9, H9, I9.unpinned, T.keep _ _ _ st7 fun b hb o e => (I9.pin (b, o) (List.mem_append_right _ (List.mem_append_right _ (mem_pinsAt hb e)))).1, fun b hb => ?_, w'⟩
        obtain ⟨o, e, d⟩ := T.obj _ _ st7 b hb
        exact (I9.pin (b, o) (List.mem_append_right _ (List.mem_append_right _ (mem_pinsAt hb e)))).2.1
      refine wpAny_mono (hg _ _ _ _ _ s7 σx H7 v u _ I7' r7 (step v H7 y7)) (fun _ s8 ⟨σ8, H8, I8, q8⟩ => ?_) fun _ _ z => z.elim
      refine wpAny_mono (ht _ _ _ _ _ s8 _ H8 _ I8 q8) (fun b s9 ⟨H9, I9, q9⟩ => ?_) fun _ _ z => z.elim
      cases b with
      | false => exact again I9 q9
      | true =>
        refine wpAny_mono (he _ _ _ _ _ s9 _ H9 _ I9 q9) (fun u' s10 ⟨v', H10, I10, r10, ys, hD, hz, q10⟩ => ?_) fun _ _ z => z.elim
        refine wpAny_mono (mt_append (X := X.comp scope cl N s3.heap.objs.size fp s3 (upd H2 s2.heap.objs.size (.lst []))) _ s10 _ H10 (.ref s2.heap.objs.size) [v'] (.ref s2.heap.objs.size) [u'] (fun _ H' => ∃ m', m' < n ∧ W (i + 1) m' σ8 H') I10 rfl (.cons r10 .nil) ⟨_, ys, v', rfl, rfl, hD, hz, q10⟩) (fun _ s11 ⟨_, H11, I11, _, q11⟩ => again I11 q11) fun _ _ z => z.elim
  exact codeAny_compStart_list loop (T.self _ 0 _ _ _ st4 loop)
theorem pe_compN (S : CompScopeN X scope cl N cap k) (hc : X.calm = true) (hi : PI X tg iter wi) (hg : ∀ C fp s₀ H₀, PG (X.comp scope cl N C fp s₀ H₀) tg g)
    (ht : ∀ C fp s₀ H₀, PTs (X.comp scope cl N C fp s₀ H₀) ifs tc) (he : ∀ C fp s₀ H₀, PE (X.comp scope cl N C fp s₀ H₀) elt te) (hs : ∀ x, foldedSetIterable iter X.env x = pure x := by intro _; rfl) :
    PE X (.ListComp elt [⟨tg, iter, ifs, 0⟩] scope pos) (tCompN k cap wi g tc te) := by
  intro pins s σ H Q I h
  rw [eval_ListComp]
  refine comp_coreN S hc hi hg ht he hs I h fun D C H6 s6 m Io Cf hm q6 => ?_
  exact ⟨m, hm, fun h' sb => ⟨.ref D, H6, Io.turned (it := C) (t' := s6.toks) (fun b o n e => (sb.2 b n).trans e) Cf.1 Cf.2.1 Cf.2.2.2.1 Cf.2.2.2.2.1 Cf.2.2.2.2.2, rfl, q6⟩⟩
theorem ps_setCN {i : Nat} {y : Str} {py spos : Pos} (hN : X.N.Nodup) (hiy : X.N[i]? = some y) (hy : Loc X.env.scope y) (S : CompScopeN X scope cl N cap k) (hc : X.calm = true) (hi : PI X tg iter wi) (hg : ∀ C fp s₀ H₀, PG (X.comp scope cl N C fp s₀ H₀) tg g)
    (ht : ∀ C fp s₀ H₀, PTs (X.comp scope cl N C fp s₀ H₀) ifs tc) (he : ∀ C fp s₀ H₀, PE (X.comp scope cl N C fp s₀ H₀) elt te) (hs : ∀ x, foldedSetIterable iter X.env x = pure x := by intro _; rfl)
    (hsw : swapsWith (.ListComp elt [⟨tg, iter, ifs, 0⟩] scope pos) (some (.Name y py)) spos.line X.env = pure true := by rfl)
    (hf : X.fn y = true ∨ X.env.scope.names.lookup y = some .local := by first | exact .inl rfl | exact .inr rfl | assumption) :
    PS X (.Assign [.Name y py] (.ListComp elt [⟨tg, iter, ifs, 0⟩] scope pos) spos) (tAsg (tCompN k cap wi g tc te) (gName i)) := by
  intro pins s σ H D I h
  rw [exec_Assign_Name_used _ _ _ _ hsw]
  refine wpAny_bind (wpAny_standAt (wpAny_bind ?_))
  show wpAny _ X.A (do let _ ← comprehension (.ListComp elt [⟨tg, iter, ifs, 0⟩] scope pos) scope X.env _ (newList []) false (eval iter X.env) (some (assign (.Name y py) X.env))) _ _ s
  refine wpAny_bind (wpAny_mono (comp_coreN (use := some (assign (.Name y py) X.env)) (Qv := fun _ s' => SP X pins D .next s') S hc hi hg ht he hs I h fun D' C H6 s6 m Io Cf hm q6 => ?_) (fun _ s' hq => wpAny_pure (wpAny_pure hq)) fun _ _ e => e)
  show wpAny _ X.A (assign (.Name y py) X.env (.ref D')) _ _ _
  refine wpAny_assign_Name (store_ok2 (v := .ref D') Io hN hiy hy rfl (fun s7 I7 hsb => ?_) hf)
  obtain ⟨a, sb, ha⟩ := hsb
  have hne : C ≠ a := fun e => ha.elim (fun q => Cf.2.1 (e.trans q)) fun q => Cf.2.2.2.2.1 _ _ q e.symm
  refine ⟨m, hm.at' fun o e => (sb.2 C hne).trans e, fun h' sb' => ?_⟩
  exact ⟨_, H6, I7.turned (it := C) (t' := s7.toks) (fun b o n e => (sb'.2 b n).trans e) Cf.1 Cf.2.1 Cf.2.2.2.1 Cf.2.2.2.2.1 Cf.2.2.2.2.2, q6⟩
end
theorem comp_scopeN (k : Nat) {X : Cx} {scope : Scope} {N : List Str} {cap : List Nat} (hk : scope.kind = .function) (h1 : scope.names.all (fun y => y.2 != .cell) = true) (h2 : scope.names.all (fun y => y.2 != .local || scope.names.lookup y.1 == some .local) = true)
    (h3 : scope.names.all (fun y => y.2 != .free || X.env.scope.names.lookup y.1 == some .cell || X.env.scope.names.lookup y.1 == some .free) = true)
    (nd : N.Nodup) (hl : N.length = cap.length + k) (hc : (N.drop k).map some = cap.map (fun i => X.N[i]?)) (hf : (N.drop k).all (fun y => scope.names.lookup y == some .free) = true) : CompScopeN X scope (clOf X.env scope) N cap k := by
  have fr : ∀ y : Str, (y, NameKind.free) ∈ scope.names → X.env.scope.names.lookup y = some .cell ∨ X.env.scope.names.lookup y = some .free := fun y hy => by
    have := List.all_eq_true.mp h3 _ hy
    simpa using this
  have nc : ∀ y ∈ scope.names, y.2 ≠ .cell := fun y hy => by
    have := List.all_eq_true.mp h1 y hy
    simpa using this
  have fr2 : X.Ok → ∀ y ∈ scope.names, y.2 = .free → ∃ c, X.env.cells.lookup y.1 = some c := fun ok y hy e => by
    obtain ⟨n, k⟩ := y
    have e : k = .free := e
    subst e
    exact ok.has n (fr n hy)
  refine ⟨hk, fun ok => closure_of (fr2 ok), nc, fun y hy e => ?_, nd, fun y hy => ?_, fun ok y c e => cl_sub scope.names [] (fr2 ok) (fun _ _ z => by simp at z) y c e, hl, fun j i y a b => ?_⟩
  · have := List.all_eq_true.mp h2 y hy
    simpa [e] using this
  · have hm : (y, NameKind.free) ∈ scope.names := by
      have : ∃ k', (k' = NameKind.cell ∨ k' = NameKind.free) ∧ (y, k') ∈ (relabel scope X.env).names := by
        rcases hy with hy | hy
        · exact ⟨_, .inl rfl, lookup_mem hy⟩
        · exact ⟨_, .inr rfl, lookup_mem hy⟩
      obtain ⟨k', hk', hm⟩ := this
      obtain ⟨⟨n, k⟩, hz, e⟩ := List.mem_map.mp hm
      dsimp only at e
      split at e
      · rename_i hcond
        obtain ⟨rfl, rfl⟩ := Prod.mk.inj e
        simp only [Bool.and_eq_true] at hcond
        have : k = .free := by simpa using hcond.1.1
        subst this
        exact hz
      · obtain ⟨rfl, rfl⟩ := Prod.mk.inj e
        rcases hk' with rfl | rfl
        · exact absurd rfl (nc _ hz)
        · exact hz
    have := cl_has (env := X.env) scope.names [] y (.inl hm)
    exact Option.isSome_iff_exists.mp this
  · have hy : y ∈ N.drop k := by
      refine List.mem_of_getElem? (i := j) ?_
      rw [List.getElem?_drop, Nat.add_comm]
      exact a
    have e1 : X.N[i]? = some y := by
      have := congrArg (fun l => l[j]?) hc
      simp only [List.getElem?_map, List.getElem?_drop, Nat.add_comm k j, a, b, Option.map_some] at this
      exact (Option.some.inj this).symm
    have e2 : scope.names.lookup y = some .free := by
      have := List.all_eq_true.mp hf y hy
      simpa using this
    have e3 := fr y (lookup_mem e2)
    refine ⟨e1, e3.elim (fun z => .inr (.inl z)) fun z => .inr (.inr z), ?_, lookup_relabel_free e2⟩
    intro z
    have z : X.env.scope.names.lookup y = some .local := z
    rcases e3 with e3 | e3 <;> rw [e3] at z <;> cases z
def CompJ (J : It) (g : TG) (tc : TT) (te : TE) (cs : St) (H1 : Hp) (Q : VK) : Prop := ∀ D, H1 D = none → ∃ W : Nat → Nat → St → Hp → Prop, (∃ m, W 0 m cs (upd H1 D (.lst []))) ∧ ∀ i m σ1 H, W i m σ1 H →
  (J.stop i H ∧ Q (.ref D) H) ∨ (J.go i H ∧ ∀ x H', J.yld i H x H' → g x σ1 H' fun σ2 H1 => tc σ2 H1 fun b H2 => if b = true then te σ2 H2 fun v H3 => ∃ ys, H3 D = some (.lst ys) ∧ ys.length < sizeLine ∧ ∃ m', m' < m ∧ W (i + 1) m' σ2 (upd H3 D (.lst (ys ++ [v])))
    else ∃ m', m' < m ∧ W (i + 1) m' σ2 H2)
theorem tcomp_in {k : Nat} {cap : List Nat} {wi : TI} {g : TG} {tc : TT} {te : TE} {σ : St} {H : Hp} {Q : VK} (h : wi σ H fun J H1 => CompJ J g tc te (frameN k σ cap) H1 Q) : tCompN k cap wi g tc te σ H Q := h
def CW (xs : List V) (H1 : Hp) (D : Addr) (Pv : Nat → List V → St → Hp → Prop) (i m : Nat) (σ1 : St) (H : Hp) : Prop := m = xs.length - i ∧ i ≤ xs.length ∧ Same H1 H ∧ ∃ ys, H D = some (.lst ys) ∧ ys.length ≤ i ∧ Pv i ys σ1 H
def Put (xs : List V) (H1 : Hp) (D : Addr) (Pv : Nat → List V → St → Hp → Prop) (i : Nat) (σ2 : St) (v : V) (H3 : Hp) : Prop := ∃ ys, H3 D = some (.lst ys) ∧ ys.length < sizeLine ∧ ∃ m', m' < xs.length - i ∧ CW xs H1 D Pv (i + 1) m' σ2 (upd H3 D (.lst (ys ++ [v])))
def Skip (xs : List V) (H1 : Hp) (D : Addr) (Pv : Nat → List V → St → Hp → Prop) (i : Nat) (σ2 : St) (H2 : Hp) : Prop := ∃ m', m' < xs.length - i ∧ CW xs H1 D Pv (i + 1) m' σ2 H2
structure At (xs : List V) (H1 : Hp) (D : Addr) (i : Nat) (ys : List V) (H : Hp) : Prop where
  new : H1 D = none
  lt : i < xs.length
  sz : xs.length < sizeLine
  same : Same H1 H
  lst : H D = some (.lst ys)
  le : ys.length ≤ i
theorem At.put {xs : List V} {H1 : Hp} {D : Addr} {i : Nat} {ys : List V} {H H4 : Hp} {Pv : Nat → List V → St → Hp → Prop} {σ2 : St} {v : V} (a : At xs H1 D i ys H) (g : Same H H4) (p : ∀ H5, Mu H4 D (.lst (ys ++ [v])) H5 → Pv (i + 1) (ys ++ [v]) σ2 H5) : Put xs H1 D Pv i σ2 v H4 :=
  ⟨ys, g _ _ a.lst, by have := a.le; have := a.lt; have := a.sz; omega, xs.length - (i + 1), by have := a.lt; omega, rfl, a.lt, Mu.mk'.same (a.same.trans g) a.new, _, upd_same, by have := a.le; rw [List.length_append, List.length_singleton]; omega, p _ Mu.mk'⟩
theorem At.skip {xs : List V} {H1 : Hp} {D : Addr} {i : Nat} {ys : List V} {H H4 : Hp} {Pv : Nat → List V → St → Hp → Prop} {σ2 : St} (a : At xs H1 D i ys H) (g : Same H H4) (p : Pv (i + 1) ys σ2 H4) : Skip xs H1 D Pv i σ2 H4 :=
  ⟨xs.length - (i + 1), by have := a.lt; omega, rfl, a.lt, a.same.trans g, ys, g _ _ a.lst, Nat.le_succ_of_le a.le, p⟩
theorem compJ {J : It} {xs : List V} {ok : Hp → Prop} (O : Over J xs ok) {g : TG} {tc : TT} {te : TE} {cs : St} {H1 : Hp} {Q : VK} (hok : ∀ H, Same H1 H → ok H) (sz : xs.length < sizeLine) (Pv : Nat → List V → St → Hp → Prop)
    (h0 : ∀ H', Same H1 H' → Pv 0 [] cs H')
    (hs : ∀ D i x ys σ1 H', xs[i]? = some x → At xs H1 D i ys H' → Pv i ys σ1 H' → g x σ1 H' fun σ2 H2 => tc σ2 H2 fun b H3 => if b = true then te σ2 H3 fun v H4 => Put xs H1 D Pv i σ2 v H4 else Skip xs H1 D Pv i σ2 H3)
    (hd : ∀ D ys σ1 H', H1 D = none → Same H1 H' → H' D = some (.lst ys) → ys.length ≤ xs.length → Pv xs.length ys σ1 H' → Q (.ref D) H') : CompJ J g tc te cs H1 Q := by
  intro D hD
  refine ⟨CW xs H1 D Pv, ⟨_, rfl, Nat.zero_le _, same_new hD _, [], upd_same, Nat.le_refl _, h0 _ (same_new hD _)⟩, ?_⟩
  rintro i m σ1 H ⟨rfl, hi, sm, ys, hy, ly, p⟩
  by_cases hlt : i < xs.length
  · refine .inr ⟨O.go i _ (hok _ sm) hlt, fun x H' y => ?_⟩
    obtain ⟨rfl, hx⟩ := O.yld i _ x H' (hok _ sm) hlt y
    exact hs D i x ys σ1 H' hx ⟨hD, hlt, sz, sm, hy, ly⟩ p
  · have e : i = xs.length := by omega
    subst e
    exact .inl ⟨O.stop _ _ (hok _ sm) (Nat.le_refl _), hd D ys σ1 _ hD sm hy ly p⟩
theorem compJ_list {K : PySem.W.Frag} {a : Addr} {xs : List V} {g : TG} {tc : TT} {te : TE} {cs : St} {H1 : Hp} {Q : VK} (ha : H1 a = some (.lst xs)) (sz : xs.length < sizeLine) (Pv : Nat → List V → St → Hp → Prop)
    (h0 : ∀ H', Same H1 H' → Pv 0 [] cs H')
    (hs : ∀ D i x ys σ1 H', xs[i]? = some x → At xs H1 D i ys H' → Pv i ys σ1 H' → g x σ1 H' fun σ2 H2 => tc σ2 H2 fun b H3 => if b = true then te σ2 H3 fun v H4 => Put xs H1 D Pv i σ2 v H4 else Skip xs H1 D Pv i σ2 H3)
    (hd : ∀ D ys σ1 H', H1 D = none → Same H1 H' → H' D = some (.lst ys) → ys.length ≤ xs.length → Pv xs.length ys σ1 H' → Q (.ref D) H') : CompJ (Itl K a) g tc te cs H1 Q :=
  compJ over_list (fun H g => g _ _ ha) sz Pv h0 hs hd
theorem compJ_range {n : Nat} {g : TG} {tc : TT} {te : TE} {cs : St} {H1 : Hp} {Q : VK} (sz : n < 100000) (Pv : Nat → List V → St → Hp → Prop)
    (h0 : ∀ H', Same H1 H' → Pv 0 [] cs H')
    (hs : ∀ D i ys σ1 H', i < n → At ((List.range n).map fun (k : Nat) => V.int (0 + k)) H1 D i ys H' → Pv i ys σ1 H' → g (.int (i : Nat)) σ1 H' fun σ2 H2 => tc σ2 H2 fun b H3 => if b = true then te σ2 H3 fun v H4 => Put ((List.range n).map fun (k : Nat) => V.int (0 + k)) H1 D Pv i σ2 v H4 else Skip ((List.range n).map fun (k : Nat) => V.int (0 + k)) H1 D Pv i σ2 H3)
    (hd : ∀ D ys σ1 H', H1 D = none → Same H1 H' → H' D = some (.lst ys) → ys.length ≤ n → Pv n ys σ1 H' → Q (.ref D) H') : CompJ (Itr 0 n) g tc te cs H1 Q := by
  have el : ((List.range n).map fun (k : Nat) => V.int (0 + k)).length = n := by rw [List.length_map, List.length_range]
  refine compJ (over_range 0 n) (fun _ _ => trivial) (by rw [el]; unfold sizeLine; omega) Pv h0 (fun D i x ys σ1 H' hx a p => ?_) (fun D ys σ1 H' h1 h2 h3 h4 h5 => hd D ys σ1 H' h1 h2 h3 (by rw [el] at h4; exact h4) (by rw [el] at h5; exact h5))
  have hi : i < n := by have := a.lt; rw [el] at this; exact this
  have ex : x = .int (i : Nat) := by
    rw [List.getElem?_map, List.getElem?_range hi] at hx
    simp at hx
    exact hx.symm
  rw [ex]
  exact hs D i ys σ1 H' hi a p
def nw (H H' : Hp) : Hp := fun a => match H a with | none => H' a | some _ => none
theorem nw_of {H H' : Hp} {a : Addr} {u : HO} (h : H a = none) (h' : H' a = some u) : nw H H' a = some u := by
  unfold nw; rw [h]; exact h'
theorem nw_inv {H H' : Hp} {a : Addr} {u : HO} (e : nw H H' a = some u) : H a = none ∧ H' a = some u := by
  unfold nw at e
  split at e
  · rename_i h; exact ⟨h, e⟩
  · cases e
end L2
set_option Elab.async false
set_option linter.all false
set_option maxRecDepth 100000
set_option maxHeartbeats 4000000
namespace L2
open PySem PySem.Spec PyProof.Rows
def hide (D : Addr) (H : Hp) : Hp := fun c => if c = D then none else H c
theorem hide_of {D c : Addr} {H : Hp} {u : HO} (n : c ≠ D) (h : H c = some u) : hide D H c = some u := by unfold hide; rw [if_neg n]; exact h
theorem hide_inv {D c : Addr} {H : Hp} {u : HO} (h : hide D H c = some u) : c ≠ D ∧ H c = some u := by
  unfold hide at h
  by_cases e : c = D
  · rw [if_pos e] at h; cases h
  · rw [if_neg e] at h; exact ⟨e, h⟩
theorem hide_le {D : Addr} {H : Hp} : Same (hide D H) H := fun c u h => (hide_inv h).2
theorem compJD {J : It} {xs : List V} {ok : Hp → Prop} (O : Over J xs ok) {g : TG} {tc : TT} {te : TE} {cs : St} {H1 : Hp} {Q : VK} (hok : ∀ H, Same H1 H → ok H) (sz : xs.length < sizeLine) (Pv : Addr → Nat → List V → St → Hp → Prop)
    (h0 : ∀ D H', H1 D = none → Same H1 H' → H' D = some (.lst []) → Pv D 0 [] cs H')
    (hs : ∀ D i x ys σ1 H', xs[i]? = some x → At xs H1 D i ys H' → Pv D i ys σ1 H' → g x σ1 H' fun σ2 H2 => tc σ2 H2 fun b H3 => if b = true then te σ2 H3 fun v H4 => Put xs H1 D (Pv D) i σ2 v H4 else Skip xs H1 D (Pv D) i σ2 H3)
    (hd : ∀ D ys σ1 H', H1 D = none → Same H1 H' → H' D = some (.lst ys) → ys.length ≤ xs.length → Pv D xs.length ys σ1 H' → Q (.ref D) H') : CompJ J g tc te cs H1 Q := by
  intro D hD
  refine ⟨CW xs H1 D (Pv D), ⟨_, rfl, Nat.zero_le _, same_new hD _, [], upd_same, Nat.le_refl _, h0 D _ hD (same_new hD _) upd_same⟩, ?_⟩
  rintro i m σ1 H ⟨rfl, hi, sm, ys, hy, ly, p⟩
  by_cases hlt : i < xs.length
  · refine .inr ⟨O.go i _ (hok _ sm) hlt, fun x H' y => ?_⟩
    obtain ⟨rfl, hx⟩ := O.yld i _ x H' (hok _ sm) hlt y
    exact hs D i x ys σ1 H' hx ⟨hD, hlt, sz, sm, hy, ly⟩ p
  · have e : i = xs.length := by omega
    subst e
    exact .inl ⟨O.stop _ _ (hok _ sm) (Nat.le_refl _), hd D ys σ1 _ hD sm hy ly p⟩
theorem compJD_list {K : PySem.W.Frag} {a : Addr} {xs : List V} {g : TG} {tc : TT} {te : TE} {cs : St} {H1 : Hp} {Q : VK} (ha : H1 a = some (.lst xs)) (sz : xs.length < sizeLine) (Pv : Addr → Nat → List V → St → Hp → Prop)
    (h0 : ∀ D H', H1 D = none → Same H1 H' → H' D = some (.lst []) → Pv D 0 [] cs H')
    (hs : ∀ D i x ys σ1 H', xs[i]? = some x → At xs H1 D i ys H' → Pv D i ys σ1 H' → g x σ1 H' fun σ2 H2 => tc σ2 H2 fun b H3 => if b = true then te σ2 H3 fun v H4 => Put xs H1 D (Pv D) i σ2 v H4 else Skip xs H1 D (Pv D) i σ2 H3)
    (hd : ∀ D ys σ1 H', H1 D = none → Same H1 H' → H' D = some (.lst ys) → ys.length ≤ xs.length → Pv D xs.length ys σ1 H' → Q (.ref D) H') : CompJ (Itl K a) g tc te cs H1 Q :=
  compJD over_list (fun H g => g _ _ ha) sz Pv h0 hs hd
theorem compJD_range {n : Nat} {g : TG} {tc : TT} {te : TE} {cs : St} {H1 : Hp} {Q : VK} (sz : n < 100000) (Pv : Addr → Nat → List V → St → Hp → Prop)
    (h0 : ∀ D H', H1 D = none → Same H1 H' → H' D = some (.lst []) → Pv D 0 [] cs H')
    (hs : ∀ D i ys σ1 H', i < n → At ((List.range n).map fun (k : Nat) => V.int (0 + k)) H1 D i ys H' → Pv D i ys σ1 H' → g (.int (i : Nat)) σ1 H' fun σ2 H2 => tc σ2 H2 fun b H3 => if b = true then te σ2 H3 fun v H4 => Put ((List.range n).map fun (k : Nat) => V.int (0 + k)) H1 D (Pv D) i σ2 v H4 else Skip ((List.range n).map fun (k : Nat) => V.int (0 + k)) H1 D (Pv D) i σ2 H3)
    (hd : ∀ D ys σ1 H', H1 D = none → Same H1 H' → H' D = some (.lst ys) → ys.length ≤ n → Pv D n ys σ1 H' → Q (.ref D) H') : CompJ (Itr 0 n) g tc te cs H1 Q := by
  have el : ((List.range n).map fun (k : Nat) => V.int (0 + k)).length = n := by rw [List.length_map, List.length_range]
  refine compJD (over_range 0 n) (fun _ _ => trivial) (by rw [el]; unfold sizeLine; omega) Pv h0 (fun D i x ys σ1 H' hx a p => ?_) (fun D ys σ1 H' h1 h2 h3 h4 h5 => hd D ys σ1 H' h1 h2 h3 (by rw [el] at h4; exact h4) (by rw [el] at h5; exact h5))
  have hi : i < n := by have := a.lt; rw [el] at this; exact this
  have ex : x = .int (i : Nat) := by
    rw [List.getElem?_map, List.getElem?_range hi] at hx
    simp at hx
    exact hx.symm
  rw [ex]
  exact hs D i ys σ1 H' hi a p
end L2
set_option Elab.async false
set_option linter.all false
set_option maxRecDepth 100000
set_option maxHeartbeats 4000000
namespace L2
open PySem PySem.Spec PyProof.Rows
section
variable {X : Cx}
def rPopAtG : V → List V → Hp → VK → Prop := fun x vs H Q => ∃ l xs i y, x = .ref l ∧ vs = [.int i] ∧ H l = some (.lst xs) ∧ 0 ≤ i ∧ i < xs.length ∧ xs.length < 100000 ∧ xs[i.toNat]? = some y ∧ ∀ H', Mu H l (.lst (xs.eraseIdx i.toNat)) H' → Q y H'
def tRng1 (ta : TA) : TE := fun σ H Q => ta σ H fun vs H1 => ∃ j : Int, vs = [.int j] ∧ ∀ p H', H1 p = none → Same H1 H' → H' p = some (.rng 0 j) → Q (.ref p) H'
def rListRng : List V → Hp → VK → Prop := fun xs H Q => ∃ p, ∃ n : Nat, xs = [.ref p] ∧ H p = some (.rng 0 n) ∧ n < 100000 ∧ ∀ l H', H l = none → Same H H' → H' l = some (.lst (((List.range n).map fun k => ((k : Nat) : Int)).map V.int)) → Q (.ref l) H'
def tRev (te : TE) (ts : TO) : TE := fun σ H Q => te σ H fun x H1 => ts σ H1 fun o H2 => o = some (-1) ∧ ∃ a xs, x = .ref a ∧ H2 a = some (.lst xs) ∧ ∀ p H', H2 p = none → Same H2 H' → H' p = some (.lst xs.reverse) → Q (.ref p) H'
end
end L2
set_option Elab.async false
set_option linter.all false
set_option maxRecDepth 100000
set_option maxHeartbeats 4000000
namespace L2
open PySem PySem.Spec PyProof.Rows
section
variable {X : Cx}
def rMinL : List V → Hp → VK → Prop := fun xs H Q => ∃ (p : Addr) (ns : List Int), xs = [.ref p] ∧ H p = some (.lst (ns.map V.int)) ∧ 0 < ns.length ∧ ∀ M : Int, M ∈ ns → (∀ a ∈ ns, M ≤ a) → Q (.int M) H
def rIdxG : V → List V → Hp → VK → Prop := fun x vs H Q => ∃ (l : Addr) (ns : List Int) (k : Int), x = .ref l ∧ vs = [.int k] ∧ H l = some (.lst (ns.map V.int)) ∧ k ∈ ns ∧ ns.length < 100000 ∧ Q (.int (ns.idxOf k : Nat)) H
end
end L2
set_option Elab.async false
set_option linter.all false
set_option maxRecDepth 100000
set_option maxHeartbeats 4000000
namespace L2
open PySem PySem.Spec PyProof.Rows
theorem lookup_n {f : Str} : List.lookup f ([] : List (Str × V)) = none := rfl
theorem lookup_c {f g : Str} {v : V} {r : List (Str × V)} : List.lookup f ((g, v) :: r) = if f = g then some v else List.lookup f r := by
  by_cases h : f = g
  · have hb : (f == g) = true := beq_iff_eq.mpr h
    simp only [List.lookup, hb, if_pos h]
  · have hb : (f == g) = false := beq_eq_false_iff_ne.mpr h
    simp only [List.lookup, hb, if_neg h]
theorem putF_n {f : Str} {v : V} : putF f v [] = [(f, v)] := rfl
theorem putF_c {f g : Str} {v x : V} {r : List (Str × V)} : putF f v ((g, x) :: r) = if g = f then (g, v) :: r else (g, x) :: putF f v r := rfl
structure MethAt (K : PySem.W.Frag) (C : Addr) (m q : Str) (st : Stmt) (ps : List Str) : Prop where
  ex : ∃ f fd, Meth K C m f ∧ Fun K m q st f fd ∧ Binds K fd ps []
structure OkM (P : Program) (w : World) (K : PySem.W.Frag) (mg : Str → Option Value) (base : Heap) (n : Nat) (C : Addr) (m : Str) (ps : List Str) (sp : Sp) : Prop where
  ex : ∃ f fd, Meth K C m f ∧ Binds K fd ps [] ∧ FnOk P w K mg base CX0 n f fd ps sp
  cl : Cls K C
structure MakeAt (K : PySem.W.Frag) (mg : Str → Option Value) (x : Str) (C : Addr) (q : Str) (st : Stmt) (ps : List Str) : Prop where
  ex : ∃ f fd, mg x = some (.ref C) ∧ Mk K C f ∧ Fun K "__init__" q st f fd ∧ Binds K fd ps []
structure OkC (P : Program) (w : World) (K : PySem.W.Frag) (mg : Str → Option Value) (base : Heap) (n : Nat) (x : Str) (C : Addr) (ps : List Str) (sp : Sp) : Prop where
  ex : ∃ f fd, mg x = some (.ref C) ∧ Mk K C f ∧ Binds K fd ps [] ∧ FnOk P w K mg base CX0 n f fd ps sp
section
variable {P : Program} {w : World} {K : PySem.W.Frag} {mg : Str → Option Value} {base : Heap} {x m q : Str} {st : Stmt} {N ps : List Str} {k : Nat} {sp : Sp} {C : Addr}
end
def tFldG (C : Addr) (f : Str) (ta : TE) : TE := fun σ H Q => ta σ H fun x H1 => ∃ a dx fs v, x = .ref a ∧ H1 a = some (.ins C dx fs) ∧ fs.lookup f = some v ∧ Q v H1
def sFldG (C : Addr) (f : Str) (ta tv : TE) : TS := fun D σ H => tv σ H fun y H1 => ta σ H1 fun x H2 => ∃ a dx fs, x = .ref a ∧ H2 a = some (.ins C dx fs) ∧ fs.length < 1000 ∧ ∀ H', Mu H2 a (.ins C dx (putF f y fs)) H' → D.nx σ H'
def tMethG (C : Addr) (m : Str) (sp : Sp) (ta : TE) (t : TA) : TE := fun σ H Q => ta σ H fun x H1 => ∃ a dx fs, x = .ref a ∧ H1 a = some (.ins C dx fs) ∧ fs.lookup m = none ∧ t σ H1 fun vs H2 => sp (x :: vs) H2 Q E0
def tMakeG (C : Addr) (sp : Sp) (t : TA) : TE := fun σ H Q => t σ H fun vs H1 => ∀ x dx H', H1 x = none → H1 dx = none → Same H1 H' → H' x = some (.ins C dx []) → H' dx = some (.own x) → sp (.ref x :: vs) H' (fun v H2 => v = .non ∧ Q (.ref x) H2) E0
section
variable {X : Cx} {k n : Nat} {ps : List Str} {sp : Sp} {x m f : Str} {p pos pos' apos : Pos} {o e value : Expr} {es : List Expr} {t : TA} {ta tv : TE} {C : Addr}
end
end L2
set_option Elab.async false
set_option linter.all false
set_option maxRecDepth 100000
set_option maxHeartbeats 4000000
namespace L2
open PySem PySem.Spec PyProof.Rows
def tUnf (nf : Addr → Prop) (t : TE) : TE := fun σ H Q => t σ H fun v H' => ∃ d o kvs, nf d ∧ H' d = some (.frz o (.dK kvs)) ∧ Q v (upd H' d (.dK kvs))
def tDGetDG (td ty tx : TE) : TE := fun σ H Q => td σ H fun x H1 => ∃ a, x = .ref a ∧ (∃ kvs, H1 a = some (.dK kvs)) ∧ ty σ H1 fun y H2 => tx σ H2 fun z H3 => ∃ kvs k, H3 a = some (.dK kvs) ∧ keyOf y = some k ∧ Q ((valV kvs k).getD z) H3
theorem pe_dgetDG {X : Cx} {o e f : Expr} {apos cpos : Pos} {td ty tx : TE} (hu : X.A.units + 1 < cLine) (ho : PE X o td) (he : PE X e ty) (hf : PE X f tx) (m : M2 X o "get" apos e f cpos) : PE X (.Call (.Attribute o "get" apos) [e, f] [] cpos) (tDGetDG td ty tx) := by
  intro pins s σ H Q I h
  exact pe_dget2 hu ho.up he.up hf.up m pins s σ H Q I ⟨_, h, fun x H1 ⟨a, e, ⟨kvs, hk⟩, q⟩ => ⟨a, e, .inl ⟨kvs, Rd.of hk⟩, _, q, fun y H2 q => ⟨_, q, fun z H3 ⟨kvs, k, h3, ek, q⟩ => ⟨_, by rw [kV_of ek]; exact DGet.k h3, q⟩⟩⟩⟩
end L2
set_option Elab.async false
set_option linter.all false
set_option maxRecDepth 100000
set_option maxHeartbeats 4000000
namespace L2
open PySem PySem.Spec PyProof.Rows
section
variable {prog : Program} {w : World}
inductive ItP (prog : Program) (w : World) (h : Heap) (d it : Addr) : List Value → List (Key × Value) → Prop
  | nil : ItP prog w h d it [] []
  | cons {a : Addr} {o : Obj} {key v : Value} {k : Key} {n : Nat} {xs : List Value} {ps : List (Key × Value)} : h.get? a = some o → o.cls = .type "tuple" → o.data = .seq #[key, v] n → (mixKind prog w).is k key = true → a ≠ d → a ≠ it → ItP prog w h d it xs ps → ItP prog w h d it (.ref a :: xs) ((k, v) :: ps)
end
inductive PrK (H : Hp) : List V → List (Key × V) → Prop
  | nil : PrK H [] []
  | cons {a : Addr} {k : Key} {v : V} {xs : List V} {ps : List (Key × V)} : H a = some (.tup [kV k, v]) → PrK H xs ps → PrK H (.ref a :: xs) ((k, v) :: ps)
def putAll (ps : List (Key × V)) : List (Key × V) := ps.foldl (fun c p => putK c p.1 p.2) []
def rDictP : List V → Hp → VK → Prop := fun xs H Q => ∃ (p : Addr) (ys : List V) (ps : List (Key × V)), xs = [.ref p] ∧ H p = some (.lst ys) ∧ PrK H ys ps ∧ ps.length < 1000 ∧ ∀ l H', H l = none → Same H H' → H' l = some (.dK (putAll ps)) → Q (.ref l) H'
end L2
set_option Elab.async false
set_option linter.all false
set_option maxRecDepth 100000
set_option maxHeartbeats 4000000
namespace L2
open PySem PySem.Spec PyProof.Rows PySem.W
def Gd {α : Type} (N : Nat) (R : α → Prop) : KasT α → Prop
  | .ret a => R a
  | .ask i j k => i < N ∧ j < N ∧ ∀ b, Gd N R (k b)
def Ord (n : Nat) (p : Array Nat) : Prop := p.Perm (List.toArray (List.range n))
section
variable {N : Nat} (hN : 0 < N)
include hN
end
section
variable {prog : Program} {w : World} {A : Around} {E : Value → Shared → Prop} {s : Shared}
end
def rSortT : List V → Hp → VK → Prop := fun xs H Q => ∃ (p : Addr) (ys : List V), xs = [.ref p] ∧ H p = some (.lst ys) ∧ (∀ y ∈ ys, ∃ a i j, y = .ref a ∧ H a = some (.tup [.int i, .int j])) ∧ ys.length < 64 ∧
  ∀ D H' zs, H D = none → Same H H' → H' D = some (.lst zs) → zs.Perm ys → Q (.ref D) H'
end L2
set_option Elab.async false
set_option linter.all false
set_option maxRecDepth 100000
set_option maxHeartbeats 4000000
namespace L2
open PySem PySem.Spec PyProof.Rows
end L2
set_option Elab.async false
set_option linter.all false
set_option maxRecDepth 100000
set_option maxHeartbeats 4000000
namespace L2
open PySem PySem.Spec PyProof.Rows
section
variable {X : Cx}
def rListK : List V → Hp → VK → Prop := fun xs H Q => ∃ (d : Addr) (kvs : List (Key × V)), xs = [.ref d] ∧ H d = some (.dK kvs) ∧ kvs.length < 1000 ∧ ∀ l H', H l = none → Same H H' → H' l = some (.lst (kvs.map fun kv => kV kv.1)) → Q (.ref l) H'
theorem vals_of : ∀ (xs : List V) (vs : List Value), vs.length = xs.length → (∀ (j : Nat) (v : Value), vs[j]? = some v → ∃ x, xs[j]? = some x ∧ RelV x v) → Vals xs vs
  | [], [], _, _ => .nil
  | x :: xs, v :: vs, hl, h => by
    obtain ⟨y, e, r⟩ := h 0 v rfl
    cases e
    exact .cons r (vals_of xs vs (by simpa using hl) fun j v e => by simpa using h (j + 1) v (by simpa using e))
  | [], _ :: _, hl, _ => by simp at hl
  | _ :: _, [], hl, _ => by simp at hl
end
end L2
namespace L2
open PySem PySem.Spec PyProof.Rows
def pairO (i j : Int) : Option HO → Bool
  | some (.tup [.int a, .int b]) => decide (a = i) && decide (b = j)
  | _ => false
def pairV (H : Hp) (i j : Int) : V → Bool
  | .ref b => pairO i j (H b)
  | _ => false
def rInP : R2 := fun x y H Q => ∃ a p i j xs, x = .ref a ∧ y = .ref p ∧ H a = some (.tup [.int i, .int j]) ∧ H p = some (.lst xs) ∧ (∀ v ∈ xs, ∃ b i' j', v = .ref b ∧ H b = some (.tup [.int i', .int j'])) ∧ Q (.bl (xs.any (pairV H i j))) H
def rIntB : List V → Hp → VK → Prop := fun xs H Q => ∃ k, xs = [.bl k] ∧ Q (.int (if k = true then 1 else 0)) H
end L2
set_option Elab.async false
set_option linter.all false
set_option maxRecDepth 100000
set_option maxHeartbeats 4000000
namespace L2
open PySem PySem.Spec PyProof.Rows PySem.W
def Go {α : Type} (lt : Nat → Nat → Bool) (N : Nat) (R : α → Prop) : KasT α → Prop
  | .ret a => R a
  | .ask i j k => i < N ∧ j < N ∧ Go lt N R (k (lt i j))
section
variable {lt : Nat → Nat → Bool} {N : Nat} (hN : 0 < N) (tr : ∀ i j k, lt i j = true → lt j k = true → lt i k = true) (tot : ∀ i j, i < N → j < N → i ≠ j → lt i j = true ∨ lt j i = true)
def Up (lt : Nat → Nat → Bool) (p : Array Nat) (k : Nat) : Prop := ∀ i j, i < j → j < k → lt (p.getD i 0) (p.getD j 0) = true
def Down (lt : Nat → Nat → Bool) (p : Array Nat) (k : Nat) : Prop := ∀ i j, i < j → j < k → lt (p.getD j 0) (p.getD i 0) = true
include tr in
include tr in
include hN tr tot in
include hN tr tot in
include hN tr tot in
include hN tr tot in
include hN tr tot in
include hN tr tot in
end
section
variable {prog : Program} {w : World} {A : Around} {E : Value → Shared → Prop} {s : Shared}
end
def SN : Nat := 64
def rSortO : List V → Hp → VK → Prop := fun xs H Q => ∃ (p : Addr) (ps : List (Addr × List Int)) (L : Nat), xs = [.ref p] ∧ H p = some (.lst (ps.map fun q => .ref q.1)) ∧ (∀ q ∈ ps, H q.1 = some (.tup (q.2.map V.int))) ∧ 0 < L ∧ (∀ q ∈ ps, q.2.length = L) ∧ ps.Pairwise (fun q r => q.2 ≠ r.2) ∧ ps.length < SN ∧
  ∀ (D : Addr) (H' : Hp) (qs : List (Addr × List Int)), H D = none → Same H H' → H' D = some (.lst (qs.map fun q => .ref q.1)) → qs.Perm ps → qs.Pairwise (fun q r => HT.lexLt q.2 r.2 = true) → Q (.ref D) H'
end L2
set_option Elab.async false
set_option linter.all false
set_option maxRecDepth 100000
set_option maxHeartbeats 4000000
theorem L2.exBl {b : Bool} {p : Bool → Prop} : (∃ c, L2.V.bl b = L2.V.bl c ∧ p c) = p b := propext ⟨fun ⟨_, e, h⟩ => (L2.V.bl.inj e) ▸ h, fun h => ⟨_, rfl, h⟩⟩
theorem L2.exIn {b : Int} {p : Int → Prop} : (∃ c, L2.V.int b = L2.V.int c ∧ p c) = p b := propext ⟨fun ⟨_, e, h⟩ => (L2.V.int.inj e) ▸ h, fun h => ⟨_, rfl, h⟩⟩
theorem L2.exIn1 {b : Int} {α : Sort _} {p : Int → α → Prop} : (∃ c x, L2.V.int b = L2.V.int c ∧ p c x) = ∃ x, p b x := propext ⟨fun ⟨_, x, e, h⟩ => ⟨x, (L2.V.int.inj e) ▸ h⟩, fun ⟨x, h⟩ => ⟨_, x, rfl, h⟩⟩
theorem L2.exRf {b : PySem.Addr} {p : PySem.Addr → Prop} : (∃ c, L2.V.ref b = L2.V.ref c ∧ p c) = p b := propext ⟨fun ⟨_, e, h⟩ => (L2.V.ref.inj e) ▸ h, fun h => ⟨_, rfl, h⟩⟩
theorem L2.exRf1 {b : PySem.Addr} {α : Sort _} {p : PySem.Addr → α → Prop} : (∃ c x, L2.V.ref b = L2.V.ref c ∧ p c x) = ∃ x, p b x := propext ⟨fun ⟨_, x, e, h⟩ => ⟨x, (L2.V.ref.inj e) ▸ h⟩, fun ⟨x, h⟩ => ⟨_, x, rfl, h⟩⟩
theorem L2.exRf2 {b : PySem.Addr} {α β : Sort _} {p : PySem.Addr → α → β → Prop} : (∃ c x y, L2.V.ref b = L2.V.ref c ∧ p c x y) = ∃ x y, p b x y := propext ⟨fun ⟨_, x, y, e, h⟩ => ⟨x, y, (L2.V.ref.inj e) ▸ h⟩, fun ⟨x, y, h⟩ => ⟨_, x, y, rfl, h⟩⟩
theorem L2.exRf3 {b : PySem.Addr} {α β γ : Sort _} {p : PySem.Addr → α → β → γ → Prop} : (∃ c x y z, L2.V.ref b = L2.V.ref c ∧ p c x y z) = ∃ x y z, p b x y z := propext ⟨fun ⟨_, x, y, z, e, h⟩ => ⟨x, y, z, (L2.V.ref.inj e) ▸ h⟩, fun ⟨x, y, z, h⟩ => ⟨_, x, y, z, rfl, h⟩⟩
theorem L2.exSt {b : PySem.Str} {p : PySem.Str → Prop} : (∃ c, L2.V.str b = L2.V.str c ∧ p c) = p b := propext ⟨fun ⟨_, e, h⟩ => (L2.V.str.inj e) ▸ h, fun h => ⟨_, rfl, h⟩⟩
theorem L2.exSo {α : Type} {b : α} {p : α → Prop} : (∃ c, some b = some c ∧ p c) = p b := propext ⟨fun ⟨_, e, h⟩ => (Option.some.inj e) ▸ h, fun h => ⟨_, rfl, h⟩⟩
theorem L2.qVar {i : Nat} {σ : L2.St} {H : L2.Hp} {Q : L2.VK} {v : L2.V} (h : σ[i]? = some (some v)) : L2.tVar i σ H Q = Q v H := propext ⟨fun ⟨_, e, q⟩ => by rw [h] at e; cases e; exact q, fun q => ⟨_, h, q⟩⟩
theorem L2.and_t {a b : Prop} (h : a = True) : (a ∧ b) = b := by rw [h, true_and]
theorem L2.and_f {a b : Prop} (h : a = False) : (a ∧ b) = False := by rw [h, false_and]
theorem L2.and_r {a b a1 a2 : Prop} (h : a = (a1 ∧ a2)) : (a ∧ b) = (a1 ∧ (a2 ∧ b)) := by rw [h, and_assoc]
theorem L2.and_l {a b a' : Prop} (h : a = a') : (a ∧ b) = (a' ∧ b) := by rw [h]
open Lean Meta Simp in
simproc_decl quickVar (L2.tVar _ _ _ _) := fun e => do
  let_expr L2.tVar i s H Q := e | return .continue
  let l ← mkAppM ``GetElem?.getElem? #[s, i]
  let w ← whnfD l
  let_expr Option.some _ o := w | return .continue
  let o' ← whnfD o
  let_expr Option.some _ v := o' | return .continue
  return .visit { expr := (mkApp2 Q v H).headBeta, proof? := some (mkApp6 (mkConst ``L2.qVar) i s H Q v (← mkEqRefl l)) }
open Lean Meta Simp in
simproc_decl lazyAnd (_ ∧ _) := fun e => do
  let_expr And a b := e | return .continue
  let r ← simp a
  let a' := r.expr
  if a'.isTrue then return .visit { expr := b, proof? := some (mkApp3 (mkConst ``L2.and_t) a b (← r.getProof)) }
  if a'.isFalse then return .done { expr := mkConst ``False, proof? := some (mkApp3 (mkConst ``L2.and_f) a b (← r.getProof)) }
  match_expr a' with
  | And a1 a2 => return .visit { expr := mkAnd a1 (mkAnd a2 b), proof? := some (mkApp5 (mkConst ``L2.and_r) a b a1 a2 (← r.getProof)) }
  | _ =>
    match r.proof? with
    | none => return .done { expr := mkAnd a' b }
    | some h => return .done { expr := mkAnd a' b, proof? := some (mkApp4 (mkConst ``L2.and_l) a b a' h) }
theorem L2.ite_c {α : Sort _} {c c' : Prop} [d : Decidable c] [d' : Decidable c'] (h : c = c') (x y : α) : ite c x y = ite c' x y := by subst h; congr
open Lean Meta Simp in
simproc_decl lazyIte (ite _ _ _) := fun e => do
  let_expr ite α c d x y := e | return .continue
  let r ← simp c
  if r.expr.isTrue || r.expr.isFalse then return .continue
  if r.expr == c then return .done { expr := e }
  let d' ← synthInstance (mkApp (mkConst ``Decidable) r.expr)
  return .done { expr := mkApp5 e.consumeMData.getAppFn α r.expr d' x y, proof? := some (mkAppN (mkConst ``L2.ite_c e.consumeMData.getAppFn.constLevels!) #[α, c, r.expr, d, d', ← r.getProof, x, y]) }
open Lean Meta Simp in
simproc_decl lazyAll (_) := fun e => do
  if e.isForall then return .done { expr := e } else return .continue
def L2.rdPost : String := "L2.rSortO L2.rLtT L2.rIntB L2.rListK L2.rInP L2.tFldG L2.sFldG L2.tMethG L2.tMakeG L2.lookup_n L2.lookup_c L2.putF_n L2.putF_c L2.HO.ins.injEq L2.tDGetDG L2.tUnf L2.rDictP L2.rSortT L2.rMinL L2.rIdxG L2.rPopAtG L2.tRng1 L2.rListRng L2.tRev L2.rIxL L2.tBreak L2.tCont L2.rSum L2.rSort L2.rListG L2.rInsG L2.tDPopG L2.frameN L2.capOf Option.join_some L2.tYes L2.tChain L2.rAll L2.tBM L2.tyV L2.rStarts L2.rInK L2.tFmt L2.tJoin L2.jCons L2.jNil L2.tDefR L2.tRaise L2.rMulS L2.rSlS L2.rJoinS L2.rCatG L2.tTry1 L2.tTry0 L2.tBM0 L2.rPopG L2.rRepG L2.tDGetR L2.gLstG L2.tCallX L2.rIsiX L2.rIsiXT L2.tMs L2.rSetG L2.gSub L2.tSeq L2.tNext L2.tIfS L2.tTest L2.tB L2.tOp L2.tUn L2.rU L2.tVar L2.tC L2.rI0 L2.rI L2.tRet L2.tRetN L2.tDrop L2.tAsg L2.gName L2.gTup L2.gCons L2.gNil L2.tNil L2.tCons L2.tTupG L2.tLstG L2.tDNewG L2.rDictG L2.tAppG L2.sDPutG2 L2.pairsOf L2.tDispG L2.tPairs Option.bind_some L2.tDef L2.tCB L2.tAnd L2.tOr L2.tNot L2.tAndV L2.tOrV L2.tNotV L2.tIf L2.rIxG L2.rIxS L2.rEq L2.rNe L2.scal_ss L2.scal_ii L2.scal_bb L2.scal_nn L2.scal_ns L2.scal_sn L2.scal_ni L2.scal_in L2.flat_s L2.flat_i L2.flat_n L2.flat_b L2.inV_nil L2.inV_cons L2.eqV_ss L2.eqV_ii L2.cx_K L2.rInG L2.gTupG L2.rSlG L2.tSl L2.tPart L2.tNoPart L2.tForT L2.tForL L2.turns L2.upd_same List.all_cons List.all_nil Bool.and_true Bool.true_and Bool.and_self Bool.or_false Bool.or_true Bool.false_or Bool.true_or L2.cutV HT.sIx L2.rIsiG L2.tyG_n L2.tyG_b L2.tyG_i L2.tyG_s L2.tyG_r L2.hoT_l L2.hoT_t L2.hoT_d L2.V.ty.injEq L2.kit_ii L2.kit_it L2.kit_il L2.kit_is L2.kit_ib L2.kit_id L2.kit_ni L2.kit_nt L2.kit_nl L2.kit_ns L2.kit_nb L2.kit_nd L2.kit_ti L2.kit_tt L2.kit_tl L2.kit_ts L2.kit_tb L2.kit_td L2.kit_li L2.kit_lt L2.kit_ll L2.kit_ls L2.kit_lb L2.kit_ld L2.kit_si L2.kit_st L2.kit_sl L2.kit_ss L2.kit_sb L2.kit_sd L2.kit_bi L2.kit_bt L2.kit_bl L2.kit_bs L2.kit_bb L2.kit_bd L2.kit_di L2.kit_dt L2.kit_dl L2.kit_ds L2.kit_db L2.kit_dd L2.mn1 L2.mn2 List.drop_succ_cons List.drop_zero List.take_succ_cons List.take_zero Nat.reduceEqDiff not_false_eq_true L2.tDInG L2.tDNotInG L2.tDGetG L2.keyOf_s L2.keyOf_i List.cons.injEq L2.tDNewK L2.start List.map_cons List.map_nil List.length_cons List.length_nil List.replicate List.cons_append List.nil_append List.getElem?_cons_zero List.getElem?_cons_succ List.set_cons_zero List.set_cons_succ Option.some.injEq L2.V.int.injEq L2.V.str.injEq L2.V.ref.injEq L2.V.bl.injEq L2.HO.tup.injEq L2.HO.lst.injEq L2.HO.dK.injEq reduceCtorEq exists_eq_left' exists_and_left exists_eq_left exists_eq_right L2.CPow L2.CMul L2.CDiv decide_eq_true_eq L2.ofString_inj String.reduceEq decide_true decide_false Bool.false_eq_true if_true if_false if_pos and_true true_and or_false false_or or_true true_or and_false false_and exists_const exists_false Bool.not_true Bool.not_false L2.sz0 L2.sz1 L2.sz2 L2.sz3 L2.sz4 L2.sz5 L2.sz6 L2.atI_0 L2.atI_1 L2.atI_2 L2.atI_3 L2.atI_4 Nat.reduceAdd Nat.reduceSub Nat.zero_add Nat.reduceLeDiff Int.reducePow Int.reduceToNat Int.reduceLT Int.reduceLE Int.reduceNeg L2.na2 L2.na10 Nat.reducePow Nat.reduceLT"
def L2.lzPre : String := "lazyAnd reduceIte lazyIte exists_eq_left exists_eq_left' reduceIte L2.exBl L2.exIn L2.exRf L2.exSt L2.exSo quickVar L2.exIn1 L2.exRf1 L2.exRf2 L2.exRf3"
def L2.rdPre : String := "exists_eq_left exists_eq_left' reduceIte L2.exBl L2.exIn L2.exRf L2.exSt L2.exSo quickVar L2.exIn1 L2.exRf1 L2.exRf2 L2.exRf3"
open Lean in
def L2.rdArgs (pre : String) : MacroM (TSyntaxArray ``Lean.Parser.Tactic.simpLemma) := do
  let p ← (L2.rdPost.splitOn " ").toArray.mapM fun n => `(Lean.Parser.Tactic.simpLemma| $(mkIdent n.toName):ident)
  let a ← (pre.splitOn " ").toArray.mapM fun n => `(Lean.Parser.Tactic.simpLemma| ↓ $(mkIdent n.toName):ident)
  return a ++ p
set_option Elab.async false
set_option linter.all false
set_option maxRecDepth 100000
set_option maxHeartbeats 4000000
namespace L2
open PySem PySem.Spec PyProof.Rows PySem.W
section
variable {X : Cx} {k k2 n : Nat} {ps ps2 : List Str} {sp sp2 : Sp} {m : Str} {pos apos : Pos} {o e : Expr} {es : List Expr} {t : TA} {ta : TE} {C C2 : Addr}
end
end L2
set_option Elab.async false
set_option linter.all false
set_option maxRecDepth 100000
set_option maxHeartbeats 4000000
namespace L2
open PySem PySem.Spec PyProof.Rows
end L2
set_option Elab.async false
set_option linter.all false
set_option maxRecDepth 100000
set_option maxHeartbeats 4000000
namespace L2
open PySem PySem.Spec PyProof.Rows
structure Nx (prog : Program) (w : World) (i : Addr) (fp : List Addr) (T : Nat → Heap → Prop) (item : Nat → Option Value) : Prop where
  keep : ∀ k h h', T k h → (∀ b, b = i ∨ b ∈ fp → ∀ o, h.get? b = some o → h'.get? b = some o) → T k h'
  obj : ∀ k h, T k h → ∃ o, h.get? i = some o ∧ (∀ v, o.data ≠ .cell v) ∧ o.cls ≠ .type "StopIteration"
  next : ∀ (A : Around) k x s (Q : Value → Shared → Prop) (E : Value → Shared → Prop), T k s.heap → item k = some x → (∀ h', T (k + 1) h' → Heap.SameBut i s.heap h' → Q x { s with heap := h' }) → wpAny (model prog w) A (Builtin.SmallTypes.nextOf (.ref i)) Q E s
  done : ∀ (A : Around) k s (Q : Value → Shared → Prop) (E : Value → Shared → Prop), A.handled = none → T k s.heap → item k = none → (∀ h' e, Heap.ExtBut i s.heap h' → (∃ o, h'.get? e = some o ∧ o.cls = .type "StopIteration") → E (.ref e) { s with heap := h' }) → wpAny (model prog w) A (Builtin.SmallTypes.nextOf (.ref i)) Q E s
section
variable {prog : Program} {w : World} {A : Around} {E : Value → Shared → Prop} {s : Shared}
structure ZA (z TI TO i j : Addr) (f1 f2 : List Addr) : Prop where
  tz : TI ≠ z
  oz : TO ≠ z
  iz : i ≠ z
  jz : j ≠ z
  to : TI ≠ TO
  ti : TI ≠ i
  tj : TI ≠ j
  oi : TO ≠ i
  oj : TO ≠ j
  ij : i ≠ j
  a1 : ∀ b ∈ f1, b ≠ z ∧ b ≠ TO ∧ b ≠ i ∧ b ≠ j
  a2 : ∀ b ∈ f2, b ≠ z ∧ b ≠ TO ∧ b ≠ i ∧ b ≠ j
variable {z TI TO i j : Addr} {f1 f2 : List Addr} {T1 T2 : Nat → Heap → Prop} {e1 e2 : Nat → Option Value}
end
end L2
set_option Elab.async false
set_option linter.all false
set_option maxRecDepth 100000
set_option maxHeartbeats 4000000
namespace L2
open PySem PySem.Spec PyProof.Rows
end L2
set_option Elab.async false
set_option linter.all false
set_option maxRecDepth 100000
set_option maxHeartbeats 4000000
namespace L2
open PySem PySem.Spec PyProof.Rows
section
variable {prog : Program} {w : World} {A : Around} {E : Value → Shared → Prop} {s : Shared} {x y : Str} {t u : Tok} {Q : Value → Shared → Prop}
end
def rTupL : List V → Hp → VK → Prop := fun xs H Q => ∃ l ys, xs = [.ref l] ∧ H l = some (.lst ys) ∧ ∀ p H', H p = none → Same H H' → H' p = some (.tup ys) → Q (.ref p) H'
theorem call_tupL {X : Cx} : CallR X (.type "tuple") rTupL := by
  intro pins s σ H xs us Q I r h
  obtain ⟨l, ys, rfl, hl, q⟩ := h
  obtain ⟨u, rfl, ru⟩ := vals1 r
  cases ru
  obtain ⟨its, rv, pl, hz⟩ := I.list (SqL.of hl)
  have le : its.length ≤ sizeLine := by have := rv.length; omega
  refine call_tuple_list pl.isList (fun h' hk => ?_) (by simpa using le)
  have I1 := I.kept (t' := s.toks) hk
  have fr : H h'.objs.size = none := I1.hok.fresh (Nat.le_refl _)
  have I2 := I1.laid (a := h'.objs.size) (o := .tup ys) (t' := s.toks) (h' := h'.push { cls := .type "tuple", data := .seq its.toArray }) (fun b u e => Heap.get?_push_of_some _ e) (Nat.le_refl _) ⟨hz, its, rv, ⟨_, Heap.get?_push_size _ rfl, rfl, _, rfl⟩⟩
  exact ⟨.ref h'.objs.size, _, I2, rfl, q _ _ fr (same_new fr _) upd_same⟩
end L2
set_option Elab.async false
set_option linter.all false
set_option maxRecDepth 100000
set_option maxHeartbeats 4000000
namespace L2
open PySem PySem.Spec PyProof.Rows
section
variable {X : Cx} {i o : Expr} {ty : TE} {pos : Pos} {a : Addr} {kvs : List (Key × V)}
end
end L2
set_option Elab.async false
set_option linter.all false
set_option maxRecDepth 100000
set_option maxHeartbeats 4000000
namespace L2
open PySem PySem.Spec PyProof.Rows
section
variable {M : Model} {A : Around} {E : Value → Shared → Prop} {s : Shared} {base : Heap} {env : Env} {outer : List Env} {L x : Addr} {oe : Obj} {vs : Array Value} {Q : Unit → Shared → Prop}
end
section
variable {X : Cx} {scope : Scope} {cl : List (Str × Addr)} {N : List Str} {C : Addr} {fp : List Addr} {s₀ : Shared} {H₀ : Hp} {pins : List (Addr × Obj)} {σ : St} {H : Hp} {s : Shared}
end
section
variable {P : Program} {w : World} {K : PySem.W.Frag} {mg : Str → Option Value} {base : Heap} {N : List Str} {qual : Str} {scope : Scope} {f : Addr} {cd : Value} {A : Around} {outer : List Env} {s : Shared} {H : Hp} {E : XK}
end
section
variable {X : Cx} {scope : Scope} {cl : List (Str × Addr)} {N : List Str} {cap : List Nat} {k : Nat} {tg : Expr} {g : TG} {pos : Pos} {iter elt : Expr} {ifs : List Expr} {wi : TI} {tc : TT} {te : TE}
end
end L2
set_option Elab.async false
set_option linter.all false
set_option maxRecDepth 100000
set_option maxHeartbeats 4000000
namespace L2
open PySem PySem.Spec PyProof.Rows
section
variable {prog : Program} {w : World} {A : Around} {E : Value → Shared → Prop} {s : Shared} {z TI TO i j : Addr} {f2 : List Addr} {T2 : Nat → Heap → Prop} {e2 : Nat → Option Value}
end
end L2
set_option Elab.async false
set_option linter.all false
set_option maxRecDepth 100000
set_option maxHeartbeats 4000000
namespace L2
open PySem PySem.Spec PyProof.Rows
section
variable {prog : Program} {w : World}
end
end L2
set_option Elab.async false
set_option linter.all false
set_option maxRecDepth 100000
set_option maxHeartbeats 4000000
namespace L2
open PySem PySem.Spec PyProof.Rows
section
variable {prog : Program} {w : World}
end
end L2
set_option Elab.async false
set_option linter.all false
set_option maxRecDepth 100000
set_option maxHeartbeats 4000000
namespace L2
open PySem PySem.Spec PyProof.Rows
def tForU (nf : Addr → Prop) (wi : TI) (g : TG) (tb : TS) : TS := fun D => tFor wi g tb { D with nx := fun σ' H' => ∃ d o kvs, nf d ∧ H' d = some (.frz o (.dK kvs)) ∧ D.nx σ' (upd H' d (.dK kvs)) }
end L2
set_option Elab.async false
set_option linter.all false
set_option maxRecDepth 100000
set_option maxHeartbeats 4000000
namespace L2
open PySem PySem.Spec PyProof.Rows
end L2
set_option Elab.async false
set_option linter.all false
set_option maxRecDepth 100000
set_option maxHeartbeats 4000000
theorem L2.hideL {a b : L2.TS} {D σ H} (h : let T := b; L2.tSeq a T D σ H) : L2.tSeq a b D σ H := h
theorem L2.hRet {a D σ H} (h : L2.tRet a D σ H) : L2.tRet a D σ H := h
theorem L2.hIf {a b c D σ H} (h : L2.tIfS a b c D σ H) : L2.tIfS a b c D σ H := h
theorem L2.hFor {a b c D σ H} (h : L2.tFor a b c D σ H) : L2.tFor a b c D σ H := h
theorem L2.hDrop {a D σ H} (h : L2.tDrop a D σ H) : L2.tDrop a D σ H := h
theorem L2.hAsg {a b D σ H} (h : L2.tAsg a b D σ H) : L2.tAsg a b D σ H := h
theorem L2.xL0 {H : L2.Hp} {a : PySem.Addr}  {v0 : List L2.V} {R : List L2.V → Prop} (h : H a = some (.lst v0)) : (∃ v, H a = some (.lst v) ∧ R v) = R v0 := propext ⟨fun e => by obtain ⟨v, e, r⟩ := e; rw [h] at e; cases e; exact r, fun r => ⟨v0, h, r⟩⟩
theorem L2.xL1 {H : L2.Hp} {a : PySem.Addr} {α0 : Sort _} {v0 : List L2.V} {R : List L2.V → α0 → Prop} (h : H a = some (.lst v0)) : (∃ v x0, H a = some (.lst v) ∧ R v x0) = ∃ x0, R v0 x0 := propext ⟨fun e => by obtain ⟨v, x0, e, r⟩ := e; rw [h] at e; cases e; exact ⟨x0, r⟩, fun e => by obtain ⟨x0, r⟩ := e; exact ⟨v0, x0, h, r⟩⟩
theorem L2.xT0 {H : L2.Hp} {a : PySem.Addr}  {v0 : List L2.V} {R : List L2.V → Prop} (h : H a = some (.tup v0)) : (∃ v, H a = some (.tup v) ∧ R v) = R v0 := propext ⟨fun e => by obtain ⟨v, e, r⟩ := e; rw [h] at e; cases e; exact r, fun r => ⟨v0, h, r⟩⟩
theorem L2.xE1 {H : L2.Hp} {a : PySem.Addr} {α0 : Sort _} {v0 : List L2.V} {R : List L2.V → α0 → Prop} (h : H a = some (.tup v0)) : (∃ v x0, (H a = some (.tup v) ∨ H a = some (.lst v)) ∧ R v x0) = ∃ x0, R v0 x0 := propext ⟨fun e => by obtain ⟨v, x0, e, r⟩ := e; rw [h] at e; rcases e with e | e <;> cases e; exact ⟨x0, r⟩, fun e => by obtain ⟨x0, r⟩ := e; exact ⟨v0, x0, .inl h, r⟩⟩
theorem L2.xF1 {H : L2.Hp} {a : PySem.Addr} {α0 : Sort _} {v0 : List L2.V} {R : List L2.V → α0 → Prop} (h : H a = some (.lst v0)) : (∃ v x0, (H a = some (.tup v) ∨ H a = some (.lst v)) ∧ R v x0) = ∃ x0, R v0 x0 := propext ⟨fun e => by obtain ⟨v, x0, e, r⟩ := e; rw [h] at e; rcases e with e | e <;> cases e; exact ⟨x0, r⟩, fun e => by obtain ⟨x0, r⟩ := e; exact ⟨v0, x0, .inr h, r⟩⟩
def L2.xNames : String := "xD0 xE1 xF1 xI0 xI1 xL0 xL1 xT0 xT1"
open Lean Meta Simp in
simproc_decl exHp (Exists _) := fun e => do
  let _ := L2.xNames
  let mut b := e
  let mut n := 0
  while b.isAppOfArity ``Exists 2 && b.appArg!.isLambda do
    b := b.appArg!.bindingBody!
    n := n + 1
  let_expr And A _ := b | return .continue
  let (o, X) := match_expr A with
    | Or X _ => (true, X)
    | _ => (false, A)
  let_expr Eq _ l r := X | return .continue
  if l.hasLooseBVars then return .continue
  let_expr Option.some _ rc := r | return .continue
  let some c := rc.getAppFn.constName? | return .continue
  for d in (← getLCtx) do
    if d.isImplementationDetail then continue
    let ty ← instantiateMVars d.type
    let_expr Eq _ l' r' := ty | continue
    unless l' == l do continue
    let_expr Option.some _ rc' := r' | continue
    let some c' := rc'.getAppFn.constName? | continue
    let (s, k) := if o then
        (if c == `L2.HO.tup then (if c' == `L2.HO.tup then "xE" else "xF") else (if c' == `L2.HO.lst then "xG" else "xJ"), n - 1)
      else if c != c' then ("", 0)
      else if c == `L2.HO.lst then ("xL", n - 1) else if c == `L2.HO.tup then ("xT", n - 1) else if c == `L2.HO.dK then ("xD", n - 1) else if c == `L2.HO.ins && n ≥ 2 then ("xI", n - 2) else ("", 0)
    if s == "" || k > 3 then continue
    let nm := Name.mkStr `L2 (s ++ toString k)
    unless (← getEnv).contains nm do continue
    let thm ← mkConstWithFreshMVarLevels nm
    let (ms, _, ty2) ← forallMetaTelescope (← inferType thm)
    let_expr Eq _ a2 b2 := ty2 | continue
    unless (← withReducible (isDefEq a2 e)) do continue
    unless (← isDefEq (← inferType ms.back!) ty) do continue
    ms.back!.mvarId!.assign d.toExpr
    let res ← instantiateMVars b2
    return .visit { expr := res.headBeta, proof? := some (← instantiateMVars (mkAppN thm ms)) }
  return .continue
open Lean Meta Simp in
simproc_decl quickV2 (L2.tVar _ _ _ _) := fun e => do
  let_expr L2.tVar i s H Q := e | return .continue
  let l ← mkAppM ``GetElem?.getElem? #[s, i]
  let w ← whnfD l
  let_expr Option.some _ o := w | return .continue
  let o' ← whnfD o
  let_expr Option.some _ v := o' | return .continue
  return .visit { expr := (mkApp2 Q v H).headBeta, proof? := some (mkApp6 (mkConst ``L2.qVar) i s H Q v (← mkEqRefl (← mkAppM ``Option.some #[← mkAppM ``Option.some #[v]]))) }
def L2.lzPre2 : String := "lazyAnd reduceIte lazyIte exHp exists_eq_left exists_eq_left' reduceIte L2.exBl L2.exIn L2.exRf L2.exSt L2.exSo quickV2 L2.exIn1 L2.exRf1 L2.exRf2 L2.exRf3"
@[elab_as_elim] theorem L2.len1 {α : Type} {p : List α → Prop} (us : List α) (hl : us.length = 1) (h : ∀ a, p [a]) : p us :=
  match us, hl with
  | [a], _ => h a
@[elab_as_elim] theorem L2.len2 {α : Type} {p : List α → Prop} (us : List α) (hl : us.length = 2) (h : ∀ a b, p [a, b]) : p us :=
  match us, hl with
  | [a, b], _ => h a b
@[elab_as_elim] theorem L2.len3 {α : Type} {p : List α → Prop} (us : List α) (hl : us.length = 3) (h : ∀ a b c, p [a, b, c]) : p us :=
  match us, hl with
  | [a, b, c], _ => h a b c
@[elab_as_elim] theorem L2.len4 {α : Type} {p : List α → Prop} (us : List α) (hl : us.length = 4) (h : ∀ a b c d, p [a, b, c, d]) : p us :=
  match us, hl with
  | [a, b, c, d], _ => h a b c d
set_option Elab.async false
set_option linter.all false
set_option maxRecDepth 100000
set_option maxHeartbeats 4000000
namespace L2
open PySem PySem.Spec PyProof.Rows
def rExtG : V → List V → Hp → VK → Prop := fun x vs H Q => ∃ l xs b ys, x = .ref l ∧ vs = [.ref b] ∧ H l = some (.lst xs) ∧ H b = some (.lst ys) ∧ xs.length + ys.length < 100000 ∧ ∀ H', Mu H l (.lst (xs ++ ys)) H' → Q .non H'
theorem mt_extG {X : Cx} : MtR X "list.extend" rExtG := by
  intro pins s σ H x vs v us Q I rx rv h
  obtain ⟨l, xs, b, ys, rfl, rfl, hH, hB, hz, q⟩ := h
  cases rx
  obtain ⟨u, rfl, ru⟩ := vals1 rv
  cases ru
  obtain ⟨z, its, n, r, hl, e⟩ := I.lstM hH
  obtain ⟨z2, its2, n2, r2, hl2, e2⟩ := I.lstM hB
  have big : 100000 ≤ sizeLine := by unfold sizeLine; decide
  have l1 := r.length
  have l2 := r2.length
  have sz : its.toArray.size + its2.toArray.size ≤ sizeLine := by rw [List.size_toArray, List.size_toArray]; omega
  refine call_meets F.slot_list_extend ⟨_, e, rfl⟩ F.entry_list_extend (F.args_list_extend_2 _ _) (AutoSeq1.list_extend_list_list_0 l its.toArray n b its2.toArray n2 (extend_door sz) (by omega) (by omega)) ⟨e, e2, ?_⟩
  refine ⟨.non, _, I.lset (ys := xs ++ ys) (its' := its ++ its2) hH e ?_ (r.append r2) (by rw [List.length_append]; omega), rfl, q _ .mk'⟩
  simp
end L2
set_option Elab.async false
set_option linter.all false
set_option maxRecDepth 100000
set_option maxHeartbeats 4000000
namespace L2
open PySem PySem.Calls PySem.Spec PyProof.Rows
section
variable {prog : Program} {w : World} {A : Around} {E : Value → Shared → Prop} {s : Shared}
theorem lri_hint {r : Addr} {Q : Bool → Shared → Prop} (hT : s.TypeIs (.ref r) "list_reverseiterator") (h : Q false s) : wpAny (model prog w) A (Builtin.List.listLengthHint (.ref r)) Q E s := by
  have n1 : typeLookup (.type "list_reverseiterator") "__len__" = pure none := by rw [typeLookup_type, builtinLookup_eq_fast]; kernel_rfl
  have n2 : typeLookup (.type "list_reverseiterator") "__length_hint__" = pure (some (.builtin "list_reverseiterator.__length_hint__")) := by rw [typeLookup_type, builtinLookup_eq_fast]; kernel_rfl
  unfold Builtin.List.listLengthHint; refine wpAny_bind (wpAny_specialOf hT n1 ?_)
  show wpAny _ _ (specialOf (Value.ref r) (Str.ofString "__length_hint__") >>= _) _ _ _
  refine wpAny_bind (wpAny_specialOf hT n2 ?_)
  generalize hid : ("list_reverseiterator.__length_hint__" : String) = id0
  wp_delta
  rw [show splitId id0 = some ("list_reverseiterator", "__length_hint__") from by subst hid; decide +kernel]
  subst hid
  refine wpAny_bind (wpAny_isInstance (T := "list_reverseiterator") (b := true) hT (by rw [isSubtype_type]; kernel_rfl) ?_)
  refine wpAny_ite_split (fun z => absurd z (by decide)) fun _ => ?_
  refine wpAny_ite_split (fun _ => ?_) fun z => absurd (by decide +kernel) z
  refine wpAny_ite_split (fun z => absurd z (by decide +kernel)) fun _ => ?_
  exact wpAny_pure h
theorem list_lri {I l : Addr} {items : Array Value} {Q : Value → Shared → Prop} (hh : A.handled = none) (hne : l ≠ I) (hit : s.heap.IsRevIter I l ((items.size : Int) - 1)) (hl : s.heap.IsList l items) (hn : items.size ≤ sizeLine)
    (hQ : ∀ h' tk acc c, (∀ b o, b ≠ I → s.heap.get? b = some o → h'.get? b = some o) → h'.get? s.heap.objs.size = some { cls := .type "list", data := .seq acc c } → ItemsOf (fun i v => items[items.size - 1 - i]? = some v) acc items.size → Q (.ref s.heap.objs.size) { s with heap := h', toks := tk }) : wpAny (model prog w) A (call (.type "list") [.ref I]) Q E s := by
  refine callType_codes (Q₁ := fun x t => x = .ref s.heap.objs.size ∧ t = { s with heap := s.heap.push { cls := .type "list", data := .seq #[] } }) F.called_list (F.typeCall_list_1 _) F.entry_list_init (code_list_new _ ⟨rfl, rfl⟩) fun x t ht => ?_
  obtain ⟨rfl, rfl⟩ := ht
  have hI : I < s.heap.objs.size := by obtain ⟨o, ho, _⟩ := hit; exact Heap.lt_size ho
  have hL : l < s.heap.objs.size := by obtain ⟨o, ho, _⟩ := hl; exact Heap.lt_size ho
  have e0 : (s.heap.push { cls := .type "list", data := .seq #[] }).get? s.heap.objs.size = some { cls := .type "list", data := .seq #[] } := Heap.get?_push_size _ rfl
  generalize hS : s.heap.objs.size = S at *
  generalize hp : s.heap.push { cls := .type "list", data := .seq #[] } = hp1 at *
  have old : ∀ b o, s.heap.get? b = some o → hp1.get? b = some o := fun b o e => by rw [← hp]; exact Heap.get?_push_of_some _ e
  have nI : S ≠ I := Nat.ne_of_gt hI
  have nL : S ≠ l := Nat.ne_of_gt hL
  refine ⟨⟨_, e0, rfl⟩, F.args_list_init_2 _ _, ?_⟩
  show wpAny _ _ (Builtin.List.listItems (.ref S) >>= fun was => Builtin.List.listUpdate (.ref S) (fun _ => #[]) >>= fun _ => letGo was.toList.reverse >>= fun _ => Builtin.List.listExtendWith (.ref S) (.ref I) .none) _ _ _
  unfold Builtin.List.listItems; refine wpAny_bind (wpAny_bind (wpAny_seqItems e0 rfl (wpAny_pure ?_)))
  refine wpAny_bind (m := updateSeq S fun _ => #[]) (wpAny_updateSeq e0 rfl ?_)
  have e1 := Heap.get?_update_self (Obj.mapSeq fun _ => (#[] : Array Value)) e0 rfl
  have old1 : ∀ b o, b ≠ S → s.heap.get? b = some o → (hp1.update S (Obj.mapSeq fun _ => #[])).get? b = some o := fun b o nb e => (Heap.get?_update_other _ _ (Ne.symm nb)).trans (old b o e)
  generalize hp1.update S (Obj.mapSeq fun _ => #[]) = hp2 at *
  refine wpAny_bind (wpAny_letGo ?_)
  have it2 : hp2.IsRevIter I l ((items.size : Int) - 1) := hit.at fun o e => old1 I o nI.symm e
  have l2 : hp2.IsList l items := hl.at fun o e => old1 l o nL.symm e
  have ty : Shared.TypeIs { s with heap := hp2 } (.ref I) "list_reverseiterator" := it2.typeIs
  unfold Builtin.List.listExtendWith; refine wpAny_bind (wpAny_typeOf ty ?_)
  have ns : Builtin.List.listSameRef (.ref S) (.ref I) = false := by simp [Builtin.List.listSameRef, nI]
  rw [ns]
  show wpAny _ _ (pyIter (Value.ref I) >>= _) _ _ _
  refine wpAny_bind (wpAny_pyIter_revIter it2 ?_)
  refine wpAny_bind (wpAny_holding (lri_hint ty ?_))
  refine wpAny_ite_split (fun z => ?_) fun _ => ?_
  · exact absurd z (by decide +kernel)
  refine wpAny_pure ⟨plainId_quiet F.plain_extend_loop _, ?_⟩
  have W := Walks.listRev (prog := prog) (w := w) (A := A.in1.in1) hh I l hne items
  refine codeAny_extend_loopS W.toS hn S (by simp [nI, nL]) .none items.size 0 _ #[] _ rfl (Nat.zero_le _) ⟨Nat.zero_le _, by simpa using it2, l2⟩ e1 (ItemsOf.nil _) fun t acc c hm hS2 hacc => ?_
  rw [Moved.eq_with hm]
  refine ⟨rfl, hQ t.heap t.toks acc c (fun b o nb e => ?_) hS2 hacc⟩
  have nS : b ≠ S := fun z => by rw [z, ← hS] at e; exact Nat.lt_irrefl _ (Heap.lt_size e)
  exact hm.heap b o (by simp [nS, nb]) (old1 b o nS e)
end
section
variable {X : Cx}
theorem rev_vals {xs : List V} {its : List Value} {acc : Array Value} (r : Vals xs its) (h : ItemsOf (fun i v => its.toArray[its.toArray.size - 1 - i]? = some v) acc its.toArray.size) : Vals xs.reverse acc.toList := by
  have hl := r.length
  refine vals_of _ _ (by rw [Array.length_toList, h.1, List.length_reverse, List.size_toArray, hl]) fun j v hj => ?_
  have lt : j < its.length := by
    have := (List.getElem?_eq_some_iff.mp hj).1
    rw [Array.length_toList, h.1, List.size_toArray] at this; exact this
  have e := h.2 j v (by rw [← Array.getElem?_toList]; exact hj)
  rw [List.size_toArray, List.getElem?_toArray] at e
  obtain ⟨x, ex⟩ : ∃ x, xs[its.length - 1 - j]? = some x := ⟨_, List.getElem?_eq_getElem (by omega)⟩
  obtain ⟨u, eu, ru⟩ := Vals.get r ex
  rw [e] at eu
  cases eu
  exact ⟨x, by rw [List.getElem?_reverse (by omega), hl]; exact ex, ru⟩
def tListRev (ta : TA) : TE := fun σ H Q => ta σ H fun vs H1 => ∃ l xs, vs = [.ref l] ∧ H1 l = some (.lst xs) ∧ ∀ p H', H1 p = none → Same H1 H' → H' p = some (.lst xs.reverse) → Q (.ref p) H'
theorem pe_listRev {a : Expr} {ta : TA} {p1 p2 pos1 pos2 : Pos} (hg : Gl X "list") (hm : X.mg "list" = none) (hg2 : Gl X "reversed") (hm2 : X.mg "reversed" = none) (ha : PA X [a] ta) (hc : X.calm = true := by rfl) (hs : starEach [a] X.env = [(false, eval a X.env)] := by rfl) (hs2 : starEach [.Call (.Name "reversed" p2) [a] [] pos2] X.env = [(false, eval (.Call (.Name "reversed" p2) [a] [] pos2) X.env)] := by rfl) : PE X (.Call (.Name "list" p1) [.Call (.Name "reversed" p2) [a] [] pos2] [] pos1) (tListRev ta) := by
  intro pins s σ H Q I h
  refine Call_ (ld_blt I hg hm (show bootBuiltins "list" = some (.type "list") by decide +kernel) (PyProof.Rows.callWith_type1 ?_ hs2 rfl))
  rw [hs2]
  refine Calls.spliced_cons ?_
  refine Call_ (ld_blt I hg2 hm2 (show bootBuiltins "reversed" = some (.type "reversed") by decide +kernel) (PyProof.Rows.callWith_type1 (thn (ha pos2 pins s σ H _ I h) fun us s1 ⟨vs, H1, I1, r1, q1⟩ => ?_) hs rfl))
  obtain ⟨l, xs, e, hl, q⟩ := q1
  subst e
  obtain ⟨u, rfl, ru⟩ := vals1 r1
  cases ru
  obtain ⟨z, its, n, r, hlen, e⟩ := I1.lstM hl
  have isl : s1.heap.IsList l its.toArray := ⟨_, e, rfl, n, rfl⟩
  have hL : l < s1.heap.objs.size := Heap.lt_size e
  refine call_reversed_list isl ?_
  refine Calls.spliced_nil ?_
  refine list_lri (l := l) (items := its.toArray) (I1.ok.hd hc) (Nat.ne_of_lt hL) ⟨_, Heap.get?_push_size _ rfl, rfl, rfl⟩ (isl.at fun o e => Heap.get?_push_of_some _ e) (by rw [List.size_toArray]; omega) fun h' tk acc c k e' i => ?_
  have sz : (s1.heap.push (revObj l ((its.toArray.size : Int) - 1))).objs.size = s1.heap.objs.size + 1 := by simp [Heap.push]
  have fr : H1 (s1.heap.objs.size + 1) = none := I1.hok.fresh (Nat.le_succ _)
  rw [show ({ s1 with heap := s1.heap.push (revObj l ((its.toArray.size : Int) - 1)) } : Shared).heap.objs.size = s1.heap.objs.size + 1 from sz] at e' ⊢
  have kk : ∀ b o, s1.heap.get? b = some o → h'.get? b = some o := fun b o eb => k b o (fun z => by rw [z] at eb; exact Nat.lt_irrefl _ (Heap.lt_size eb)) (Heap.get?_push_of_some _ eb)
  have I2 := I1.laid (a := s1.heap.objs.size + 1) (o := .lst xs.reverse) (t' := tk) kk (Nat.le_succ _) (show ObjOk X.prog X.w _ h' _ (.lst _) from ⟨by rw [List.length_reverse]; exact z, acc.toList, c, rev_vals r i, by simpa using e'⟩)
  exact ⟨.ref (s1.heap.objs.size + 1), _, I2, rfl, q _ _ fr (same_new fr _) upd_same⟩
end
end L2
set_option Elab.async false
set_option linter.all false
set_option maxRecDepth 100000
set_option maxHeartbeats 4000000
namespace L2
open PySem PySem.Calls PySem.Spec PyProof.Rows
def rtObj (l : Addr) (i : Int) : Obj := { cls := .type "reversed", data := .fields #[.ref l, rawInt i] }
theorem rt_called : TypeCalled "reversed" "reversed.__new__" "object.__init__" := by
  refine ⟨by decide +kernel, F.create_reversed, ⟨_, _, F.mro_reversed⟩, F.made_reversed, F.plain_reversed_new, F.sub_reversed_self, ?_⟩
  refine .of (owner := "object") (n := "__init__") ?_ ?_ ?_ ?_ ?_ ?_
  · rw [typeLookup_type, builtinLookup_eq_fast]; kernel_rfl
  · decide +kernel
  · decide +kernel
  · decide +kernel
  · first | exact .inl (by decide +kernel) | exact .inr (by decide +kernel)
  · rw [isSubtype_type]; kernel_rfl
theorem rt_new {l : Addr} {items : Array Value} (hn : items.size < 100000) : Meets (Builtin.«reversed.__new__» ⟨[.type "reversed", .ref l], []⟩) (fun _ R s => IsTup s.heap l items ∧ R (.ok (.ret (.ref s.heap.objs.size))) { s with heap := s.heap.push (rtObj l ((items.size : Int) - 1)), toks := s.toks + 1 + 1 }) := by
  refine .of_wp fun prog w A R s h => ?_
  obtain ⟨ht, h⟩ := h
  have n1 : typeLookup (.type "tuple") "__reversed__" = pure none := by rw [typeLookup_type, builtinLookup_eq_fast]; kernel_rfl
  have n2 : typeLookup (.type "tuple") "__getitem__" = pure (some (.builtin "tuple.__getitem__")) := by rw [typeLookup_type, builtinLookup_eq_fast]; kernel_rfl
  unfold Builtin.«reversed.__new__»; refine wpAny_bind (wpAny_of_eq (newClass_reversed _) ?_)
  refine wpAny_bind (wpAny_of_eq (a := ()) (by first | rfl | kernel_rfl) (wpAny_bind (wpAny_of_eq (a := ()) (by first | rfl | kernel_rfl) ?_)))
  refine wpAny_bind (wpAny_specialOf ht.typeIs n1 ?_)
  dsimp only
  refine wpAny_bind ?_
  show wpAny _ _ (isInstance (.ref l) (.type "dict") >>= _) _ _ _
  refine wpAny_bind (wpAny_isInstance (T := "tuple") (b := false) ht.typeIs (by rw [isSubtype_type]; kernel_rfl) ?_)
  refine wpAny_ite_split (fun z => absurd z (by decide)) fun _ => ?_
  refine wpAny_bind (wpAny_specialOf ht.typeIs n2 ?_)
  refine wpAny_ite_split (fun _ => ?_) fun z => absurd (by decide +kernel) z
  refine wpAny_pure ?_
  refine wpAny_ite_split (fun z => absurd z (by decide)) fun _ => ?_
  refine wpAny_bind (len_tuple ht (by omega) ?_)
  refine wpAny_bind (wpAny_of_eq (a := some (items.size : Int)) rfl ?_)
  refine wpAny_bind (m := newObj (.type "reversed") (.fields #[.ref l, rawInt ((items.size : Int) - 1)])) (wpAny_newObj_type ?_)
  exact wpAny_pure ⟨_, rfl, h⟩
section
variable {prog : Program} {w : World} {A : Around} {E : Value → Shared → Prop} {s : Shared}
theorem call_rt {l : Addr} {items : Array Value} {Q : Value → Shared → Prop} (ht : IsTup s.heap l items) (hn : items.size < 100000) (h : Q (.ref s.heap.objs.size) { s with heap := s.heap.push (rtObj l ((items.size : Int) - 1)), toks := s.toks + 1 + 1 }) : wpAny (model prog w) A (call (.type "reversed") [.ref l]) Q E s := by
  refine callType_new rt_called (by decide) (F.typeCall_reversed_1 _) (F.newCall_reversed_1 _) (fun x => F.args_object_init_2 x _) F.entry_reversed_new (rt_new hn) ⟨ht, ?_⟩
  exact ⟨⟨_, Heap.get?_push_size _ rfl, rfl⟩, h⟩
def IsRt (h : Heap) (a l : Addr) (i : Int) : Prop := ∃ o, h.get? a = some o ∧ o.cls = .type "reversed" ∧ o.data = .fields #[.ref l, rawInt i]
theorem IsRt.ty {a l : Addr} {i : Int} (x : IsRt s.heap a l i) : s.TypeIs (.ref a) "reversed" := by obtain ⟨o, ho, hc, _⟩ := x; exact ⟨o, ho, hc⟩
theorem IsRt.at {h h' : Heap} {a l : Addr} {i : Int} (x : IsRt h a l i) (e : ∀ o, h.get? a = some o → h'.get? a = some o) : IsRt h' a l i := by obtain ⟨o, ho, r⟩ := x; exact ⟨o, e _ ho, r⟩
theorem rt_slot_next : Slot "reversed" "__next__" "reversed.__next__" := by
  refine .of (owner := "reversed") (n := "__next__") ?_ ?_ ?_ ?_ ?_ ?_
  · rw [typeLookup_type, builtinLookup_eq_fast]; kernel_rfl
  · decide +kernel
  · decide +kernel
  · decide +kernel
  · first | exact .inl (by decide +kernel) | exact .inr (by decide +kernel)
  · rw [isSubtype_type]; kernel_rfl
theorem rt_slot_iter : Slot "reversed" "__iter__" "reversed.__iter__" := by
  refine .of (owner := "reversed") (n := "__iter__") ?_ ?_ ?_ ?_ ?_ ?_
  · rw [typeLookup_type, builtinLookup_eq_fast]; kernel_rfl
  · decide +kernel
  · decide +kernel
  · decide +kernel
  · first | exact .inl (by decide +kernel) | exact .inr (by decide +kernel)
  · rw [isSubtype_type]; kernel_rfl
theorem rt_entry_next : entryFor table "reversed.__next__" = some Builtin.«reversed.__next__» := entryFor_of_tree (by kernel_rfl)
theorem rt_entry_iter : entryFor table "reversed.__iter__" = some Builtin.«dict_keyiterator.__iter__» := by
  refine entryFor_alias (id' := "dict_keyiterator.__iter__") ?_ ?_ ?_ ?_
  · kernel_rfl
  · first | rfl | decide +kernel | (unfold String.splitOn; simp +decide [String.splitOnAux])
  · decide +kernel
  · kernel_rfl
theorem rt_owner : Manifest.owners.lookup (String.ofList ['d', 'e', 's', 'r', 'e', 'v', 'e', 'r'].reverse) = some Manifest.sig_reversed := by kernel_rfl
theorem rt_args_next (a : Value) : argsOk "reversed.__next__" ⟨[a], []⟩ := by
  unfold argsOk
  rw [signature?_of (id := "reversed.__next__") (n := ['_', '_', 't', 'x', 'e', 'n', '_', '_']) (o := ['d', 'e', 's', 'r', 'e', 'v', 'e', 'r']) (by kernel_rfl) rt_owner]
  kernel_rfl
theorem rt_args_iter (a : Value) : argsOk "reversed.__iter__" ⟨[a], []⟩ := by
  unfold argsOk
  rw [signature?_of (id := "reversed.__iter__") (n := ['_', '_', 'r', 'e', 't', 'i', '_', '_']) (o := ['d', 'e', 's', 'r', 'e', 'v', 'e', 'r']) (by kernel_rfl) rt_owner]
  kernel_rfl
theorem rt_item {I l : Addr} {i : Nat} {items : Array Value} {x : Value} {Q : Option Value → Shared → Prop} (hit : IsRt s.heap I l (i : Int)) (ht : IsTup s.heap l items) (hx : items[i]? = some x) (hn : items.size < 100000)
    (hQ : ∀ h' tk, IsRt h' I l ((i : Int) - 1) → Heap.SameBut I s.heap h' → Q (some x) { s with heap := h', toks := tk }) : wpAny (model prog w) A (pyNext (.ref I)) Q E s := by
  have n2 : typeLookup (.type "tuple") "__getitem__" = pure (some (.builtin "tuple.__getitem__")) := by rw [typeLookup_type, builtinLookup_eq_fast]; kernel_rfl
  have lt : i < items.size := (Array.getElem?_eq_some_iff.mp hx).1
  obtain ⟨o, ho, hc, hd⟩ := id hit
  unfold pyNext
  refine wpAny_bind (wpAny_attempt (wpAny_callSpecial?_slot (name := Str.ofString "__next__") hit.ty rt_slot_next (wpAny_call_entry rt_slot_next hit.ty rt_entry_next ?_ (rt_args_next _))))
  unfold Builtin.«reversed.__next__»; refine wpAny_bind (wpAny_of_eq (a := (Value.ref I, [])) rfl ?_)
  dsimp only
  refine wpAny_bind (wpAny_field ho hd (x := .ref l) rfl (wpAny_bind (wpAny_field ho hd (x := rawInt (i : Int)) rfl ?_)))
  show wpAny _ _ (if (i : Int) < 0 then _ else _) _ _ _
  rw [if_neg (by omega)]
  refine wpAny_bind (wpAny_specialOf ht.typeIs n2 ?_)
  refine wpAny_ite_split (fun z => absurd z (by decide)) fun _ => ?_
  refine wpAny_bind (wpAny_mkInt ?_)
  refine wpAny_bind (wpAny_attempt (getItem_tuple (t := l) (items := items) (k := (i : Int)) (j := i) (x := x) ht (by omega) (by omega) (PySem.StrLaws.seqIndex_nonneg (by omega) (by omega)) hx ?_))
  refine wpAny_bind (wpAny_field ho hd (x := rawInt (i : Int)) rfl ?_)
  refine wpAny_bind (wpAny_setField ho hd (by simp) ?_)
  refine wpAny_pure ⟨x, rfl, wpAny_pure (hQ _ _ ?_ (Heap.SameBut.update ..))⟩
  refine ⟨_, Heap.get?_update_self _ ho (Obj.isFreed_of_fields (Obj.data_mapFields hd _)), (Obj.cls_mapFields ..).trans hc, ?_⟩
  rw [Obj.data_mapFields hd]; simp
theorem rt_end {I l : Addr} {Q : Option Value → Shared → Prop} (hh : A.handled = none) (hit : IsRt s.heap I l (-1)) (hQ : ∀ h', Heap.ExtBut I s.heap h' → Q none { s with heap := h' }) : wpAny (model prog w) A (pyNext (.ref I)) Q E s := by
  obtain ⟨o, ho, hc, hd⟩ := id hit
  unfold pyNext
  refine wpAny_bind (wpAny_attempt (wpAny_callSpecial?_slot (name := Str.ofString "__next__") hit.ty rt_slot_next (wpAny_call_entry rt_slot_next hit.ty rt_entry_next ?_ (rt_args_next _))))
  unfold Builtin.«reversed.__next__»; refine wpAny_bind (wpAny_of_eq (a := (Value.ref I, [])) rfl ?_)
  dsimp only
  refine wpAny_bind (wpAny_field ho hd (x := .ref l) rfl (wpAny_bind (wpAny_field ho hd (x := rawInt (-1)) rfl ?_)))
  show wpAny _ _ (if (-1 : Int) < 0 then _ else _) _ _ _
  rw [if_pos (by decide)]
  refine wpAny_bind (wpAny_rule (wpAny_bind ?_))
  show wpAny _ _ (setField (.ref I) 1 (rawInt (-1)) >>= fun _ => setField (.ref I) 0 .none) _ _ _
  refine wpAny_bind (wpAny_setField ho hd (by simp) ?_)
  have e1 := Heap.get?_update_self (Obj.mapFields fun f => f.setIfInBounds 1 (rawInt (-1))) ho (Obj.isFreed_of_fields (Obj.data_mapFields hd _))
  refine wpAny_setField e1 (Obj.data_mapFields hd _) (by simp) ?_
  have k2 : Heap.ExtBut I s.heap ((s.heap.update I (Obj.mapFields fun f => f.setIfInBounds 1 (rawInt (-1)))).update I (Obj.mapFields fun f => f.setIfInBounds 0 .none)) := fun b o' nb e => (Heap.get?_update_other _ _ (Ne.symm nb)).trans ((Heap.get?_update_other _ _ (Ne.symm nb)).trans e)
  generalize (s.heap.update I (Obj.mapFields fun f => f.setIfInBounds 1 (rawInt (-1)))).update I (Obj.mapFields fun f => f.setIfInBounds 0 .none) = hp at *
  refine wpAny_bind ?_
  show wpAny _ _ (newExc (.type "StopIteration") [] >>= _) _ _ _
  refine wpAny_bind ?_
  unfold newExc newTuple; refine wpAny_bind (wpAny_newObj_type ?_ (by size_fits))
  refine wpAny_bind (m := firstArgMember _ _) (wpAny_of_eq (a := Value.none) (by first | rfl | (unfold firstArgMember; rfl)) (wpAny_newObj_type ?_ (by size_fits)))
  unfold raiseNew; refine wpAny_bind (wpAny_handled ?_)
  first | rw [show A.in1.handled = none from hh] | rw [hh]
  refine wpAny_bind (wpAny_pure (wpAny_throw ?_)); refine wpAny_bind (wpAny_isInstance (T := "StopIteration") (b := true) ⟨_, Heap.get?_push_size _ rfl, rfl⟩ isSubtype_stop ?_)
  refine wpAny_pure (hQ _ ?_)
  exact fun b o' nb e => Heap.get?_push_of_some _ (Heap.get?_push_of_some _ (k2 b o' nb e))
theorem rt_self {I l : Addr} {i : Int} {Q : Value → Shared → Prop} (hit : IsRt s.heap I l i) (h : Q (.ref I) s) : wpAny (model prog w) A (pyIter (.ref I)) Q E s := by
  refine wpAny_pyIter_slot hit.ty rt_slot_iter (wpAny_call_entry rt_slot_iter hit.ty rt_entry_iter ?_ (rt_args_iter _))
  show wpAny _ _ (ret (.ref I)) _ _ _
  exact wpAny_pure ⟨_, rfl, "reversed", _, hit.ty, rt_slot_next.lookup, h⟩
end
theorem rt_walks {prog : Program} {w : World} {A : Around} (hh : A.handled = none) (I l : Addr) (hne : l ≠ I) (items : Array Value) (hn : items.size < 100000) :
    Walks prog w A I [I, l] [I] items.size (fun i v => items[items.size - 1 - i]? = some v) (fun i h => i ≤ items.size ∧ IsRt h I l ((items.size : Int) - 1 - (i : Int)) ∧ IsTup h l items) := by
  have tupAt : ∀ {h h' : Heap}, IsTup h l items → (∀ o, h.get? l = some o → h'.get? l = some o) → IsTup h' l items := fun x e => by obtain ⟨o, ho, r⟩ := x; exact ⟨o, e _ ho, r⟩
  refine ⟨fun b hb => by simp at hb; simp [hb], fun _ _ _ x hk => ⟨x.1, x.2.1.at fun o e => hk I (by simp) o e, tupAt x.2.2 fun o e => hk l (by simp) o e⟩, fun i s Q E hi x hQ => ?_, fun s Q E x hQ => ?_, fun _ _ _ _ x hQ => rt_self x.2.1 hQ⟩
  · have e : (items.size : Int) - 1 - (i : Int) = ((items.size - 1 - i : Nat) : Int) := by omega
    have hit := x.2.1
    rw [e] at hit
    refine rt_item hit x.2.2 (Array.getElem?_eq_getElem (by omega)) hn fun h' tk r sb => hQ _ h' tk (Array.getElem?_eq_getElem (by omega)) ⟨hi, ?_, tupAt x.2.2 fun o eo => (sb.2 l hne).trans eo⟩ fun b o hb eo => sb.extBut b o (fun z => hb (by simp [z])) eo
    rw [show (items.size : Int) - 1 - ((i + 1 : Nat) : Int) = ((items.size - 1 - i : Nat) : Int) - 1 by omega]
    exact r
  · have hit := x.2.1
    rw [show (items.size : Int) - 1 - (items.size : Int) = -1 by omega] at hit
    exact rt_end hh hit fun h' he => hQ h' s.toks fun b o hb eo => he b o (fun z => hb (by simp [z])) eo
end L2
set_option Elab.async false
set_option linter.all false
set_option maxRecDepth 100000
set_option maxHeartbeats 4000000
namespace L2
open PySem PySem.Calls PySem.Spec PyProof.Rows
theorem rt_slot_hint : Slot "reversed" "__length_hint__" "reversed.__length_hint__" := by
  refine .of (owner := "reversed") (n := "__length_hint__") ?_ ?_ ?_ ?_ ?_ ?_
  · rw [typeLookup_type, builtinLookup_eq_fast]; kernel_rfl
  · decide +kernel
  · decide +kernel
  · decide +kernel
  · first | exact .inl (by decide +kernel) | exact .inr (by decide +kernel)
  · rw [isSubtype_type]; kernel_rfl
theorem rt_entry_hint : entryFor table "reversed.__length_hint__" = some Builtin.«reversed.__length_hint__» := entryFor_of_tree (by kernel_rfl)
theorem rt_args_hint (a : Value) : argsOk "reversed.__length_hint__" ⟨[a], []⟩ := by
  unfold argsOk
  rw [signature?_of (id := "reversed.__length_hint__") (n := "__length_hint__".toList.reverse) (o := ['d', 'e', 's', 'r', 'e', 'v', 'e', 'r']) (by kernel_rfl) rt_owner]
  kernel_rfl
section
variable {prog : Program} {w : World} {A : Around} {E : Value → Shared → Prop} {s : Shared}
theorem rt_hint {I l : Addr} {items : Array Value} {Q : Bool → Shared → Prop} (hit : IsRt s.heap I l ((items.size : Int) - 1)) (ht : IsTup s.heap l items) (hn : items.size < 100000) (h : ∀ b tk, Q b { s with toks := tk }) : wpAny (model prog w) A (Builtin.List.listLengthHint (.ref I)) Q E s := by
  have n1 : typeLookup (.type "reversed") "__len__" = pure none := by rw [typeLookup_type, builtinLookup_eq_fast]; kernel_rfl
  unfold Builtin.List.listLengthHint; refine wpAny_bind (wpAny_specialOf hit.ty n1 ?_)
  show wpAny _ _ (specialOf (Value.ref I) (Str.ofString "__length_hint__") >>= _) _ _ _
  refine wpAny_bind (wpAny_specialOf hit.ty rt_slot_hint.lookup ?_)
  generalize hid : ("reversed.__length_hint__" : String) = id0
  wp_delta
  rw [show splitId id0 = some ("reversed", "__length_hint__") from by subst hid; decide +kernel]
  subst hid
  refine wpAny_bind (wpAny_isInstance (T := "reversed") (b := true) hit.ty F.sub_reversed_self ?_)
  refine wpAny_ite_split (fun z => absurd z (by decide)) fun _ => ?_
  refine wpAny_ite_split (fun z => absurd z (by decide +kernel)) fun _ => ?_
  refine wpAny_bind (wpAny_rule ?_)
  refine wpAny_bind (wpAny_of_eq (rt_slot_hint.bind _) ?_)
  dsimp only
  obtain ⟨o, ho, hc, hd⟩ := id hit
  have big : 100000 ≤ sizeLine := by unfold sizeLine; decide
  refine wpAny_bind (wpAny_attempt (wpAny_call_entry rt_slot_hint hit.ty rt_entry_hint ?_ (rt_args_hint _)))
  unfold Builtin.«reversed.__length_hint__»; refine wpAny_bind (wpAny_of_eq (a := Value.ref I) rfl (wpAny_bind (wpAny_field ho hd (x := .ref l) rfl ?_)))
  refine wpAny_ite_split (fun z => absurd z (by simp)) fun _ => ?_
  refine wpAny_bind (len_tuple ht (by omega) (wpAny_bind (wpAny_of_eq (a := some (items.size : Int)) rfl ?_)))
  refine wpAny_bind (wpAny_field (x := rawInt ((items.size : Int) - 1)) ho hd rfl ?_)
  show wpAny _ _ (if (items.size : Int) < (items.size : Int) - 1 + 1 then _ else _) _ _ _
  rw [if_neg (by omega)]
  refine wpAny_bind (wpAny_mkInt (wpAny_pure ⟨_, rfl, ?_⟩))
  refine wpAny_bind (m := asInt? (.int ((items.size : Int) - 1 + 1) _)) (wpAny_of_eq (a := some ((items.size : Int) - 1 + 1)) rfl ?_)
  refine wpAny_ite_split (fun z => ?_) fun _ => ?_
  · rw [show Builtin.List.listFitsIndex ((items.size : Int) - 1 + 1) = true from fitsIndex_both (by omega) (by omega)] at z; exact absurd z (by decide)
  refine wpAny_ite_split (fun z => absurd z (by omega)) fun _ => ?_
  refine wpAny_ite_split (fun z => ?_) fun _ => wpAny_pure (h _ _)
  rw [notLongL (by omega)] at z; exact absurd z (by decide)
theorem list_rt {I l : Addr} {items : Array Value} {Q : Value → Shared → Prop} (hh : A.handled = none) (hne : l ≠ I) (hit : IsRt s.heap I l ((items.size : Int) - 1)) (hl : IsTup s.heap l items) (hn : items.size < 100000)
    (hQ : ∀ h' tk acc c, (∀ b o, b ≠ I → s.heap.get? b = some o → h'.get? b = some o) → h'.get? s.heap.objs.size = some { cls := .type "list", data := .seq acc c } → ItemsOf (fun i v => items[items.size - 1 - i]? = some v) acc items.size → Q (.ref s.heap.objs.size) { s with heap := h', toks := tk }) : wpAny (model prog w) A (call (.type "list") [.ref I]) Q E s := by
  have big : 100000 ≤ sizeLine := by unfold sizeLine; decide
  refine callType_codes (Q₁ := fun x t => x = .ref s.heap.objs.size ∧ t = { s with heap := s.heap.push { cls := .type "list", data := .seq #[] } }) F.called_list (F.typeCall_list_1 _) F.entry_list_init (code_list_new _ ⟨rfl, rfl⟩) fun x t ht => ?_
  obtain ⟨rfl, rfl⟩ := ht
  have hI : I < s.heap.objs.size := by obtain ⟨o, ho, _⟩ := hit; exact Heap.lt_size ho
  have hL : l < s.heap.objs.size := hl.lt
  have e0 : (s.heap.push { cls := .type "list", data := .seq #[] }).get? s.heap.objs.size = some { cls := .type "list", data := .seq #[] } := Heap.get?_push_size _ rfl
  generalize hS : s.heap.objs.size = S at *
  generalize hp : s.heap.push { cls := .type "list", data := .seq #[] } = hp1 at *
  have old : ∀ b o, s.heap.get? b = some o → hp1.get? b = some o := fun b o e => by rw [← hp]; exact Heap.get?_push_of_some _ e
  have nI : S ≠ I := Nat.ne_of_gt hI
  have nL : S ≠ l := Nat.ne_of_gt hL
  refine ⟨⟨_, e0, rfl⟩, F.args_list_init_2 _ _, ?_⟩
  show wpAny _ _ (Builtin.List.listItems (.ref S) >>= fun was => Builtin.List.listUpdate (.ref S) (fun _ => #[]) >>= fun _ => letGo was.toList.reverse >>= fun _ => Builtin.List.listExtendWith (.ref S) (.ref I) .none) _ _ _
  unfold Builtin.List.listItems; refine wpAny_bind (wpAny_bind (wpAny_seqItems e0 rfl (wpAny_pure ?_)))
  refine wpAny_bind (m := updateSeq S fun _ => #[]) (wpAny_updateSeq e0 rfl ?_)
  have e1 := Heap.get?_update_self (Obj.mapSeq fun _ => (#[] : Array Value)) e0 rfl
  have old1 : ∀ b o, b ≠ S → s.heap.get? b = some o → (hp1.update S (Obj.mapSeq fun _ => #[])).get? b = some o := fun b o nb e => (Heap.get?_update_other _ _ (Ne.symm nb)).trans (old b o e)
  generalize hp1.update S (Obj.mapSeq fun _ => #[]) = hp2 at *
  refine wpAny_bind (wpAny_letGo ?_)
  have it2 : IsRt hp2 I l ((items.size : Int) - 1) := hit.at fun o e => old1 I o nI.symm e
  have l2 : IsTup hp2 l items := by obtain ⟨o, ho, r⟩ := hl; exact ⟨o, old1 l o nL.symm ho, r⟩
  have ty : Shared.TypeIs { s with heap := hp2 } (.ref I) "reversed" := it2.ty
  unfold Builtin.List.listExtendWith; refine wpAny_bind (wpAny_typeOf ty ?_)
  have ns : Builtin.List.listSameRef (.ref S) (.ref I) = false := by simp [Builtin.List.listSameRef, nI]
  rw [ns]
  show wpAny _ _ (pyIter (Value.ref I) >>= _) _ _ _
  refine wpAny_bind (rt_self it2 ?_)
  have key : ∀ (h3 : Heap) (c3 tk : Nat), h3.get? S = some { cls := .type "list", data := .seq #[] c3 } → (∀ b o, b ≠ S → hp2.get? b = some o → h3.get? b = some o) → codeAny (model prog w) A.in1 (.builtin "list.extend.loop" ⟨[.ref S, .ref I, .none], []⟩) (wants (fun r s₂ => r = Value.none ∧ Q (Value.ref S) s₂) E) { s with heap := h3, toks := tk } := fun h3 c3 tk eS k3 => by
    have W := rt_walks (prog := prog) (w := w) (A := A.in1.in1) hh I l hne items hn
    refine codeAny_extend_loopS W.toS (by omega) S (by simp [nI, nL]) .none items.size 0 _ #[] c3 rfl (Nat.zero_le _) ⟨Nat.zero_le _, ?_, ?_⟩ eS (ItemsOf.nil _) fun t acc c hm hS2 hacc => ?_
    · simpa using it2.at fun o e => k3 I o nI.symm e
    · obtain ⟨o, ho, r⟩ := l2; exact ⟨o, k3 l o nL.symm ho, r⟩
    rw [Moved.eq_with hm]
    refine ⟨rfl, hQ t.heap t.toks acc c (fun b o nb e => ?_) hS2 hacc⟩
    have nS : b ≠ S := fun z => by rw [z, ← hS] at e; exact Nat.lt_irrefl _ (Heap.lt_size e)
    exact hm.heap b o (by simp [nS, nb]) (k3 b o nS (old1 b o nS e))
  refine wpAny_bind (wpAny_holding (rt_hint (s := { s with heap := hp2 }) it2 l2 hn fun room tk => ?_))
  refine wpAny_ite_split (fun _ => ?_) fun _ => wpAny_pure ⟨plainId_quiet F.plain_extend_loop _, key hp2 _ tk e1 fun b o _ e => e⟩
  refine wpAny_bind (wpAny_rule (wpAny_bind ?_))
  show wpAny _ _ (updateSeq S (·.push .none) >>= fun _ => updateSeq S (·.pop)) _ _ _
  refine wpAny_bind (wpAny_updateSeq e1 rfl ?_)
  have e2 := Heap.get?_update_self (Obj.mapSeq fun x => x.push Value.none) e1 rfl
  refine wpAny_updateSeq (hz := by seq_fits) e2 rfl ?_
  have e3 := Heap.get?_update_self (Obj.mapSeq fun x => x.pop) e2 rfl
  exact wpAny_pure ⟨plainId_quiet F.plain_extend_loop _, key _ _ _ e3 fun b o nb e => (Heap.get?_update_other _ _ (Ne.symm nb)).trans ((Heap.get?_update_other _ _ (Ne.symm nb)).trans e)⟩
end
section
variable {X : Cx}
def tListRevT (ta : TA) : TE := fun σ H Q => ta σ H fun vs H1 => ∃ l xs, vs = [.ref l] ∧ H1 l = some (.tup xs) ∧ xs.length < 100000 ∧ ∀ p H', H1 p = none → Same H1 H' → H' p = some (.lst xs.reverse) → Q (.ref p) H'
theorem pe_listRevT {a : Expr} {ta : TA} {p1 p2 pos1 pos2 : Pos} (hg : Gl X "list") (hm : X.mg "list" = none) (hg2 : Gl X "reversed") (hm2 : X.mg "reversed" = none) (ha : PA X [a] ta) (hc : X.calm = true := by rfl) (hs : starEach [a] X.env = [(false, eval a X.env)] := by rfl) (hs2 : starEach [.Call (.Name "reversed" p2) [a] [] pos2] X.env = [(false, eval (.Call (.Name "reversed" p2) [a] [] pos2) X.env)] := by rfl) : PE X (.Call (.Name "list" p1) [.Call (.Name "reversed" p2) [a] [] pos2] [] pos1) (tListRevT ta) := by
  intro pins s σ H Q I h
  refine Call_ (ld_blt I hg hm (show bootBuiltins "list" = some (.type "list") by decide +kernel) (PyProof.Rows.callWith_type1 ?_ hs2 rfl))
  rw [hs2]
  refine Calls.spliced_cons ?_
  refine Call_ (ld_blt I hg2 hm2 (show bootBuiltins "reversed" = some (.type "reversed") by decide +kernel) (PyProof.Rows.callWith_type1 (thn (ha pos2 pins s σ H _ I h) fun us s1 ⟨vs, H1, I1, r1, q1⟩ => ?_) hs rfl))
  obtain ⟨l, xs, e, hl, hz, q⟩ := q1
  subst e
  obtain ⟨u, rfl, ru⟩ := vals1 r1
  cases ru
  obtain ⟨z, its, r, isl⟩ := (show ObjOk X.prog X.w H1 s1.heap l (.tup xs) from I1.hok l _ hl)
  have hlen := r.length
  have hL : l < s1.heap.objs.size := isl.lt
  have hn : its.toArray.size < 100000 := by rw [List.size_toArray]; omega
  refine call_rt isl hn ?_
  refine Calls.spliced_nil ?_
  refine list_rt (l := l) (items := its.toArray) (I1.ok.hd hc) (Nat.ne_of_lt hL) ⟨_, Heap.get?_push_size _ rfl, rfl, rfl⟩ (isl.push _) hn fun h' tk acc c k e' i => ?_
  have sz : (s1.heap.push (rtObj l ((its.toArray.size : Int) - 1))).objs.size = s1.heap.objs.size + 1 := by simp [Heap.push]
  have fr : H1 (s1.heap.objs.size + 1) = none := I1.hok.fresh (Nat.le_succ _)
  rw [show ({ s1 with heap := s1.heap.push (rtObj l ((its.toArray.size : Int) - 1)), toks := s1.toks + 1 + 1 } : Shared).heap.objs.size = s1.heap.objs.size + 1 from sz] at e' ⊢
  have kk : ∀ b o, s1.heap.get? b = some o → h'.get? b = some o := fun b o eb => k b o (fun z => by rw [z] at eb; exact Nat.lt_irrefl _ (Heap.lt_size eb)) (Heap.get?_push_of_some _ eb)
  have I2 := I1.laid (a := s1.heap.objs.size + 1) (o := .lst xs.reverse) (t' := tk) kk (Nat.le_succ _) (show ObjOk X.prog X.w _ h' _ (.lst _) from ⟨by rw [List.length_reverse]; exact z, acc.toList, c, rev_vals r i, by simpa using e'⟩)
  exact ⟨.ref (s1.heap.objs.size + 1), _, I2, rfl, q _ _ fr (same_new fr _) upd_same⟩
end
end L2
set_option Elab.async false
set_option linter.all false
set_option maxRecDepth 100000
set_option maxHeartbeats 4000000
namespace L2
open PySem PySem.Spec PyProof.Rows
def rLenG : List V → Hp → VK → Prop := fun xs H Q => ∃ p ys, xs = [.ref p] ∧ (H p = some (.tup ys) ∨ H p = some (.lst ys)) ∧ Q (.int ys.length) H
theorem call_lenG {X : Cx} : CallR X (.builtin "len") rLenG := by
  intro pins s σ H xs us Q I r h
  obtain ⟨p, ys, e, hp, q⟩ := h
  refine call_len_seq pins s σ H xs us Q I r ⟨p, ys, e, ?_, q⟩
  rcases hp with hp | hp
  · exact .inr (SqT.of hp)
  · exact .inl (SqL.of hp)
end L2
set_option Elab.async false
set_option linter.all false
set_option maxRecDepth 100000
set_option maxHeartbeats 4000000
namespace L2
open PySem
def rEqE : R2 := fun x y H Q => ∃ a b xs, x = .ref a ∧ y = .ref b ∧ H a = some (.lst xs) ∧ H b = some (.lst []) ∧ Q (.bl xs.isEmpty) H
theorem op_eqE {X : Cx} (hu : X.A.units + 64 < cLine) : OpR X (compareOp .Eq) rEqE := by
  intro pins s σ H x y v u Q I rx ry h
  obtain ⟨a, b, xs, rfl, rfl, ha, hb, q⟩ := h
  cases rx
  cases ry
  obtain ⟨its, r, pl, _⟩ := I.list (SqL.of ha)
  obtain ⟨its2, r2, pl2, _⟩ := I.list (SqL.of hb)
  have l1 : xs.length = its.length := r.length
  have l2 : 0 = its2.length := r2.length
  cases xs with
  | nil =>
    refine SeqAt.eq_listAt (e := fun _ => true) pl.isList pl2.isList ?_ (by omega) (fun j h1 h2 => ?_) ⟨.bl _, H, I, rfl, ?_⟩
    · simp only [List.length_nil] at l1
      simp only [List.size_toArray]; omega
    · exfalso
      simp only [List.size_toArray, List.length_nil] at h1 l1; omega
    · have : (List.range its.toArray.size).all (fun _ => true) = true := by simp
      rw [this]; exact q
  | cons v xs =>
    refine SeqAt.eq_list_lengthsAt pl.isList pl2.isList ?_ (by omega) ⟨.bl _, H, I, rfl, q⟩
    simp only [List.length_cons] at l1
    simp only [List.size_toArray, bne_iff_ne, ne_eq]; omega
end L2
set_option Elab.async false
set_option linter.all false
set_option maxRecDepth 100000
set_option maxHeartbeats 4000000
namespace HD
open PySem PySem.W
def afterR {α : Type} (v : Obj) (k : BT → α) (l r : BT) : α := k (.node v l r)
def afterL {α : Type} (v : Obj) (k : BT → α) (fr : (BT → α) → α) (l : BT) : α := fr (afterR v k l)
noncomputable def forceT {α : Type} (t : BT) : (BT → α) → α :=
  @BT.rec (fun _ => (BT → α) → α) (fun k => k .nil) (fun v _ _ fl fr k => fl (afterL v k fr)) t
theorem forceT_eq {α : Type} : ∀ (t : BT) (k : BT → α), forceT t k = k t
  | .nil, _ => rfl
  | .node v l r, k => by
    show forceT l (afterL v k (forceT r)) = _
    rw [forceT_eq l]
    show forceT r (afterR v k l) = _
    rw [forceT_eq r]
    rfl
noncomputable def forceN {α : Type} (n : Nat) (k : Nat → α) : α := @Nat.rec (fun _ => α) (k 0) (fun m _ => k (m + 1)) n
theorem forceN_eq {α : Type} (n : Nat) (k : Nat → α) : forceN n k = k n := by cases n <;> rfl
def putBack {α : Type} (k : SharedT → α) (life : Life) (gens : Array GenState) (drawn : Drawn) (os : OsState) (n toks : Nat) (t : BT) : α := k ⟨t, n, life, gens, drawn, toks, os⟩
noncomputable def putT {α : Type} (k : SharedT → α) (t : BT) (life : Life) (gens : Array GenState) (drawn : Drawn) (os : OsState) (n toks : Nat) : α := forceT t (putBack k life gens drawn os n toks)
noncomputable def putN {α : Type} (k : SharedT → α) (t : BT) (life : Life) (gens : Array GenState) (drawn : Drawn) (os : OsState) (toks n : Nat) : α := forceN toks (putT k t life gens drawn os n)
noncomputable def forceS {α : Type} (s : SharedT) (k : SharedT → α) : α := match s with
  | ⟨t, n, life, gens, drawn, toks, os⟩ => forceN n (putN k t life gens drawn os toks)
theorem forceS_eq {α : Type} (s : SharedT) (k : SharedT → α) : forceS s k = k s := by
  obtain ⟨t, n, life, gens, drawn, toks, os⟩ := s
  show forceN n (putN k t life gens drawn os toks) = _
  rw [forceN_eq]
  show forceN toks (putT k t life gens drawn os n) = _
  rw [forceN_eq]
  show forceT t (putBack k life gens drawn os n toks) = _
  rw [forceT_eq]
  rfl
section
variable (thr ok : Thread → Bool) (st : SharedT → Thread → Option (SharedT × Thread))
def turn1 (ih : SharedT → Thread → Option (Bool × SharedT × Thread)) (s : SharedT) (t : Thread) : Option (Bool × SharedT × Thread) := match thr t with
  | true => some (true, s, t)
  | false => match ok t with
    | false => none
    | true => match st s t with
      | some (s', t') => ih s' t'
      | none => none
noncomputable def stepsF (n : Nat) : SharedT → Thread → Option (Bool × SharedT × Thread) :=
  @Nat.rec (fun _ => SharedT → Thread → Option (Bool × SharedT × Thread)) (fun s t => some (false, s, t)) (fun _ ih => turn1 thr ok st ih) n
def endF {α : Type} (k : SharedT → α) (s : SharedT) : Option α := some (k s)
def goOn {α : Type} (ih : SharedT → Thread → Option α) (t : Thread) (s : SharedT) : Option α := ih s t
noncomputable def turnF {α : Type} (m : Nat) (k : SharedT → α) (ih : SharedT → Thread → Option α) (s : SharedT) (t : Thread) : Option α :=
  match stepsF thr ok st m s t with
    | some (true, s', _) => forceS s' (endF k)
    | some (false, s', t') => forceS s' (goOn ih t')
    | none => none
noncomputable def runF {α : Type} (m : Nat) (k : SharedT → α) (n : Nat) : SharedT → Thread → Option α :=
  @Nat.rec (fun _ => SharedT → Thread → Option α) (fun _ _ => none) (fun _ ih => turnF thr ok st m k ih) n
end
section
variable {tb : String → Option Builtin} {p : Program} {w : World} {n₀ : Nat} {ann : Option Value}
noncomputable abbrev steps₁ (tb : String → Option Builtin) (p : Program) (w : World) (n₀ : Nat) (ann : Option Value) := stepsF through (stepOk n₀ ann) (stepT (denote tb) p w)
noncomputable abbrev run₁ {α : Type} (tb : String → Option Builtin) (p : Program) (w : World) (n₀ : Nat) (ann : Option Value) := @runF through (stepOk n₀ ann) (stepT (denote tb) p w) α
theorem steps_go : ∀ {n : Nat} {s s' : SharedT} {t t' : Thread}, steps₁ tb p w n₀ ann n s t = some (false, s', t') → ∀ N r, topRun tb p w n₀ ann N s'.abs t' = some r → topRun tb p w n₀ ann (n + N) s.abs t = some r
  | 0, s, s', t, t', h, N, r, k => by
    cases h
    rw [Nat.zero_add]; exact k
  | n + 1, s, s', t, t', h, N, r, k => by
    rw [show n + 1 + N = n + N + 1 by omega]
    have h : turn1 through (stepOk n₀ ann) (stepT (denote tb) p w) (steps₁ tb p w n₀ ann n) s t = some (false, s', t') := h
    unfold turn1 at h
    unfold topRun
    cases ht : through t with
    | true => rw [ht] at h; cases h
    | false =>
      rw [ht] at h
      cases hk : stepOk n₀ ann t with
      | false => rw [hk] at h; cases h
      | true =>
        rw [hk] at h
        cases hs : stepT (denote tb) p w s t with
        | none => rw [hs] at h; cases h
        | some x => obtain ⟨s₂, t₂⟩ := x; rw [hs] at h; rw [stepT_spec hs]; exact steps_go h N r k
theorem steps_end : ∀ {n : Nat} {s s' : SharedT} {t t' : Thread}, steps₁ tb p w n₀ ann n s t = some (true, s', t') → topRun tb p w n₀ ann n s.abs t = some s'.abs
  | 0, s, s', t, t', h => by cases h
  | n + 1, s, s', t, t', h => by
    have h : turn1 through (stepOk n₀ ann) (stepT (denote tb) p w) (steps₁ tb p w n₀ ann n) s t = some (true, s', t') := h
    unfold turn1 at h
    unfold topRun
    cases ht : through t with
    | true => rw [ht] at h; cases h; rfl
    | false =>
      rw [ht] at h
      cases hk : stepOk n₀ ann t with
      | false => rw [hk] at h; cases h
      | true =>
        rw [hk] at h
        cases hs : stepT (denote tb) p w s t with
        | none => rw [hs] at h; cases h
        | some x => obtain ⟨s₂, t₂⟩ := x; rw [hs] at h; rw [stepT_spec hs]; exact steps_end h
theorem run_spec {α : Type} {m : Nat} {k : SharedT → α} {r : α} : ∀ {n : Nat} {s : SharedT} {t : Thread}, run₁ tb p w n₀ ann m k n s t = some r → ∃ s', topRun tb p w n₀ ann (m * n) s.abs t = some s'.abs ∧ k s' = r
  | 0, s, t, h => by cases h
  | n + 1, s, t, h => by
    have h : turnF through (stepOk n₀ ann) (stepT (denote tb) p w) m k (run₁ tb p w n₀ ann m k n) s t = some r := h
    unfold turnF at h
    cases hs : stepsF through (stepOk n₀ ann) (stepT (denote tb) p w) m s t with
    | none => rw [hs] at h; cases h
    | some x =>
      obtain ⟨b, s₂, t₂⟩ := x
      rw [hs] at h
      cases b with
      | true =>
        have h : forceS s₂ (endF k) = some r := h
        rw [forceS_eq] at h
        refine ⟨s₂, ?_, Option.some.inj h⟩
        rw [show m * (n + 1) = m + m * n by rw [Nat.mul_succ]; omega]
        exact topRun_mono _ _ _ _ _ (steps_end hs)
      | false =>
        have h : forceS s₂ (goOn (run₁ tb p w n₀ ann m k n) t₂) = some r := h
        rw [forceS_eq] at h
        obtain ⟨s', e, e'⟩ := run_spec h
        refine ⟨s', ?_, e'⟩
        rw [show m * (n + 1) = m + m * n by rw [Nat.mul_succ]; omega]
        exact steps_go hs _ _ e
end
noncomputable def tree0 (P : Params) : BT :=
  .node (boot_o_0 P) (.node (boot_o_1 P) (.node (boot_o_3 P) (.node (boot_o_7 P) .nil .nil) .nil) (.node (boot_o_5 P) (.node (boot_o_9 P) .nil .nil) .nil))
    (.node (boot_o_2 P) (.node (boot_o_4 P) (.node (boot_o_8 P) .nil .nil) .nil) (.node (boot_o_6 P) (.node (boot_o_10 P) .nil .nil) .nil))
noncomputable def begin0 (w : World) (os : OsState) : SharedT := ⟨tree0 w.params, 11, (boot_heap w.params).life, #[], boot_drawn, boot_toks, os⟩
noncomputable def ann0 (w : World) : Option Value := (boot_heap w.params).nsMap mainGlobals "__annotations__"
noncomputable def look {α : Type} (p q : Program) (loose : List Str) (Xt : Shared → Bool) (g0 : Bool) (Yf : Shared → α) (w : World) (s : SharedT) :=
  ((staticsOk (importedModules p.main.body) (boot_heap w.params) s.abs.heap && namesBound p s.abs.heap && gensDone s.abs && laidKept (boot_heap w.params) s.abs.heap), openSeen q loose (importedModules p.main.body) Xt g0 s.abs, Yf s.abs)
theorem main0 (w : World) : (boot_heap w.params).isNs mainGlobals = true := by kernel_rfl
noncomputable abbrev runQ {α : Type} (p : Program) (w : World) := @runF through (Fast.tw6613529449190102663 11 (ann0 w)) (Fast.tw10156331382660048174 (Fast.tw11892475500146522536 Fast.tw14364793385576792824) p w) α
theorem runQ_eq {α : Type} (p : Program) (w : World) : @run₁ α treeTable p w 11 (ann0 w) = runQ p w := by
  show @runF through (stepOk 11 (ann0 w)) (stepT (denote treeTable) p w) α = _
  rw [Fast.te6613529449190102663, Fast.te10156331382660048174, Fast.te11892475500146522536, Fast.te14364793385576792824]
end HD
set_option Elab.async false
set_option linter.all false
set_option maxRecDepth 100000
set_option maxHeartbeats 4000000
namespace HD
open PySem PySem.W
def pickF {α : Type} (o : Option Obj) (a : Nat) (ih : Frag → (Frag → α) → α) (acc : Frag) (k : Frag → α) : α := match o with
  | some o => (match alive o with
    | some o' => ih ((a, o') :: acc) k
    | none => ih acc k)
  | none => ih acc k
noncomputable def fragF {α : Type} (t : BT) (n : Nat) : Frag → (Frag → α) → α :=
  @Nat.rec (fun _ => Frag → (Frag → α) → α) (fun acc k => k acc) (fun a ih acc k => pickF (t.get a) a ih acc k) n
def fragH (h : Heap) (n : Nat) : Frag := (List.range n).filterMap fun a => (h.get? a).map fun o => (a, o)
theorem lookup_mem {a : Addr} {o : Obj} : ∀ {K : Frag}, K.lookup a = some o → (a, o) ∈ K
  | [], h => nomatch h
  | (b, x) :: K, h => by
    simp only [List.lookup] at h
    split at h
    · rename_i q; cases h; rw [beq_iff_eq.mp q]; exact List.mem_cons_self
    · exact List.mem_cons_of_mem _ (lookup_mem h)
theorem fragH_in (h : Heap) (n : Nat) : (fragH h n).In h := fun a o e => by
  obtain ⟨b, _, q⟩ := List.mem_filterMap.mp (lookup_mem e)
  obtain ⟨x, h1, h2⟩ := Option.map_eq_some_iff.mp q
  cases h2
  exact h1
def full (t : BT) (n : Nat) : Bool := (List.range n).all fun a => (t.get a).isSome
theorem fragF_eq {α : Type} {t : BT} {m : Nat} {life : Life} {k : Frag → α} (f : full t m = true) : ∀ (n : Nat) (acc : Frag), n ≤ m → fragF t n acc k = k (fragH (absHeap t m life) n ++ acc)
  | 0, acc, _ => rfl
  | n + 1, acc, le => by
    have e : fragF t (n + 1) acc k = pickF (t.get n) n (fragF t n) acc k := rfl
    have hs : (t.get n).isSome = true := List.all_eq_true.mp f n (List.mem_range.mpr le)
    obtain ⟨o, hg⟩ := Option.isSome_iff_exists.mp hs
    have hx : fragH (absHeap t m life) (n + 1) ++ acc = fragH (absHeap t m life) n ++ ((match alive o with | some o' => [(n, o')] | none => []) ++ acc) := by
      unfold fragH
      rw [List.range_succ, List.filterMap_append, List.append_assoc]
      congr 2
      rw [List.filterMap_cons, List.filterMap_nil, abs_get le hg]
      cases alive o <;> rfl
    rw [e, hx]
    unfold pickF
    rw [hg]
    cases ha : alive o with
    | none => simp only [ha]; exact fragF_eq f n acc (Nat.le_of_succ_le le)
    | some o' => simp only [ha]; exact fragF_eq f n _ (Nat.le_of_succ_le le)
noncomputable def lookF {α : Type} (see : Frag → α) (s : SharedT) : α := fragF s.tree s.n [] see
theorem lookF_eq {α : Type} {see : Frag → α} {s : SharedT} (f : full s.tree s.n = true) : lookF see s = see (fragH s.abs.heap s.abs.heap.objs.size) := by
  unfold lookF
  rw [fragF_eq (life := s.life) f s.n [] (Nat.le_refl _), List.append_nil]
  show _ = see (fragH (absHeap s.tree s.n s.life) (absHeap s.tree s.n s.life).objs.size)
  rw [absHeap_size]
noncomputable def lookK {α : Type} (p q : Program) (loose : List Str) (Xt : Shared → Bool) (see : Frag → α) (w : World) (s : SharedT) :=
  (full s.tree s.n && (staticsOk (importedModules p.main.body) (boot_heap w.params) s.abs.heap && namesBound p s.abs.heap && gensDone s.abs && laidKept (boot_heap w.params) s.abs.heap), openSeen q loose (importedModules p.main.body) Xt true s.abs, lookF see s)
def seeH {α : Type} (see : Frag → α) (s : Shared) : α := see (fragH s.heap s.heap.objs.size)
theorem left_of_see {p q : Program} {loose : List Str} {Xt : Shared → Bool} {α : Type} {see : Frag → α} {saw : World → α} {N : Nat} {m n : Nat}
    (e : opening p = plainProg p.main.scope.names) (hN : Nat.ble 600 N = true) (f : ∀ s, fenceModules? p s = some s) (le : Nat.ble (m * n) N = true)
    (run : ∀ (w : World) (os : OsState), runQ p w m (lookK p q loose Xt see w) n (begin0 w os) (topStub p) = some (true, openGood q loose, saw w)) :
    LeftO p q loose Xt (seeH see) saw N true := by
  intro w
  obtain ⟨⟨h, gs, d, k, os⟩, e1, e2⟩ := Option.map_eq_some_iff.mp (boot_open e hN f w)
  obtain ⟨rfl, rfl, rfl, rfl⟩ : h = boot_heap w.params ∧ gs = Array.mk [] ∧ d = boot_drawn ∧ k = boot_toks := by simpa using e2
  have r0 := run w os
  rw [← runQ_eq] at r0
  obtain ⟨s', r, l⟩ := run_spec r0
  have r : topRun treeTable p w 11 (ann0 w) (m * n) ⟨boot_heap w.params, Array.mk [], boot_drawn, boot_toks, os⟩ (topStub p) = some s'.abs := r
  have r := topRun_mono (N - m * n) _ _ _ _ r
  rw [show m * n + (N - m * n) = N by have := Nat.le_of_ble_eq_true le; omega] at r
  obtain ⟨l0, l1⟩ := Bool.and_eq_true_iff.mp (congrArg Prod.fst l)
  have l2 := congrArg (fun x => x.2.1) l
  have l3 := (lookF_eq (see := see) l0).symm.trans (congrArg (fun x => x.2.2) l)
  have t : topFrom treeTable p w N ⟨boot_heap w.params, Array.mk [], boot_drawn, boot_toks, os⟩ = some s'.abs := by
    unfold topFrom
    show (match (boot_heap w.params).isNs mainGlobals && true with | true => _ | false => _) = _
    rw [main0 w]
    show (topRun treeTable p w 11 (ann0 w) N ⟨boot_heap w.params, Array.mk [], boot_drawn, boot_toks, os⟩ (topStub p)).bind _ = _
    rw [r]
    show (match staticsOk (importedModules p.main.body) (boot_heap w.params) s'.abs.heap && namesBound p s'.abs.heap && gensDone s'.abs && laidKept (boot_heap w.params) s'.abs.heap with | true => _ | false => _) = _
    rw [l1]
  unfold openEnds
  rw [e1]
  show Option.map _ (topFrom treeTable p w N _) = _
  rw [t]
  exact congrArg some (Prod.ext l2 l3)
theorem turn_of {P : Program → Prop} {p p' : Program} (h : p = p') (x : P p') : P p := h ▸ x
def ofOthers (p : Program) (x : Str) : List Str := p.boundNames.filter fun y => !(y == x)
theorem holds_see {l : OpenLaw} {i N m n : Nat} {α : Type} {see : Frag → α} {saw : World → α} {d : DefRec} {kwd : List (Str × Expr)}
    (said : l.row.wellSaid = true)
    (e : opening l.prog = plainProg l.prog.main.scope.names) (f : ∀ s, fenceModules? l.prog s = some s) (hN : Nat.ble 600 N = true) (le : Nat.ble (m * n) N = true)
    (run : ∀ (w : World) (os : OsState), runQ l.prog w m (lookK l.prog (view l.prog [i]) (ofOthers l.prog l.name) (fun _ => true) see w) n (begin0 w os) (topStub l.prog) = some (true, openGood (view l.prog [i]) (ofOthers l.prog l.name), saw w))
    (hdef : defOf (view l.prog [i]) l.row.name = some (d, kwd)) (hp : l.row.prog.theDef l.row.name = some (d.params, d.body, d.scope)) (hk : kwWritten? d.params.kwonlyargs d.params.kw_defaults = some kwd)
    (ok : (chainsOk (view l.prog [i]) && opensWell l.row.prog && (frees l.row.toRowW && l.row.within.isEmpty)) = true) (hb : l.row.prog.bare) (hw : l.row.toRowW.promised)
    (call : WalkO (view l.prog [i]) (ofOthers l.prog l.name) (fun _ _ => True) (fun w h => ∃ K : Frag, K.In h ∧ see K = saw w) l.row.toRowW d kwd fun f vs => PySem.call f vs) : l.row.Holds :=
  holds_open (r := l.row) (left_of_see e hN f le run) (fun _ s h => ⟨_, fragH_in s.heap _, h⟩) (fun _ _ _ ⟨K, a, b⟩ k => ⟨K, a.keeps k, b⟩) (fun _ _ => trivial) (fun _ _ _ _ _ => trivial) hdef hp hk (fun s _ => recFacts_of (R := []) rfl) (by show (_ || true) = true; exact Bool.or_true _) said ok hb hw call
theorem walk_see {l : OpenLaw} {n k : Nat} {q : Program} {loose : List Str} {XP : (Str → Option Value) → Heap → Prop} {S : World → Frag → Prop} {d : DefRec} {CX : L2.CXT} {sp : Frag → L2.Sp} {x : Str}
    (hn : l.most = some n) (hn2 : n ≤ sizeLine) (hdf : d.params.defaults = []) (hr : L2.Room k callerA)
    (F : ∀ (w : World) (K : Frag) (mg : Str → Option Value) (fa : Addr) (h : Heap), S w K → K.In h → h.Ns mainGlobals mg → mg d.name = some (.ref fa) →
      ∃ fd : FuncData, (∀ (s : Shared) (u : Value), BindsTo s fd ⟨[u], []⟩ [(x, u)]) ∧
        ∀ base : Heap, K.In base → base.Ns mainGlobals mg → L2.FnOk l.prog w K mg base CX k fa fd [x] (sp K))
    (hsp : ∀ (K : Frag) (H : L2.Hp) (a : Addr) (ns : List Int), ns.length ≤ n → L2.Only H → L2.SqL K H a (ns.map L2.V.int) → sp K [.ref a] H (fun v _ => v = .bl true) fun _ _ _ => False)
    (hCX : ∀ (H : L2.Hp) (s : Shared) (e : Value) (s' : Shared), CX [] H s (fun _ _ _ => False) e s' → False) :
    WalkO q loose XP (fun w h => ∃ K : Frag, K.In h ∧ S w K) l.row.toRowW d [] (fun f vs => PySem.call f vs) := by
  refine Att.attach_call hn hdf fun w s₀ s₁ mg mb fa o pm cd doc a vs ns G Y ho hd hcd hmg hobj hints hlen hg => ?_
  obtain ⟨K, KX, hS⟩ := Y
  obtain ⟨fd, hb, hF⟩ := F w K mg fa _ hS KX G.T.g hmg
  exact L2.law_call KX G.T.g G.T.b G.T.builtins G.T.nolimit hg hobj hints (Nat.le_trans hlen hn2) hr hF hb (fun H hO hS => hsp K H a ns hlen hO hS) fun H e s' => hCX H s₁ e s'
def defName (s : Stmt) : Str := match s with
  | .FunctionDef n _ _ _ _ _ _ _ _ _ => n
  | _ => ""
abbrev FnSeen := Option (Str × Str × Arguments × FuncBody × Scope × Addr × List (Str × Addr) × Value × Addr × Bool)
def fnLook (K : Frag) (q : Str) (f : Addr) : FnSeen := match K.lookup f with
  | some ⟨_, _, .func fd, _⟩ => some (fd.name, fd.qualname, fd.params, fd.body, fd.scope, fd.globals, fd.closure, fd.defaults, fd.builtins, codeIn K fd.code q)
  | _ => none
def fnSaw (x q : Str) (st : Stmt) : FnSeen := some (x, q, L2.defArgs st, .stmts (L2.defBody st), L2.defScope st, mainGlobals, [], .none, builtinsNs, true)
theorem fn_of {K : Frag} {x q : Str} {st : Stmt} {f : Addr} (e : fnLook K q f = fnSaw x q st) :
    ∃ fd : FuncData, L2.Fun K x q st f fd := by
  unfold fnLook at e
  split at e
  · rename_i oc od fd sl hl
    obtain ⟨nm, qn, pa, bo, sc, gl, cl, df, kd, doc, pm, an, cdv, ct, bu⟩ := fd
    simp only [fnSaw, Option.some.injEq, Prod.mk.injEq] at e
    obtain ⟨rfl, rfl, rfl, rfl, rfl, rfl, rfl, rfl, rfl, c⟩ := e
    exact ⟨_, ⟨oc, od, kd, doc, pm, an, cdv, ct, sl, rfl, hl, c⟩, by unfold keepIn; simp only [hl]⟩
  · cases e
theorem binds_of {K : Frag} {x q : Str} {st : Stmt} {f : Addr} {fd : FuncData} {ps : List Str} (F : L2.Fun K x q st f fd)
    (b : ∀ (kV doc pm : Value) (an : Option Addr) (cdv ct : Value) (us : List Value), us.length = ps.length → bindArgs (fnOf x q (L2.defArgs st) (L2.defBody st) (L2.defScope st) .none kV doc pm an cdv ct) ⟨us, []⟩ = pure (ps.zip us)) : L2.Binds K fd ps [] := by
  obtain ⟨⟨oc, od, kV, doc, pm, an, cdv, ct, osl, rfl, _, _⟩, _⟩ := F
  exact .all (b kV doc pm an cdv ct)
def defLook (K : Frag) (st : Stmt) : FnSeen := match nsIn K mainGlobals (defName st) with
  | some (some (.ref f)) => fnLook K (defName st) f
  | _ => none
theorem def_ex {K : Frag} {st : Stmt} {x : Str} (e : defLook K st = fnSaw (defName st) (defName st) st) (hx : defName st = x) : ∃ f fd, nsIn K mainGlobals x = some (some (.ref f)) ∧ L2.Fun K x x st f fd := by
  subst hx
  unfold defLook at e
  split at e
  · rename_i f ha
    obtain ⟨fd, F⟩ := fn_of e
    exact ⟨f, fd, ha, F⟩
  · cases e
theorem defAt_of {K : Frag} {h : Heap} {mg : Str → Option Value} {st : Stmt} {x : Str} {ps : List Str} (X : K.In h) (G : h.Ns mainGlobals mg) (e : defLook K st = fnSaw (defName st) (defName st) st) (hx : defName st = x)
    (b : ∀ (kV doc pm : Value) (an : Option Addr) (cdv ct : Value) (us : List Value), us.length = ps.length → bindArgs (fnOf x x (L2.defArgs st) (L2.defBody st) (L2.defScope st) .none kV doc pm an cdv ct) ⟨us, []⟩ = pure (ps.zip us)) : L2.DefAt K mg x st ps := by
  obtain ⟨f, fd, ha, F⟩ := def_ex e hx
  exact ⟨f, fd, mg_of X G ha, F, binds_of F b⟩
theorem law_fun {K : Frag} {h : Heap} {mg : Str → Option Value} {st : Stmt} {x y : Str} {fa : Addr} (X : K.In h) (G : h.Ns mainGlobals mg) (e : defLook K st = fnSaw (defName st) (defName st) st) (hx : defName st = x) (hfa : mg x = some (.ref fa))
    (b : ∀ (kV doc pm : Value) (an : Option Addr) (cdv ct : Value) (s : Shared) (u : Value), BindsTo s (fnOf x x (L2.defArgs st) (L2.defBody st) (L2.defScope st) .none kV doc pm an cdv ct) ⟨[u], []⟩ [(y, u)]) :
    ∃ fd : FuncData, L2.Fun K x x st fa fd ∧ ∀ (s : Shared) (u : Value), BindsTo s fd ⟨[u], []⟩ [(y, u)] := by
  obtain ⟨f, fd, ha, F⟩ := def_ex e hx
  have e := hfa.symm.trans (mg_of X G ha)
  cases e
  refine ⟨fd, F, ?_⟩
  obtain ⟨⟨oc, od, kV, doc, pm, an, cdv, ct, osl, rfl, _, _⟩, _⟩ := F
  exact b kV doc pm an cdv ct
def isNo (K : Frag) (x : Str) : Bool := match nsIn K mainGlobals x with
  | some none => true
  | _ => false
theorem no_of {K : Frag} {h : Heap} {mg : Str → Option Value} {x : Str} (X : K.In h) (G : h.Ns mainGlobals mg) (e : isNo K x = true) : mg x = none := by
  unfold isNo at e
  split at e
  · rename_i ha; exact mg_none_of X G ha
  · cases e
def isInt (K : Frag) (x : Str) (n : Int) : Bool := match nsIn K mainGlobals x with
  | some (some (.int m _)) => decide (m = n)
  | _ => false
def All (l : List Bool) : Bool := l.all id
theorem all_cons {b : Bool} {l : List Bool} (h : All (b :: l) = true) : b = true ∧ All l = true := Bool.and_eq_true_iff.mp h
theorem fst_of {α : Type} {a b : α} {l m : List α} (h : a :: l = b :: m) : a = b ∧ l = m := List.cons.inj h
end HD
seal L2.PE L2.PA L2.PS L2.PSs L2.PT L2.PW L2.PG L2.PGs L2.OpR L2.CallR L2.PI L2.PSet L2.PO L2.SlR L2.IxR L2.PPs L2.PC L2.UnR L2.MtR
local macro_rules
  | `(tactic| walk_at "rl") => do
    let a ← L2.rdArgs L2.lzPre
    `(tactic| simp (config := { maxSteps := 3000000 }) only [$a,*, L2.tListRev, L2.tListRevT, L2.rExtG, L2.rTupL, L2.rLenG, L2.rEqE, *])
  | `(tactic| walk_at "ro") => do
    let a ← L2.rdArgs (L2.rdPre)
    `(tactic| simp (config := { maxSteps := 3000000 }) only [and_assoc, $a,*, L2.tListRev, L2.tListRevT, L2.rExtG, L2.rTupL, L2.rLenG, L2.rEqE, *])
  | `(tactic| walk_at "rz") => do
    let a ← L2.rdArgs (L2.lzPre ++ " lazyAll")
    `(tactic| simp (config := { maxSteps := 3000000 }) only [$a,*, L2.tListRev, L2.tListRevT, L2.rExtG, L2.rTupL, L2.rLenG, L2.rEqE, *])
  | `(tactic| walk_at "rd") => `(tactic| first | (walk_at "rl"; try walk_at "ro") | walk_at "ro")
  | `(tactic| walk_at "ry") => do
    let a ← L2.rdArgs (L2.lzPre2 ++ " lazyAll")
    `(tactic| simp (config := { maxSteps := 3000000, zeta := false, zetaDelta := false }) only [$a,*, L2.tListRev, L2.tListRevT, L2.rExtG, L2.rTupL, L2.rLenG, L2.rEqE, *])
  | `(tactic| walk_at "rh") => `(tactic| with_reducible first | (refine L2.hideL ?_; intro T) | refine L2.hRet ?_ | refine L2.hIf ?_ | refine L2.hFor ?_ | refine L2.hDrop ?_ | refine L2.hAsg ?_ | refine L2.hWhile ?_ | refine L2.hFld ?_ | refine L2.hForU ?_ | refine L2.hForK ?_ | refine L2.hPut ?_ | refine L2.hRetN ?_)
  | `(tactic| walk_at "r2") => `(tactic| ((try walk_at "rh"); (try walk_at "ry"); repeat (walk_at "rh"; walk_at "ry")))
set_option Elab.async false
set_option linter.all false
set_option maxRecDepth 100000
set_option maxHeartbeats 4000000
namespace K14
open PySem L2
def top (i : Nat) : Stmt := PySem.Challenge.pw_rerunyard_k14_whole_sound_programs.main.body.getD i (.Pass ⟨0, 0, 0, 0⟩)
abbrev s_bodies_of : Stmt := top 1
theorem sc_bodies_of : FnScope ["statement"] ["statement"] (defScope s_bodies_of) := ⟨rfl, rfl, rfl, by decide +kernel, rfl, by decide +kernel, by decide +kernel⟩
abbrev s_faults : Stmt := top 3
theorem sc_faults : FnScope ["program", "found", "hand"] ["program"] (defScope s_faults) := ⟨rfl, rfl, rfl, by decide +kernel, rfl, by decide +kernel, by decide +kernel⟩
abbrev s_sound : Stmt := top 4
theorem sc_sound : FnScope ["program"] ["program"] (defScope s_sound) := ⟨rfl, rfl, rfl, by decide +kernel, rfl, by decide +kernel, by decide +kernel⟩
abbrev s_faults_of_body : Stmt := top 5
theorem sc_faults_of_body : FnScope ["body", "program", "found", "statement", "within"] ["body", "program"] (defScope s_faults_of_body) := ⟨rfl, rfl, rfl, by decide +kernel, rfl, by decide +kernel, by decide +kernel⟩
abbrev s_faults_of_statement : Stmt := top 6
theorem sc_faults_of_statement : FnScope ["statement", "program", "word", "tools", "stores", "rows", "hands"] ["statement", "program"] (defScope s_faults_of_statement) := ⟨rfl, rfl, rfl, by decide +kernel, rfl, by decide +kernel, by decide +kernel⟩
abbrev s_fault_of_name : Stmt := top 7
theorem sc_fault_of_name : FnScope ["kind", "k", "name", "ones"] ["kind", "k", "name", "ones"] (defScope s_fault_of_name) := ⟨rfl, rfl, rfl, by decide +kernel, rfl, by decide +kernel, by decide +kernel⟩
abbrev s_fault_of_start : Stmt := top 8
theorem sc_fault_of_start : FnScope ["statement", "hands", "k", "name", "found"] ["statement", "hands"] (defScope s_fault_of_start) := ⟨rfl, rfl, rfl, by decide +kernel, rfl, by decide +kernel, by decide +kernel⟩
abbrev s__law_cell_at : Stmt := top 10
theorem sc__law_cell_at : FnScope ["script", "k"] ["script", "k"] (defScope s__law_cell_at) := ⟨rfl, rfl, rfl, by decide +kernel, rfl, by decide +kernel, by decide +kernel⟩
abbrev s__law_stir : Stmt := top 11
theorem sc__law_stir : FnScope ["cell", "k", "number"] ["cell", "k"] (defScope s__law_stir) := ⟨rfl, rfl, rfl, by decide +kernel, rfl, by decide +kernel, by decide +kernel⟩
abbrev s__law_barred : Stmt := top 12
theorem sc__law_barred : FnScope ["some"] [] (defScope s__law_barred) := ⟨rfl, rfl, rfl, by decide +kernel, rfl, by decide +kernel, by decide +kernel⟩
abbrev s__law_names : Stmt := top 13
theorem sc__law_names : FnScope ["head", "k", "many", "letters", "size", "stem", "found", "j", "number", "at", "word"] ["head", "k", "many"] (defScope s__law_names) := ⟨rfl, rfl, rfl, by decide +kernel, rfl, by decide +kernel, by decide +kernel⟩
abbrev s__law_name : Stmt := top 14
theorem sc__law_name : FnScope ["number", "names"] ["number"] (defScope s__law_name) := ⟨rfl, rfl, rfl, by decide +kernel, rfl, by decide +kernel, by decide +kernel⟩
abbrev s__law_leaf : Stmt := top 15
theorem sc__law_leaf : FnScope ["number", "kind"] ["number"] (defScope s__law_leaf) := ⟨rfl, rfl, rfl, by decide +kernel, rfl, by decide +kernel, by decide +kernel⟩
abbrev s__law_tree : Stmt := top 16
theorem sc__law_tree : FnScope ["cell", "k", "deep", "number", "sign"] ["cell", "k", "deep"] (defScope s__law_tree) := ⟨rfl, rfl, rfl, by decide +kernel, rfl, by decide +kernel, by decide +kernel⟩
abbrev s__law_worded : Stmt := top 17
theorem sc__law_worded : FnScope ["tree", "more", "left", "right"] ["tree", "more"] (defScope s__law_worded) := ⟨rfl, rfl, rfl, by decide +kernel, rfl, by decide +kernel, by decide +kernel⟩
abbrev s__law_deepest : Stmt := top 18
theorem sc__law_deepest : FnScope ["word", "deep", "most", "sign"] ["word"] (defScope s__law_deepest) := ⟨rfl, rfl, rfl, by decide +kernel, rfl, by decide +kernel, by decide +kernel⟩
abbrev s__law_expr : Stmt := top 19
theorem sc__law_expr : FnScope ["cell", "k", "tree", "more", "word"] ["cell", "k"] (defScope s__law_expr) := ⟨rfl, rfl, rfl, by decide +kernel, rfl, by decide +kernel, by decide +kernel⟩
abbrev s__law_good : Stmt := top 20
theorem sc__law_good : FnScope ["head", "k", "name", "number", "far", "count", "most", "first", "numbers"] ["head", "k", "name"] (defScope s__law_good) := ⟨rfl, rfl, rfl, by decide +kernel, rfl, by decide +kernel, by decide +kernel⟩
abbrev s__law_goods : Stmt := top 21
theorem sc__law_goods : FnScope ["head", "rows", "parts", "names", "k", "name", "row", "place", "told"] ["head"] (defScope s__law_goods) := ⟨rfl, rfl, rfl, by decide +kernel, rfl, by decide +kernel, by decide +kernel⟩
abbrev s__law_plain : Stmt := top 22
theorem sc__law_plain : FnScope ["cell", "k", "number", "word", "tree", "name", "kind", "deed", "other", "some"] ["cell", "k"] (defScope s__law_plain) := ⟨rfl, rfl, rfl, by decide +kernel, rfl, by decide +kernel, by decide +kernel⟩
abbrev s__law_opener : Stmt := top 23
theorem sc__law_opener : FnScope ["cell", "k", "one", "other", "sign"] ["cell", "k"] (defScope s__law_opener) := ⟨rfl, rfl, rfl, by decide +kernel, rfl, by decide +kernel, by decide +kernel⟩
abbrev s__law_hand : Stmt := top 24
theorem sc__law_hand : FnScope ["hands", "head", "opened", "name", "number", "names"] ["hands", "head", "opened"] (defScope s__law_hand) := ⟨rfl, rfl, rfl, by decide +kernel, rfl, by decide +kernel, by decide +kernel⟩
abbrev s__law_row : Stmt := top 25
theorem sc__law_row : FnScope ["cell", "k", "opened", "most", "number", "row", "told"] ["cell", "k", "opened", "most"] (defScope s__law_row) := ⟨rfl, rfl, rfl, by decide +kernel, rfl, by decide +kernel, by decide +kernel⟩
abbrev s__law_built : Stmt := top 26
theorem sc__law_built : FnScope ["script", "head", "rows", "parts", "hands", "opened", "cell"] ["script", "head"] (defScope s__law_built) := ⟨rfl, rfl, rfl, by decide +kernel, rfl, by decide +kernel, by decide +kernel⟩
abbrev s__law_menu : Stmt := top 27
theorem sc__law_menu : FnScope ["program", "kind", "other", "found", "part"] ["program", "kind", "other"] (defScope s__law_menu) := ⟨rfl, rfl, rfl, by decide +kernel, rfl, by decide +kernel, by decide +kernel⟩
abbrev s__law_statement : Stmt := top 28
theorem sc__law_statement : FnScope ["told", "program", "head", "other", "number", "places", "wild", "some", "name", "many", "es"] ["told", "program", "head", "other"] (defScope s__law_statement) := ⟨rfl, rfl, rfl, by decide +kernel, rfl, by decide +kernel, by decide +kernel⟩
abbrev s__law_body : Stmt := top 29
theorem sc__law_body : FnScope ["body", "program", "head", "other", "found", "told", "inner"] ["body", "program", "head", "other"] (defScope s__law_body) := ⟨rfl, rfl, rfl, by decide +kernel, rfl, by decide +kernel, by decide +kernel⟩
abbrev s__law_named : Stmt := top 30
theorem sc__law_named : FnScope ["program", "head", "other", "hands"] ["program", "head", "other"] (defScope s__law_named) := ⟨rfl, rfl, rfl, by decide +kernel, rfl, by decide +kernel, by decide +kernel⟩
abbrev s__law_in_order : Stmt := top 31
theorem sc__law_in_order : FnScope ["program", "found", "pile", "name", "names", "body", "told", "part"] ["program"] (defScope s__law_in_order) := ⟨rfl, rfl, rfl, by decide +kernel, rfl, by decide +kernel, by decide +kernel⟩
abbrev s__law_due : Stmt := top 32
theorem sc__law_due : FnScope ["program", "found", "tools", "stores", "rows", "hands", "many", "name", "names", "body", "told"] ["program"] (defScope s__law_due) := ⟨rfl, rfl, rfl, by decide +kernel, rfl, by decide +kernel, by decide +kernel⟩
abbrev s__law_copied : Stmt := top 33
theorem sc__law_copied : FnScope ["thing"] ["thing"] (defScope s__law_copied) := ⟨rfl, rfl, rfl, by decide +kernel, rfl, by decide +kernel, by decide +kernel⟩
abbrev s__law_spoilt : Stmt := top 34
theorem sc__law_spoilt : FnScope ["told", "program", "number", "kinds", "place", "own", "some", "part", "name", "es"] ["told", "program", "number"] (defScope s__law_spoilt) := ⟨rfl, rfl, rfl, by decide +kernel, rfl, by decide +kernel, by decide +kernel⟩
abbrev s__law_exchanged : Stmt := top 35
theorem sc__law_exchanged : FnScope ["body", "old", "new", "found", "told"] ["body", "old", "new"] (defScope s__law_exchanged) := ⟨rfl, rfl, rfl, by decide +kernel, rfl, by decide +kernel, by decide +kernel⟩
abbrev s__law_told : Stmt := top 36
theorem sc__law_told : FnScope ["program", "handed", "found", "other", "good"] ["program"] (defScope s__law_told) := ⟨rfl, rfl, rfl, by decide +kernel, rfl, by decide +kernel, by decide +kernel⟩
abbrev s_law : Stmt := top 37
theorem sc_law : FnScope ["script", "head", "program", "due", "some", "number", "old", "new", "fault", "hands"] ["script"] (defScope s_law) := ⟨rfl, rfl, rfl, by decide +kernel, rfl, by decide +kernel, by decide +kernel⟩
end K14
set_option Elab.async false
set_option linter.all false
set_option maxRecDepth 100000
set_option maxHeartbeats 4000000
namespace K14
open PySem L2
section
variable {P : Program} {w : World} {K : PySem.W.Frag} {mg : Str → Option Value} {base : Heap}
inductive Ns (H : Hp) : List V → List Str → Prop
  | nil : Ns H [] []
  | cons {p : Addr} {s : Str} {r vs : List V} {l : List Str} : H p = some (.tup (.str s :: r)) → Ns H vs l → Ns H (.ref p :: vs) (s :: l)
theorem Ns.mono {H H' : Hp} (g : ∀ c xs, H c = some (.tup xs) → H' c = some (.tup xs)) {vs : List V} {l : List Str} (t : Ns H vs l) : Ns H' vs l := by
  induction t with
  | nil => exact .nil
  | cons h _ ih => exact .cons (g _ _ h) ih
theorem Ns.length {H : Hp} {vs : List V} {l : List Str} (t : Ns H vs l) : vs.length = l.length := by
  induction t with
  | nil => rfl
  | cons _ _ ih => rw [List.length_cons, List.length_cons, ih]
theorem Ns.get {H : Hp} {vs : List V} {l : List Str} (t : Ns H vs l) : ∀ {i : Nat} {v : V}, vs[i]? = some v → ∃ p s r, v = .ref p ∧ l[i]? = some s ∧ H p = some (.tup (.str s :: r)) := by
  induction t with
  | nil => intro i v e; simp at e
  | cons h _ ih =>
    intro i v e
    cases i with
    | zero => simp at e; exact ⟨_, _, _, e.symm, rfl, h⟩
    | succ i => simpa using ih (i := i) (v := v) (by simpa using e)
theorem take_snoc {α : Type} {xs : List α} {i : Nat} {x : α} (h : xs[i]? = some x) : xs.take (i + 1) = xs.take i ++ [x] := by
  rw [List.take_succ, h]; rfl
theorem all_flat (l : List Str) : (l.map V.str).all flatV = true := by
  induction l with
  | nil => rfl
  | cons x l ih => rw [List.map_cons, List.all_cons, ih]; rfl
theorem inV_strs {x : Str} (l : List Str) : inV (.str x) (l.map V.str) = decide (x ∈ l) := by
  induction l with
  | nil => simp [inV_nil]
  | cons y l ih =>
    rw [List.map_cons, inV_cons, eqV_ss, ih]
    by_cases c : y = x
    · simp [c]
    · simp [c, Ne.symm c]
def fT (kind : Str) (k : Int) (nm : Str) : PyData := .tuple [.str kind, .int k, .str nm]
theorem rp_fT {K : PySem.W.Frag} {H : Hp} {p : Addr} {a b : Str} {k : Int} (h : H p = some (.tup [.str a, .int k, .str b])) : Rp K H (.ref p) (fT a k b) := .tup h (.cons (.str _) (.cons (.int _) (.cons (.str _) .nil)))
def flt (kind : Str) (k : Int) (nm : Str) (l : List Str) : List PyData := if nm ∈ l then [] else [fT kind k nm]
def NmP (l : List Str) (i : Nat) (ys : List V) (σ1 : St) (H' : Hp) : Prop := ys = (l.take i).map V.str ∧ ∃ v0, σ1 = [v0]
theorem compJ_nm {H : Hp} {o : Addr} {ys : List V} {l : List Str} {Q : VK} (ho : H o = some (.lst ys)) (ns : Ns H ys l) (hl : l.length ≤ 1000) (q : ∀ D H', H D = none → Same H H' → H' D = some (.lst (l.map V.str)) → Q (.ref D) H') : CompJ (Itl K o) (gName 0) tYes (tOp rIxG (tVar 0) (tC (V.int 0))) [none] H Q := by
  have big : 100000 ≤ sizeLine := by unfold sizeLine; decide
  refine compJ_list ho (by have := ns.length; omega) (NmP l) (fun H' _ => by unfold NmP; exact ⟨rfl, _, rfl⟩) ?_ ?_
  · rintro D i x ys' σ1 H1 hx at1 pv
    unfold NmP at pv
    obtain ⟨rfl, v0, rfl⟩ := pv
    obtain ⟨p, t, r, rfl, et, hp⟩ := ns.get hx
    have hp1 := at1.same _ _ hp
    clear ho
    walk_at "r2"
    refine at1.put (Same.refl _) fun H5 mu => ?_
    unfold NmP
    exact ⟨by rw [take_snoc et, List.map_append]; rfl, _, rfl⟩
  · rintro D ys' σ1 H1 hD k1 hy hle pv
    unfold NmP at pv
    obtain ⟨rfl, _⟩ := pv
    rw [List.take_of_length_le (by have := ns.length; omega)] at hy
    exact q D H1 hD k1 hy
def spFn (K : PySem.W.Frag) : Sp := fun vs H Q _ => ∃ (kind nm : Str) (k : Int) (o : Addr) (ys : List V) (l : List Str), vs = [.str kind, .int k, .str nm, .ref o] ∧ H o = some (.lst ys) ∧ Ns H ys l ∧ l.length ≤ 1000 ∧ ∀ (p : Addr) (H' : Hp) (zs : List V), H p = none → Same H H' → H' p = some (.lst zs) → RpL K H' zs (flt kind k nm l) → Q (.ref p) H'
theorem ok_fn (D : DefAt K mg "fault_of_name" s_fault_of_name ["kind", "k", "name", "ones"]) : OkD P w K mg base 1 "fault_of_name" ["kind", "k", "name", "ones"] (spFn K) := by
  refine D.ok sc_fault_of_name (fun vs H Q E h => ?_) (fun f cdv A outer s H vs Q E hr h => ?_)
  · obtain ⟨_, _, _, _, _, _, rfl, _⟩ := h; rfl
  obtain ⟨kind, nm, k, o, ys, l, rfl, ho, ns, hl, q⟩ := h
  have big : 100000 ≤ sizeLine := by unfold sizeLine; decide
  refine ⟨_, (pss_cons (ps_if (pt_cmpR op_inG (pv 2) (pe_compN (comp_scopeN 1 (N := ["one"]) (cap := []) rfl rfl rfl rfl (by decide +kernel) rfl rfl rfl) rfl (pi_list (pv 3)) (fun _ _ _ _ => (pg_name (i := 0) (show List.Nodup (α := Str) ["one"] by decide +kernel) rfl (Or.inl (lookup_relabel_local rfl)) (Or.inr (lookup_relabel_local rfl)))) (fun _ _ _ _ => pts_nil) (fun _ _ _ _ => (pe_ix ix_g (pv 0) pe_int (fun _ _ => rfl)))) (by with_unfolding_all rfl))
  (pss_one (ps_ret (pe_lstG pa_nil)))
  pss_nil)
  (pss_one (ps_ret (pe_lstG (pa_c (pe_tupG (pa_c (pv 0) (pa_c (pv 1) (pa_c (pv 2) pa_nil)))) pa_nil))))), ?_⟩
  walk_at "r2"
  refine tcomp_in ?_
  simp only [iList]
  walk_at "r2"
  refine ⟨⟨_, SqL.of ho⟩, compJ_nm ho ns hl fun D H1 hD k1 hy => ?_⟩
  clear ho
  walk_at "r2"
  refine ⟨all_flat l, decide (nm ∈ l), congrArg V.bl (inV_strs l), ?_⟩
  by_cases c : nm ∈ l
  · rw [decide_eq_true c]
    refine iteT ?_
    walk_at "r2"
    intro p H2 hp g2 h2
    exact q p H2 [] (k1.free hp) (k1.trans g2) h2 (by unfold flt; rw [if_pos c]; exact .nil)
  · rw [decide_eq_false c]
    refine iteF ?_
    walk_at "r2"
    intro p H2 hp g2 h2
    walk_at "r2"
    intro p3 H3 hp3 g3 h3
    exact q p3 H3 [.ref p] (k1.free (g2.free hp3)) ((k1.trans g2).trans g3) h3 (by unfold flt; rw [if_neg c]; exact .cons (rp_fT (g3 _ _ h2)) .nil)
end
end K14
set_option Elab.async false
set_option linter.all false
set_option maxRecDepth 100000
set_option maxHeartbeats 4000000
namespace K14
open PySem L2
mutual
inductive Sm : Type
  | pl (w : Str) (k : Int) (r : List PyData) : Sm
  | nm (w : Str) (k : Int) (x : Str) (e : PyData) : Sm
  | dr (k : Int) (a x : Str) : Sm
  | st (k : Int) (x : Str) (es : List PyData) : Sm
  | wh (k : Int) (sg a b : PyData) (u : Bd) : Sm
  | fi (k : Int) (sg a b : PyData) (u v : Bd) : Sm
inductive Bd : Type
  | nil : Bd
  | cons (s : Sm) (r : Bd) : Bd
end
mutual
def smD : Sm → PyData
  | .pl w k r => .tuple (.str w :: .int k :: r)
  | .nm w k x e => .tuple [.str w, .int k, .str x, e]
  | .dr k a x => .tuple [.str "draw", .int k, .str a, .str x]
  | .st k x es => .tuple [.str "start", .int k, .str x, .list es]
  | .wh k sg a b u => .tuple [.str "while", .int k, sg, a, b, .list (bdD u)]
  | .fi k sg a b u v => .tuple [.str "if", .int k, sg, a, b, .list (bdD u), .list (bdD v)]
def bdD : Bd → List PyData
  | .nil => []
  | .cons s r => smD s :: bdD r
end
def plW : List Str := ["wait", "let", "say", "stop"]
def tkW : List Str := ["take", "give"]
def ptW : List Str := ["put", "get"]
mutual
def wid : PyData → Nat
  | .list xs => max xs.length (widA xs)
  | .tuple xs => max xs.length (widA xs)
  | _ => 0
def widA : List PyData → Nat
  | [] => 0
  | x :: xs => max (wid x) (widA xs)
end
def DG (n : Nat) (d : PyData) : Prop := d.canLay0 = true ∧ d.depth ≤ n ∧ wid d ≤ 1000
mutual
def SmOk : Sm → Nat → Prop
  | .pl w k r, _ => w ∈ plW ∧ (∀ d ∈ r, DG 5 d) ∧ r.length ≤ 2 ∧ 0 ≤ k ∧ k ≤ 100
  | .nm w k x e, _ => (w ∈ tkW ∨ w ∈ ptW) ∧ PyData.strOk x = true ∧ DG 5 e ∧ 0 ≤ k ∧ k ≤ 100
  | .dr k a x, _ => PyData.strOk a = true ∧ PyData.strOk x = true ∧ 0 ≤ k ∧ k ≤ 100
  | .st k x es, _ => PyData.strOk x = true ∧ (∀ d ∈ es, DG 5 d) ∧ es.length ≤ 7 ∧ 0 ≤ k ∧ k ≤ 100
  | .wh _ sg a b u, n => DG 5 sg ∧ DG 5 a ∧ DG 5 b ∧ ∃ m, n = m + 1 ∧ BdOk u m
  | .fi _ sg a b u v, n => DG 5 sg ∧ DG 5 a ∧ DG 5 b ∧ ∃ m, n = m + 1 ∧ BdOk u m ∧ BdOk v m
def BdOk : Bd → Nat → Prop
  | .nil, _ => True
  | .cons s r, n => SmOk s n ∧ BdOk r n
end
structure Nms where
  t : List Str
  s : List Str
  r : List Str
  h : List (Str × Nat)
def flH (N : Nms) (k : Int) (x : Str) (n : Nat) : List PyData := if x ∈ N.h.map (·.1) then (if n ∈ (N.h.filter fun p => decide (p.1 = x)).map (·.2) then [] else [fT "numbers" k x]) else [fT "hand" k x]
def flS (N : Nms) : Sm → List PyData
  | .nm w k x _ => if w ∈ tkW then flt "tool" k x N.t else flt "store" k x N.s
  | .dr k _ x => flt "row" k x N.r
  | .st k x es => flH N k x es.length
  | _ => []
mutual
def flW (N : Nms) : Sm → List PyData
  | .wh _ _ _ _ u => flB N u
  | .fi _ _ _ _ u v => flB N u ++ flB N v
  | _ => []
def flB (N : Nms) : Bd → List PyData
  | .nil => []
  | .cons s r => flS N s ++ flW N s ++ flB N r
end
mutual
def orS : Sm → List Sm
  | .wh k sg a b u => .wh k sg a b u :: orB u
  | .fi k sg a b u v => .fi k sg a b u v :: (orB u ++ orB v)
  | s => [s]
def orB : Bd → List Sm
  | .nil => []
  | .cons s r => orS s ++ orB r
end
mutual
theorem fl_or (N : Nms) : ∀ s : Sm, (orS s).flatMap (flS N) = flS N s ++ flW N s
  | .pl _ _ _ => by simp [orS, flW, flS]
  | .nm _ _ _ _ => by simp [orS, flW]
  | .dr _ _ _ => by simp [orS, flW]
  | .st _ _ _ => by simp [orS, flW]
  | .wh k sg a b u => by simp [orS, flW, flS, fl_orB N u]
  | .fi k sg a b u v => by simp [orS, flW, flS, List.flatMap_append, fl_orB N u, fl_orB N v]
theorem fl_orB (N : Nms) : ∀ b : Bd, (orB b).flatMap (flS N) = flB N b
  | .nil => by simp [orB, flB]
  | .cons s r => by simp [orB, flB, List.flatMap_append, fl_or N s, fl_orB N r]
end
def subs : Sm → List Bd
  | .wh _ _ _ _ u => [u]
  | .fi _ _ _ _ u v => [u, v]
  | _ => []
theorem flW_subs (N : Nms) (s : Sm) : (subs s).flatMap (flB N) = flW N s := by
  cases s <;> simp [subs, flW]
theorem sm_cases {n : Nat} (s : Sm) (ok : SmOk s n) : (∃ k sg a b u, s = .wh k sg a b u) ∨ (∃ k sg a b u v, s = .fi k sg a b u v) ∨ ∃ wd r, smD s = .tuple (.str wd :: r) ∧ wd ≠ "if" ∧ wd ≠ "while" ∧ subs s = [] := by
  have w1 : ∀ x ∈ plW ++ (tkW ++ ptW) ++ (["draw", "start"] : List Str), x ≠ Str.ofString "if" ∧ x ≠ Str.ofString "while" := by with_unfolding_all decide
  cases s with
  | pl w k r => simp only [SmOk] at ok; exact .inr (.inr ⟨_, _, by unfold smD; rfl, (w1 w (by simp [ok.1])).1, (w1 w (by simp [ok.1])).2, rfl⟩)
  | nm w k x e => simp only [SmOk] at ok; exact .inr (.inr ⟨_, _, by unfold smD; rfl, w1 w (by rcases ok.1 with ok | ok <;> simp [ok]) |>.1, w1 w (by rcases ok.1 with ok | ok <;> simp [ok]) |>.2, rfl⟩)
  | dr k a x => exact .inr (.inr ⟨_, _, by unfold smD; rfl, (w1 _ (by simp)).1, (w1 _ (by simp)).2, rfl⟩)
  | st k x es => exact .inr (.inr ⟨_, _, by unfold smD; rfl, (w1 _ (by simp)).1, (w1 _ (by simp)).2, rfl⟩)
  | wh k sg a b u => exact .inl ⟨_, _, _, _, _, rfl⟩
  | fi k sg a b u v => exact .inr (.inl ⟨_, _, _, _, _, _, rfl⟩)
section
variable {P : Program} {w : World} {K : PySem.W.Frag} {mg : Str → Option Value} {base : Heap}
def spBo (K : PySem.W.Frag) : Sp := fun vs H Q _ => ∃ (p : Addr) (s : Sm) (n : Nat) (H0 : Hp), vs = [.ref p] ∧ Same H0 H ∧ Rp K H0 (.ref p) (smD s) ∧ SmOk s n ∧ ∀ (b : Addr) (H' : Hp) (ys : List V), H b = none → Same H H' → H' b = some (.lst ys) → RpL K H0 ys ((subs s).map fun u => .list (bdD u)) → Q (.ref b) H'
theorem ok_bo (D : DefAt K mg "bodies_of" s_bodies_of ["statement"]) : OkD P w K mg base 1 "bodies_of" ["statement"] (spBo K) := by
  refine D.ok sc_bodies_of (fun vs H Q E h => ?_) (fun f cdv A outer s H vs Q E hr h => ?_)
  · obtain ⟨_, _, _, _, rfl, _⟩ := h; rfl
  obtain ⟨p, sm, _, H0, rfl, g0, rp, ok, q⟩ := h
  refine ⟨_, (pss_cons (ps_if (pt_cmpR op_eq (pe_ix ix_g (pv 0) pe_int (fun _ _ => rfl)) pe_str (nomark _))
  (pss_one (ps_ret (pe_lstG (pa_c (pe_ix ix_g (pv 0) pe_int (fun _ _ => rfl)) (pa_c (pe_ix ix_g (pv 0) pe_int (fun _ _ => rfl)) pa_nil)))))
  pss_nil)
  (pss_cons (ps_if (pt_cmpR op_eq (pe_ix ix_g (pv 0) pe_int (fun _ _ => rfl)) pe_str (nomark _))
  (pss_one (ps_ret (pe_lstG (pa_c (pe_ix ix_g (pv 0) pe_int (fun _ _ => rfl)) pa_nil))))
  pss_nil)
  (pss_one (ps_ret (pe_lstG pa_nil))))), ?_⟩
  have big : 100000 ≤ sizeLine := by unfold sizeLine; decide
  rcases sm_cases sm ok with ⟨k, sg, a, b, u, rfl⟩ | ⟨k, sg, a, b, u, v, rfl⟩ | ⟨wd, r, e, n1, n2, e3⟩
  · unfold smD at rp
    cases rp with
    | tup h1 r => cases r with
      | cons a0 r => cases r with
        | cons a1 r => cases r with
          | cons a2 r => cases r with
            | cons a3 r => cases r with
              | cons a4 r => cases r with
                | cons a5 r =>
                  cases r
                  cases a0
                  have h1 := g0 _ _ h1
                  walk_at "r2"
                  refine ⟨_, rfl, ?_⟩
                  walk_at "r2"
                  exact fun p2 H2 hp g2 h2 => q p2 H2 _ hp g2 h2 (.cons a5 .nil)
  · unfold smD at rp
    cases rp with
    | tup h1 r => cases r with
      | cons a0 r => cases r with
        | cons a1 r => cases r with
          | cons a2 r => cases r with
            | cons a3 r => cases r with
              | cons a4 r => cases r with
                | cons a5 r => cases r with
                  | cons a6 r =>
                    cases r
                    cases a0
                    have h1 := g0 _ _ h1
                    walk_at "r2"
                    refine ⟨_, rfl, ?_⟩
                    walk_at "r2"
                    refine ⟨_, rfl, ?_⟩
                    walk_at "r2"
                    exact fun p2 H2 hp g2 h2 => q p2 H2 _ hp g2 h2 (.cons a5 (.cons a6 .nil))
  · rw [e] at rp
    cases rp with
    | tup h1 r1 => cases r1 with
      | cons a r1 =>
        cases a
        have h1 := g0 _ _ h1
        walk_at "r2"
        exact fun p2 H2 hp g2 h2 => q p2 H2 [] hp g2 h2 (by rw [e3]; exact .nil)
end
end K14
set_option Elab.async false
set_option linter.all false
set_option maxRecDepth 100000
set_option maxHeartbeats 4000000
namespace K14
open PySem L2
section
variable {K : PySem.W.Frag} {H H' : Hp}
theorem _root_.L2.RpL.get {vs : List V} : ∀ {ds : List PyData}, RpL K H vs ds → ∀ {i : Nat} {v : V}, vs[i]? = some v → ∃ d, ds[i]? = some d ∧ Rp K H v d := by
  induction vs with
  | nil => intro ds t i v e; simp at e
  | cons a vs ih =>
    intro ds t i v e
    cases t with
    | cons h r =>
      cases i with
      | zero => simp at e; exact ⟨_, rfl, e ▸ h⟩
      | succ i => simpa using ih r (i := i) (v := v) (by simpa using e)
theorem _root_.L2.RpL.len {vs : List V} : ∀ {ds : List PyData}, RpL K H vs ds → vs.length = ds.length := by
  induction vs with
  | nil => intro ds t; cases t; rfl
  | cons a vs ih => intro ds t; cases t with | cons h r => rw [List.length_cons, List.length_cons, ih r]
theorem _root_.L2.RpL.app {vs ws : List V} {es : List PyData} (u : RpL K H ws es) : ∀ {ds : List PyData}, RpL K H vs ds → RpL K H (vs ++ ws) (ds ++ es) := by
  induction vs with
  | nil => intro ds t; cases t; exact u
  | cons a vs ih => intro ds t; cases t with | cons h r => exact .cons h (ih r)
theorem _root_.L2.RpL.rev {vs : List V} : ∀ {ds : List PyData}, RpL K H vs ds → RpL K H vs.reverse ds.reverse := by
  induction vs with
  | nil => intro ds t; cases t; exact .nil
  | cons a vs ih => intro ds t; cases t with | cons h r => rw [List.reverse_cons, List.reverse_cons]; exact RpL.app (.cons h .nil) (ih r)
abbrev Hd := Str × List Str × Bd
def hdD (h : Hd) : PyData := .tuple [.str h.1, .list (h.2.1.map .str), .list (bdD h.2.2)]
def oneD (o : Str × List PyData) : PyData := .tuple (.str o.1 :: o.2)
structure Pg where
  t : List (Str × List PyData)
  s : List (Str × List PyData)
  r : List (Str × List PyData)
  h : List Hd
def Pg.D (p : Pg) : PyData := .tuple [.list (p.t.map oneD), .list (p.s.map oneD), .list (p.r.map oneD), .list (p.h.map hdD)]
def hnN (hs : List Hd) : List (Str × Nat) := hs.map fun h => (h.1, h.2.1.length)
def Pg.N (p : Pg) : Nms := ⟨p.t.map (·.1), p.s.map (·.1), p.r.map (·.1), hnN p.h⟩
structure Pg.Sz (p : Pg) : Prop where
  t : p.t.length ≤ 100
  s : p.s.length ≤ 100
  r : p.r.length ≤ 100
  h : p.h.length ≤ 100
theorem ns_ones {vs : List V} : ∀ {os : List (Str × List PyData)}, RpL K H vs (os.map oneD) → Ns H vs (os.map (·.1)) := by
  induction vs with
  | nil => intro os t; cases os with | nil => exact .nil | cons o os => cases t
  | cons a vs ih =>
    intro os t
    cases os with
    | nil => cases t
    | cons o os =>
      cases t with
      | cons h r =>
        cases h with
        | tup h1 r1 => cases r1 with | cons a r1 => cases a; exact .cons h1 (ih r)
theorem ns_hands {vs : List V} : ∀ {os : List Hd}, RpL K H vs (os.map hdD) → Ns H vs (os.map (·.1)) := by
  induction vs with
  | nil => intro os t; cases os with | nil => exact .nil | cons o os => cases t
  | cons a vs ih =>
    intro os t
    cases os with
    | nil => cases t
    | cons o os =>
      cases t with
      | cons h r =>
        cases h with
        | tup h1 r1 => cases r1 with | cons a r1 => cases a; exact .cons h1 (ih r)
theorem hd_of {h : Hd} {v : V} (r : Rp K H v (hdD h)) : ∃ p n b ns, v = .ref p ∧ H p = some (.tup [.str h.1, .ref n, .ref b]) ∧ H n = some (.lst ns) ∧ RpL K H ns (h.2.1.map .str) ∧ Rp K H (.ref b) (.list (bdD h.2.2)) := by
  obtain ⟨p, x, y, z, rfl, hp, h1, h2, h3⟩ := Rp.tup3 r
  cases h1
  cases h2 with
  | lst a b => cases h3 with | lst c d => exact ⟨_, _, _, _, rfl, hp, a, b, .lst c d⟩
end
section
variable {P : Program} {w : World} {K : PySem.W.Frag} {mg : Str → Option Value} {base : Heap}
theorem all_flatI (L : List (Str × Nat)) : (L.map fun p => V.int p.2).all flatV = true := by
  induction L with
  | nil => rfl
  | cons x l ih => rw [List.map_cons, List.all_cons, ih]; rfl
theorem inV_nats (n : Nat) (L : List (Str × Nat)) : inV (.int n) (L.map fun p => V.int p.2) = decide (n ∈ L.map (·.2)) := by
  induction L with
  | nil => simp [inV_nil]
  | cons y l ih =>
    rw [List.map_cons, inV_cons, eqV_ii, ih]
    by_cases c : y.2 = n
    · simp [c]
    · simp [c, Ne.symm c, Int.ofNat_inj]
def NuP (x : Str) (hs : List Hd) (i : Nat) (ys : List V) (σ1 : St) (H' : Hp) : Prop := ys = ((hnN (hs.take i)).filter fun p => decide (p.1 = x)).map (fun p => V.int p.2) ∧ ∃ v0, σ1 = [v0, some (.str x)]
def spFs (K : PySem.W.Frag) : Sp := fun vs H Q _ => ∃ (p o : Addr) (ys : List V) (k : Int) (x : Str) (es : List PyData) (hs : List Hd), vs = [.ref p, .ref o] ∧ Rp K H (.ref p) (smD (.st k x es)) ∧ H o = some (.lst ys) ∧ RpL K H ys (hs.map hdD) ∧ hs.length ≤ 100 ∧
  ∀ (b : Addr) (H' : Hp) (zs : List V), H b = none → Same H H' → H' b = some (.lst zs) → RpL K H' zs (flH ⟨[], [], [], hnN hs⟩ k x es.length) → Q (.ref b) H'
theorem ok_fs (D : DefAt K mg "fault_of_start" s_fault_of_start ["statement", "hands"]) (hlen : mg "len" = none) (G_fault_of_name : OkD P w K mg base 1 "fault_of_name" ["kind", "k", "name", "ones"] (spFn K)) : OkD P w K mg base 2 "fault_of_start" ["statement", "hands"] (spFs K) := by
  refine D.ok sc_fault_of_start (fun vs H Q E h => ?_) (fun f cdv A outer s H vs Q E hr h => ?_)
  · obtain ⟨_, _, _, _, _, _, _, rfl, _⟩ := h; rfl
  obtain ⟨p, o, ys, k, x, es, hs, rfl, rp, ho, rh, hl, q⟩ := h
  have big : 100000 ≤ sizeLine := by unfold sizeLine; decide
  refine ⟨_, (pss_cons (ps_asg (pe_tupG (pa_c (pe_ix ix_g (pv 0) pe_int (fun _ _ => rfl)) (pa_c (pe_ix ix_g (pv 0) pe_int (fun _ _ => rfl)) pa_nil))) (pg_tupG 2 rfl (pgs_cons (pg_name (i := 2) sc_fault_of_start.nd rfl (Or.inl rfl)) (pgs_cons (pg_name (i := 3) sc_fault_of_start.nd rfl (Or.inr rfl)) pgs_nil))))
  (pss_cons (ps_set (i := 4) sc_fault_of_start.nd rfl (Or.inl rfl) (pe_def G_fault_of_name hr rfl (pa_c pe_str (pa_c (pv 2) (pa_c (pv 3) (pa_c (pv 1) pa_nil))))))
  (pss_cons (ps_if (PW.pt (pw_and (pt_not (pt_truth (pv 4) (fun _ => rfl))) (pw_and1 (pt_cmpR op_notInG (pe_cB call_lenG rfl hlen PySem.boot_len (pa_c (pe_ix ix_g (pv 0) pe_int (fun _ _ => rfl)) pa_nil)) (pe_compN (comp_scopeN 1 (N := ["hand", "name"]) (cap := [3]) rfl rfl rfl rfl (by decide +kernel) rfl rfl rfl) rfl (pi_list (pv 1)) (fun _ _ _ _ => (pg_name (i := 0) (show List.Nodup (α := Str) ["hand", "name"] by decide +kernel) rfl (Or.inl (lookup_relabel_local rfl)) (Or.inr (lookup_relabel_local rfl)))) (fun _ _ _ _ => (pts_one (pt_cmpR op_eq (pe_ix ix_g (pv 0) pe_int (fun _ _ => rfl)) (pv 1) (nomark _)))) (fun _ _ _ _ => (pe_cB call_lenG rfl hlen PySem.boot_len (pa_c (pe_ix ix_g (pv 0) pe_int (fun _ _ => rfl)) pa_nil)))) (by with_unfolding_all rfl)))))
  (pss_one (ps_expr (pe_appG (pv 4) (pe_tupG (pa_c pe_str (pa_c (pv 2) (pa_c (pv 3) pa_nil)))))))
  pss_nil)
  (pss_one (ps_ret (pv 4)))))), ?_⟩
  obtain ⟨e, ev, he, re, hp⟩ : ∃ e ev, H e = some (.lst ev) ∧ RpL K H ev es ∧ H p = some (.tup [.str "start", .int k, .str x, .ref e]) := by
    unfold smD at rp
    cases rp with
    | tup h1 r => cases r with
      | cons a0 r => cases r with
        | cons a1 r => cases r with
          | cons a2 r => cases r with
            | cons a3 r =>
              cases r
              cases a0; cases a1; cases a2
              cases a3 with | lst c d => exact ⟨_, _, c, d, h1⟩
  clear rp
  walk_at "r2"
  intro p1 H1 hp1 g1 h1
  have ho1 := g1 _ _ ho
  have he1 := g1 _ _ he
  have hp1' := g1 _ _ hp
  have rh1 := rh.mono g1
  clear ho he hp rh
  walk_at "r2"
  refine ⟨_, _, _, _, _, _, rfl, ho1, ns_hands rh1, by simp; omega, fun b H2 zs hb g2 h2 rz => ?_⟩
  have ho2 := g2 _ _ ho1
  have he2 := g2 _ _ he1
  have hp2 := g2 _ _ hp1'
  have rh2 := rh1.mono g2
  have hb0 := g1.free hb
  have g12 := g1.trans g2
  clear ho1 he1 hp1' rh1 h1 hb g1 g2
  walk_at "r2"
  have tru : TruV K (.ref b) H2 (!zs.isEmpty) := by
    cases zs with
    | nil => exact .inl ⟨_, SqL.of h2, rfl⟩
    | cons z zs => exact .inl ⟨_, SqL.of h2, rfl⟩
  refine ⟨_, tru, ?_⟩
  unfold flt at rz
  unfold flH at q
  have em : x ∈ hs.map (·.1) ↔ x ∈ (hnN hs).map (·.1) := by unfold hnN; rw [List.map_map]; rfl
  by_cases c : x ∈ hs.map (·.1)
  · rw [if_pos c] at rz
    cases rz
    rw [if_pos (em.mp c)] at q
    refine iteT ?_
    walk_at "r2"
    refine tcomp_in ?_
    simp only [iList]
    walk_at "r2"
    have hlen' := rh2.len
    rw [List.length_map] at hlen'
    refine ⟨⟨_, SqL.of ho2⟩, compJ_list ho2 (by omega) (NuP x hs) (fun H' _ => by unfold NuP; exact ⟨rfl, _, rfl⟩) ?_ ?_⟩
    · rintro D i v ys' σ1 H3 hx at1 pv
      unfold NuP at pv
      obtain ⟨rfl, v0, rfl⟩ := pv
      obtain ⟨d, hd, rd⟩ := rh2.get hx
      rw [List.getElem?_map] at hd
      obtain ⟨h, hh, rfl⟩ := Option.map_eq_some_iff.mp hd
      obtain ⟨pp, np, bp, ns, rfl, e1, e2, e3, _⟩ := hd_of rd
      have e1' := at1.same _ _ e1
      have e2' := at1.same _ _ e2
      have e4 := e3.len
      clear ho2 e1 e2
      walk_at "r2"
      have tk : hnN (hs.take (i + 1)) = hnN (hs.take i) ++ [(h.1, h.2.1.length)] := by unfold hnN; rw [take_snoc hh, List.map_append]; rfl
      refine ite2 (fun c1 => ?_) fun c1 => ?_
      · walk_at "r2"
        refine at1.put (Same.refl _) fun H5 mu => ?_
        unfold NuP
        refine ⟨?_, _, rfl⟩
        rw [tk, List.filter_append, List.map_append, List.filter_cons_of_pos (by simpa using c1), List.length_map]; rfl
      · refine at1.skip (Same.refl _) ?_
        unfold NuP
        refine ⟨?_, _, rfl⟩
        rw [tk, List.filter_append, List.filter_cons_of_neg (by simpa using c1)]; simp
    · rintro D ys' σ1 H3 hD g3 hy hle pv
      unfold NuP at pv
      obtain ⟨rfl, _⟩ := pv
      rw [List.take_of_length_le (by omega)] at hy
      have h23 := g3 _ _ h2
      have hev : ev.length = es.length := re.len
      have nb : b ≠ D := fun z => by rw [z, hD] at h2; cases h2
      generalize eL : (hnN hs).filter (fun p => decide (p.1 = x)) = L at hy
      have eL' : (List.filter (fun p => decide (p.1 = x)) ({ t := [], s := [], r := [], h := hnN hs } : Nms).h) = L := eL
      rw [eL'] at q
      have im : inV (.int ev.length) (L.map fun p => V.int p.2) = decide (es.length ∈ L.map (·.2)) := by rw [hev]; exact inV_nats _ L
      clear ho2 h2 eL eL'
      walk_at "r2"
      refine ⟨all_flatI L, !decide (es.length ∈ L.map (·.2)), by rw [im, if_pos trivial], ?_⟩
      by_cases c2 : es.length ∈ L.map (·.2)
      · rw [decide_eq_true c2]
        rw [if_pos c2] at q
        refine iteF ?_
        walk_at "r2"
        exact q b H3 [] hb0 (g12.trans g3) h23 .nil
      · rw [decide_eq_false c2]
        rw [if_neg c2] at q
        refine iteT ?_
        walk_at "r2"
        intro p4 H4 hp4 g4 h4
        walk_at "r2"
        refine ⟨[], g4 _ _ h23, by unfold sizeLine; decide, fun H5 mu => ?_⟩
        walk_at "r2"
        exact q b H5 [.ref p4] hb0 (mu.same ((g12.trans g3).trans g4) hb0) mu.at_ (.cons (rp_fT (mu.old h4 (fun z => by rw [z, h23] at hp4; cases hp4))) .nil)
  · rw [if_neg c] at rz
    rw [if_neg (fun z => c (em.mpr z))] at q
    cases rz with
    | cons rz1 rz2 =>
      cases rz2
      refine iteF ?_
      walk_at "r2"
      exact q b H2 _ hb0 g12 h2 (.cons rz1 .nil)
end
end K14
set_option Elab.async false
set_option linter.all false
set_option maxRecDepth 100000
set_option maxHeartbeats 4000000
namespace K14
open PySem L2
theorem sm_kind {n : Nat} (N : Nms) (s : Sm) (ok : SmOk s n) : ∃ wd k r, smD s = .tuple (.str wd :: .int k :: r) ∧
    (wd ∈ tkW → ∃ x e, r = [.str x, e] ∧ flS N s = flt "tool" k x N.t) ∧ (wd ∈ ptW → ∃ x e, r = [.str x, e] ∧ flS N s = flt "store" k x N.s) ∧
    (wd = Str.ofString "draw" → ∃ a x, r = [.str a, .str x] ∧ flS N s = flt "row" k x N.r) ∧ (wd = Str.ofString "start" → ∃ x es, s = .st k x es) ∧
    (wd ∉ tkW → wd ∉ ptW → wd ≠ Str.ofString "draw" → wd ≠ Str.ofString "start" → flS N s = []) := by
  have w1 : ∀ x ∈ plW, x ∉ tkW ∧ x ∉ ptW ∧ x ≠ Str.ofString "draw" ∧ x ≠ Str.ofString "start" := by with_unfolding_all decide
  have w2 : ∀ x ∈ tkW, x ∉ ptW ∧ x ≠ Str.ofString "draw" ∧ x ≠ Str.ofString "start" := by with_unfolding_all decide
  have w3 : ∀ x ∈ ptW, x ∉ tkW ∧ x ≠ Str.ofString "draw" ∧ x ≠ Str.ofString "start" := by with_unfolding_all decide
  have w4 : ∀ x ∈ ([Str.ofString "if", Str.ofString "while"] : List Str), x ∉ tkW ∧ x ∉ ptW ∧ x ≠ Str.ofString "draw" ∧ x ≠ Str.ofString "start" := by with_unfolding_all decide
  have w5 : Str.ofString "draw" ∉ tkW ∧ Str.ofString "draw" ∉ ptW ∧ Str.ofString "draw" ≠ Str.ofString "start" ∧ Str.ofString "start" ∉ tkW ∧ Str.ofString "start" ∉ ptW := by with_unfolding_all decide
  cases s with
  | pl w k r =>
    simp only [SmOk] at ok
    obtain ⟨a, b, c, d⟩ := w1 w ok.1
    exact ⟨_, _, _, by unfold smD; rfl, fun h => absurd h a, fun h => absurd h b, fun h => absurd h c, fun h => absurd h d, fun _ _ _ _ => rfl⟩
  | nm w k x e =>
    simp only [SmOk] at ok
    refine ⟨_, _, _, by unfold smD; rfl, fun h => ⟨_, _, rfl, if_pos h⟩, fun h => ⟨_, _, rfl, if_neg (w3 w h).1⟩, fun h => ?_, fun h => ?_, fun h1 h2 => absurd ok.1 (by simp [h1, h2])⟩
    · rcases ok.1 with z | z
      · exact absurd h (w2 w z).2.1
      · exact absurd h (w3 w z).2.1
    · rcases ok.1 with z | z
      · exact absurd h (w2 w z).2.2
      · exact absurd h (w3 w z).2.2
  | dr k a x => exact ⟨_, _, _, by unfold smD; rfl, fun h => absurd h w5.1, fun h => absurd h w5.2.1, fun h => ⟨_, _, rfl, rfl⟩, fun h => absurd h w5.2.2.1, fun _ _ h _ => absurd rfl h⟩
  | st k x es => exact ⟨_, _, _, by unfold smD; rfl, fun h => absurd h w5.2.2.2.1, fun h => absurd h w5.2.2.2.2, fun h => absurd h.symm w5.2.2.1, fun h => ⟨_, _, rfl⟩, fun _ _ _ h => absurd rfl h⟩
  | wh k sg a b u =>
    obtain ⟨a, b, c, d⟩ := w4 (Str.ofString "while") (by simp)
    exact ⟨_, _, _, by unfold smD; rfl, fun h => absurd h a, fun h => absurd h b, fun h => absurd h c, fun h => absurd h d, fun _ _ _ _ => rfl⟩
  | fi k sg a b u v =>
    obtain ⟨a, b, c, d⟩ := w4 (Str.ofString "if") (by simp)
    exact ⟨_, _, _, by unfold smD; rfl, fun h => absurd h a, fun h => absurd h b, fun h => absurd h c, fun h => absurd h d, fun _ _ _ _ => rfl⟩
theorem or_mem {a b x : Str} : (decide (a = x) || decide (b = x)) = true ↔ x ∈ [a, b] := by
  simp only [Bool.or_eq_true, decide_eq_true_eq, List.mem_cons, List.not_mem_nil, or_false]
  exact ⟨fun h => h.imp Eq.symm Eq.symm, fun h => h.imp Eq.symm Eq.symm⟩
section
variable {P : Program} {w : World} {K : PySem.W.Frag} {mg : Str → Option Value} {base : Heap}
theorem pg_of {H : Hp} {p : Addr} {g : Pg} (r : Rp K H (.ref p) g.D) : ∃ a b c d ta sa ra ha, H p = some (.tup [.ref a, .ref b, .ref c, .ref d]) ∧ H a = some (.lst ta) ∧ H b = some (.lst sa) ∧ H c = some (.lst ra) ∧ H d = some (.lst ha) ∧
    RpL K H ta (g.t.map oneD) ∧ RpL K H sa (g.s.map oneD) ∧ RpL K H ra (g.r.map oneD) ∧ RpL K H ha (g.h.map hdD) := by
  unfold Pg.D at r
  cases r with
  | tup h1 r => cases r with
    | cons a0 r => cases r with
      | cons a1 r => cases r with
        | cons a2 r => cases r with
          | cons a3 r =>
            cases r
            cases a0 with | lst b0 c0 => cases a1 with | lst b1 c1 => cases a2 with | lst b2 c2 => cases a3 with | lst b3 c3 => exact ⟨_, _, _, _, _, _, _, _, h1, b0, b1, b2, b3, c0, c1, c2, c3⟩
def spFt (K : PySem.W.Frag) : Sp := fun vs H Q _ => ∃ (p o : Addr) (s : Sm) (n : Nat) (g : Pg), vs = [.ref p, .ref o] ∧ Rp K H (.ref p) (smD s) ∧ SmOk s n ∧ Rp K H (.ref o) g.D ∧ g.Sz ∧
  ∀ (b : Addr) (H' : Hp) (zs : List V), H b = none → Same H H' → H' b = some (.lst zs) → RpL K H' zs (flS g.N s) → Q (.ref b) H'
theorem ok_ft (D : DefAt K mg "faults_of_statement" s_faults_of_statement ["statement", "program"]) (G_fault_of_name : OkD P w K mg base 1 "fault_of_name" ["kind", "k", "name", "ones"] (spFn K)) (G_fault_of_start : OkD P w K mg base 2 "fault_of_start" ["statement", "hands"] (spFs K)) : OkD P w K mg base 3 "faults_of_statement" ["statement", "program"] (spFt K) := by
  refine D.ok sc_faults_of_statement (fun vs H Q E h => ?_) (fun f cdv A outer s H vs Q E hr h => ?_)
  · obtain ⟨_, _, _, _, _, rfl, _⟩ := h; rfl
  obtain ⟨p, o, s, n, g, rfl, rp, ok, rg, gz, q⟩ := h
  have big : 100000 ≤ sizeLine := by unfold sizeLine; decide
  refine ⟨_, (pss_cons (ps_set (i := 2) sc_faults_of_statement.nd rfl (Or.inl rfl) (pe_ix ix_g (pv 0) pe_int (fun _ _ => rfl)))
  (pss_cons (ps_asg (pv 1) (pg_tupG 4 rfl (pgs_cons (pg_name (i := 3) sc_faults_of_statement.nd rfl (Or.inl rfl)) (pgs_cons (pg_name (i := 4) sc_faults_of_statement.nd rfl (Or.inl rfl)) (pgs_cons (pg_name (i := 5) sc_faults_of_statement.nd rfl (Or.inl rfl)) (pgs_cons (pg_name (i := 6) sc_faults_of_statement.nd rfl (Or.inl rfl)) pgs_nil))))))
  (pss_cons (ps_if (pt_cmpR op_inG (pv 2) (pe_tupG (pa_c pe_str (pa_c pe_str pa_nil))) (by with_unfolding_all rfl))
  (pss_one (ps_ret (pe_def G_fault_of_name hr rfl (pa_c pe_str (pa_c (pe_ix ix_g (pv 0) pe_int (fun _ _ => rfl)) (pa_c (pe_ix ix_g (pv 0) pe_int (fun _ _ => rfl)) (pa_c (pv 3) pa_nil)))))))
  pss_nil)
  (pss_cons (ps_if (pt_cmpR op_inG (pv 2) (pe_tupG (pa_c pe_str (pa_c pe_str pa_nil))) (by with_unfolding_all rfl))
  (pss_one (ps_ret (pe_def G_fault_of_name hr rfl (pa_c pe_str (pa_c (pe_ix ix_g (pv 0) pe_int (fun _ _ => rfl)) (pa_c (pe_ix ix_g (pv 0) pe_int (fun _ _ => rfl)) (pa_c (pv 4) pa_nil)))))))
  pss_nil)
  (pss_cons (ps_if (pt_cmpR op_eq (pv 2) pe_str (nomark _))
  (pss_one (ps_ret (pe_def G_fault_of_name hr rfl (pa_c pe_str (pa_c (pe_ix ix_g (pv 0) pe_int (fun _ _ => rfl)) (pa_c (pe_ix ix_g (pv 0) pe_int (fun _ _ => rfl)) (pa_c (pv 5) pa_nil)))))))
  pss_nil)
  (pss_cons (ps_if (pt_cmpR op_eq (pv 2) pe_str (nomark _))
  (pss_one (ps_ret (pe_def G_fault_of_start hr rfl (pa_c (pv 0) (pa_c (pv 6) pa_nil)))))
  pss_nil)
  (pss_one (ps_ret (pe_lstG pa_nil))))))))), ?_⟩
  obtain ⟨wd, k, r, e, k1, k2, k3, k4, k5⟩ := sm_kind g.N s ok
  obtain ⟨ia, ib, ic, id, ta, sa, ra, ha, h0, h1, h2, h3, h4, r1, r2, r3, r4⟩ := pg_of rg
  obtain ⟨xs, hp, rx⟩ : ∃ xs, H p = some (.tup (.str wd :: .int k :: xs)) ∧ RpL K H xs r := by
    have rp' := rp
    rw [e] at rp'
    cases rp' with | tup a b => cases b with | cons b c => cases c with | cons c d => cases b; cases c; exact ⟨_, a, d⟩
  clear rg
  have hx2 : ∀ x e, r = [.str x, e] → ∃ ev, xs = [.str x, ev] ∧ Rp K H ev e := fun x e z => by
    subst z
    cases rx with | cons a b => cases b with | cons b c => cases c; cases a; exact ⟨_, rfl, b⟩
  walk_at "r2"
  intro p1 H1 hp1 g1 t1
  have hp' := g1 _ _ hp
  have h1' := g1 _ _ h1
  walk_at "r2"
  refine ite2 (fun c1 => ?_) fun c1 => ?_
  · obtain ⟨x, e', er, ef⟩ := k1 (or_mem.mp c1)
    obtain ⟨ev, rfl, _⟩ := hx2 x e' er
    walk_at "r2"
    refine ⟨_, _, _, _, _, _, rfl, h1', (ns_ones r1).mono fun c y => g1 _ _, by have := gz.t; simp; omega, fun b H2 zs hb g2 hz rz => q b H2 zs (g1.free hb) (g1.trans g2) hz (by rw [ef]; exact rz)⟩
  clear h1' hp' t1 hp1
  walk_at "r2"
  intro p2 H2 hp2 g2 t2
  have g12 := g1.trans g2
  have hp' := g12 _ _ hp
  have h2' := g12 _ _ h2
  clear g1 g2
  walk_at "r2"
  refine ite2 (fun c2 => ?_) fun c2 => ?_
  · obtain ⟨x, e', er, ef⟩ := k2 (or_mem.mp c2)
    obtain ⟨ev, rfl, _⟩ := hx2 x e' er
    walk_at "r2"
    refine ⟨_, _, _, _, _, _, rfl, h2', (ns_ones r2).mono fun c y => g12 _ _, by have := gz.s; simp; omega, fun b H2 zs hb g2 hz rz => q b H2 zs (g12.free hb) (g12.trans g2) hz (by rw [ef]; exact rz)⟩
  have h3' := g12 _ _ h3
  have h4' := g12 _ _ h4
  clear h2' t2 hp2
  walk_at "r2"
  refine ite2 (fun c3 => ?_) fun c3 => ?_
  · obtain ⟨a, x, er, ef⟩ := k3 c3
    obtain ⟨ev, rfl, rv⟩ := hx2 a _ er
    cases rv
    walk_at "r2"
    refine ⟨_, _, _, _, _, _, rfl, h3', (ns_ones r3).mono fun c y => g12 _ _, by have := gz.r; simp; omega, fun b H2 zs hb g2 hz rz => q b H2 zs (g12.free hb) (g12.trans g2) hz (by rw [ef]; exact rz)⟩
  walk_at "r2"
  refine ite2 (fun c4 => ?_) fun c4 => ?_
  · obtain ⟨x, es, rfl⟩ := k4 c4
    walk_at "r2"
    refine ⟨_, _, _, _, _, _, _, rfl, rp.mono g12, h4', r4.mono g12, gz.h, fun b H2 zs hb g2 hz rz => q b H2 zs (g12.free hb) (g12.trans g2) hz rz⟩
  walk_at "r2"
  have e5 := k5 (fun z => c1 (or_mem.mpr z)) (fun z => c2 (or_mem.mpr z)) c3 c4
  exact fun p2 H2 hb g2 hz => q p2 H2 [] (g12.free hb) (g12.trans g2) hz (by rw [e5]; exact .nil)
end
end K14
set_option Elab.async false
set_option linter.all false
set_option maxRecDepth 100000
set_option maxHeartbeats 4000000
namespace K14
open PySem L2
def toL : Bd → List Sm
  | .nil => []
  | .cons s r => s :: toL r
theorem bdD_toL (b : Bd) : bdD b = (toL b).map smD := by
  induction toL_dummy : toL b generalizing b with
  | nil => cases b with | nil => rfl | cons s r => cases toL_dummy
  | cons s l ih => cases b with | nil => cases toL_dummy | cons s' r => cases toL_dummy; show smD s :: bdD r = _; rw [ih r rfl]; rfl
theorem orB_toL (b : Bd) : orB b = (toL b).flatMap orS := by
  induction toL_dummy : toL b generalizing b with
  | nil => cases b with | nil => rfl | cons s r => cases toL_dummy
  | cons s l ih => cases b with | nil => cases toL_dummy | cons s' r => cases toL_dummy; show orS s ++ orB r = _; rw [ih r rfl]; rfl
theorem ok_toL {n : Nat} (b : Bd) : BdOk b n ↔ ∀ s ∈ toL b, SmOk s n := by
  induction toL_dummy : toL b generalizing b with
  | nil => cases b with | nil => simp [BdOk] | cons s r => cases toL_dummy
  | cons s l ih => cases b with | nil => cases toL_dummy | cons s' r => cases toL_dummy; simp [BdOk, ih r rfl]
def flA (N : Nms) (s : Sm) : List PyData := flS N s ++ flW N s
theorem flB_toL (N : Nms) (b : Bd) : flB N b = (toL b).flatMap (flA N) := by
  induction toL_dummy : toL b generalizing b with
  | nil => cases b with | nil => rfl | cons s r => cases toL_dummy
  | cons s l ih => cases b with | nil => cases toL_dummy | cons s' r => cases toL_dummy; show flS N s ++ flW N s ++ flB N r = _; rw [ih r rfl]; rfl
section
variable {α β : Type}
theorem flat_cut {l : List α} {i : Nat} {x : α} (h : l[i]? = some x) (f : α → List β) : (l.take (i + 1)).flatMap f = (l.take i).flatMap f ++ f x := by
  rw [take_snoc h, List.flatMap_append]; simp
theorem flat_pre {l : List α} (f : α → List β) (i : Nat) : ((l.take i).flatMap f).length ≤ (l.flatMap f).length := by
  conv => rhs; rw [← List.take_append_drop i l, List.flatMap_append, List.length_append]
  exact Nat.le_add_right _ _
theorem flat_le {l : List α} {i : Nat} {x : α} (h : l[i]? = some x) (f : α → List β) : ((l.take i).flatMap f).length + (f x).length ≤ (l.flatMap f).length := by
  rw [← List.length_append, ← flat_cut h]; exact flat_pre f _
end
theorem flS_len (N : Nms) (s : Sm) : (flS N s).length ≤ 1 := by
  cases s with
  | nm w k x e => show (if w ∈ tkW then flt "tool" k x N.t else flt "store" k x N.s).length ≤ 1; unfold flt; split <;> split <;> simp
  | dr k a x => show (flt "row" k x N.r).length ≤ 1; unfold flt; split <;> simp
  | st k x es => show (flH N k x es.length).length ≤ 1; unfold flH; split; split <;> simp; simp
  | _ => simp [flS]
theorem flB_len (N : Nms) (b : Bd) : (flB N b).length ≤ (orB b).length := by
  rw [← fl_orB]
  induction orB b with
  | nil => simp
  | cons s l ih => have := flS_len N s; rw [List.flatMap_cons, List.length_append, List.length_cons]; omega
def IsF (d : PyData) : Prop := ∃ a k b, d = fT a k b
theorem flS_F {N : Nms} {s : Sm} {d : PyData} (h : d ∈ flS N s) : IsF d := by
  have ft : ∀ {kd : Str} {k : Int} {x : Str} {l : List Str}, d ∈ flt kd k x l → IsF d := fun {kd k x l} h => by
    unfold flt at h; split at h
    · cases h
    · exact ⟨_, _, _, List.mem_singleton.mp h⟩
  cases s with
  | nm w k x e => have h' : d ∈ (if w ∈ tkW then flt "tool" k x N.t else flt "store" k x N.s) := h; split at h' <;> exact ft h'
  | dr k a x => exact ft (show d ∈ flt "row" k x N.r from h)
  | st k x es =>
    have h' : d ∈ flH N k x es.length := h
    unfold flH at h'; split at h'
    · split at h'
      · cases h'
      · exact ⟨_, _, _, List.mem_singleton.mp h'⟩
    · exact ⟨_, _, _, List.mem_singleton.mp h'⟩
  | _ => simp [flS] at h
theorem flO_F {N : Nms} {l : List Sm} {d : PyData} (h : d ∈ l.flatMap (flS N)) : IsF d := by
  obtain ⟨s, _, h⟩ := List.mem_flatMap.mp h
  exact flS_F h
theorem flA_F {N : Nms} {l : List Sm} {d : PyData} (h : d ∈ l.flatMap (flA N)) : IsF d := by
  obtain ⟨s, _, h⟩ := List.mem_flatMap.mp h
  unfold flA at h
  rw [← fl_or] at h
  exact flO_F h
theorem flB_F {N : Nms} {l : List Bd} {d : PyData} (h : d ∈ l.flatMap (flB N)) : IsF d := by
  obtain ⟨s, _, h⟩ := List.mem_flatMap.mp h
  rw [← fl_orB] at h
  exact flO_F h
theorem rpl_mu {K : PySem.W.Frag} {H H' : Hp} {b : Addr} {o : HO} {us : List V} (mu : Mu H b o H') (hb : H b = some (.lst us)) {vs : List V} : ∀ {ds : List PyData}, (∀ d ∈ ds, IsF d) → RpL K H vs ds → RpL K H' vs ds := by
  induction vs with
  | nil => intro ds _ t; cases t; exact .nil
  | cons v vs ih =>
    intro ds a t
    cases t with
    | cons h r =>
      obtain ⟨x, k, y, rfl⟩ := a _ (List.mem_cons_self ..)
      obtain ⟨p, x1, x2, x3, rfl, hp, h1, h2, h3⟩ := Rp.tup3 h
      cases h1; cases h2; cases h3
      exact .cons (rp_fT (mu.old hp fun z => by rw [z, hb] at hp; cases hp)) (ih (fun d hd => a d (List.mem_cons_of_mem _ hd)) r)
theorem sub_ok {s : Sm} {n : Nat} {u : Bd} (ok : SmOk s n) (h : u ∈ subs s) : ∃ m, n = m + 1 ∧ BdOk u m := by
  cases s with
  | wh k sg a b v => simp only [SmOk] at ok; obtain ⟨_, _, _, m, e, o⟩ := ok; simp [subs] at h; exact ⟨m, e, h ▸ o⟩
  | fi k sg a b v v' => simp only [SmOk] at ok; obtain ⟨_, _, _, m, e, o, o'⟩ := ok; simp [subs] at h; rcases h with rfl | rfl; exact ⟨m, e, o⟩; exact ⟨m, e, o'⟩
  | _ => simp [subs] at h
theorem sub_or {s : Sm} {u : Bd} (h : u ∈ subs s) : (orB u).length ≤ (orS s).length := by
  cases s with
  | wh k sg a b v => simp [subs] at h; subst h; show (orB u).length ≤ (orB u).length + 1; omega
  | fi k sg a b v v' => simp [subs] at h; unfold orS; rw [List.length_cons, List.length_append]; rcases h with rfl | rfl <;> omega
  | _ => simp [subs] at h
theorem mem_flat_len {l : List Sm} {s : Sm} (h : s ∈ l) : (orS s).length ≤ (l.flatMap orS).length := by
  obtain ⟨i, hi, rfl⟩ := List.mem_iff_getElem.mp h
  have := flat_le (List.getElem?_eq_getElem hi) orS
  omega
section
variable {P : Program} {w : World} {K : PySem.W.Frag} {mg : Str → Option Value} {base : Heap}
def FbI (K : PySem.W.Frag) (N : Nms) (l : List Sm) (H0 : Hp) (b p o : Addr) (i : Nat) (σ : St) (H : Hp) : Prop := ∃ zs v3 v4, Same H0 H ∧ H b = some (.lst zs) ∧ RpL K H zs ((l.take i).flatMap (flA N)) ∧ σ = [some (.ref p), some (.ref o), some (.ref b), v3, v4]
def FcI (K : PySem.W.Frag) (N : Nms) (D : List PyData) (l : List Bd) (H0 : Hp) (b p o : Addr) (t bb : Addr) (ys : List V) (i : Nat) (σ : St) (H : Hp) : Prop := ∃ zs v4, Same H0 H ∧ H b = some (.lst zs) ∧ H bb = some (.lst ys) ∧ RpL K H zs (D ++ (l.take i).flatMap (flB N)) ∧ σ = [some (.ref p), some (.ref o), some (.ref b), some (.ref t), v4]
def spFb (K : PySem.W.Frag) (n : Nat) : Sp := fun vs H Q _ => ∃ (p o : Addr) (b : Bd) (m : Nat) (g : Pg), vs = [.ref p, .ref o] ∧ Rp K H (.ref p) (.list (bdD b)) ∧ BdOk b m ∧ m < n ∧ (orB b).length ≤ 1000 ∧ Rp K H (.ref o) g.D ∧ g.Sz ∧
  ∀ (b' : Addr) (H' : Hp) (zs : List V), H b' = none → Same H H' → H' b' = some (.lst zs) → RpL K H' zs (flB g.N b) → Q (.ref b') H'
theorem ok_fb (D : DefAt K mg "faults_of_body" s_faults_of_body ["body", "program"]) (G_faults_of_statement : OkD P w K mg base 3 "faults_of_statement" ["statement", "program"] (spFt K)) (G_bodies_of : OkD P w K mg base 1 "bodies_of" ["statement"] (spBo K)) : ∀ n : Nat, OkD P w K mg base (n + 3) "faults_of_body" ["body", "program"] (spFb K n) := by
  intro n
  induction n with
  | zero => exact D.never _ fun vs H Q E h => by obtain ⟨_, _, _, _, _, _, _, _, h, _⟩ := h; omega
  | succ n G_faults_of_body =>
  refine D.ok sc_faults_of_body (fun vs H Q E h => ?_) (fun f cdv A outer s H vs Q E hr h => ?_)
  · obtain ⟨_, _, _, _, _, rfl, _⟩ := h; rfl
  obtain ⟨p, o, b, m, g, rfl, rb, ok, hm, hc, rg, gz, q⟩ := h
  refine ⟨_, (pss_cons (ps_set (i := 2) sc_faults_of_body.nd rfl (Or.inl rfl) (pe_lstG pa_nil))
  (pss_cons (ps_for PassesOwn.never rfl (pi_list (pv 0)) (pg_name (i := 3) sc_faults_of_body.nd rfl (Or.inl rfl))
  (pss_cons (ps_expr (pe_bm PySem.F.plainAttrs_list PySem.F.slot_list_extend PySem.F.type_list_extend mt_extG (pv 2) (pa_c (pe_def G_faults_of_statement hr rfl (pa_c (pv 3) (pa_c (pv 1) pa_nil))) pa_nil)))
  (pss_one (ps_for PassesOwn.never rfl (pi_list (pe_def G_bodies_of hr rfl (pa_c (pv 3) pa_nil))) (pg_name (i := 4) sc_faults_of_body.nd rfl (Or.inl rfl))
  (pss_one (ps_expr (pe_bm PySem.F.plainAttrs_list PySem.F.slot_list_extend PySem.F.type_list_extend mt_extG (pv 2) (pa_c (pe_def G_faults_of_body hr rfl (pa_c (pv 4) (pa_c (pv 1) pa_nil))) pa_nil))))))))
  (pss_one (ps_ret (pv 2))))), ?_⟩
  rw [bdD_toL] at rb
  rw [ok_toL] at ok
  have hq := flB_len g.N b
  rw [flB_toL] at q hq
  rw [orB_toL] at hc hq
  generalize toL b = l at rb ok q hq hc
  cases rb with
  | lst hp rl =>
  walk_at "r2"
  intro b1 H1 hb1 g1 h1
  have hp1 := g1 _ _ hp
  walk_at "r2"
  refine tfor_in ?_
  simp only [iList]
  walk_at "r2"
  have ll := rl.len
  rw [List.length_map] at ll
  clear hp1
  refine ⟨⟨_, SqL.of (g1 _ _ hp)⟩, for_list (xs := ‹_›) (FbI K g.N l H b1 p o) ⟨[], _, _, g1, h1, .nil, rfl⟩ (fun i σ H2 _ z => ?_) (fun i x σ H2 hx z => ?_) fun σ H2 z => ?_⟩
  · obtain ⟨_, _, _, g2, _⟩ := z
    exact SqL.of (g2 _ _ hp)
  · obtain ⟨zs, v3, v4, g2, h2, rz, rfl⟩ := z
    obtain ⟨d, hd, rd⟩ := rl.get hx
    rw [List.getElem?_map] at hd
    obtain ⟨sm, hs, rfl⟩ := Option.map_eq_some_iff.mp hd
    have oks := ok sm (List.mem_of_getElem? hs)
    have fc := flat_le hs (flA g.N)
    obtain ⟨xp, rfl⟩ : ∃ xp, x = .ref xp := by
      obtain ⟨_, _, _, e, _⟩ := sm_kind g.N sm oks
      rw [e] at rd
      cases rd; exact ⟨_, rfl⟩
    clear h1
    walk_at "r2"
    refine ⟨⟨_, SqL.of h2⟩, ?_⟩
    walk_at "r2"
    refine ⟨_, _, sm, _, g, rfl, rd.mono g2, oks, rg.mono g2, gz, fun b3 H3 zs3 hb3 g3 h3 rz3 => ?_⟩
    have h23 := g3 _ _ h2
    have n13 : b3 ≠ b1 := fun z => by rw [z, h2] at hb3; cases hb3
    clear h2
    walk_at "r2"
    have lz := rz.len
    have lz3 := rz3.len
    have lA : (flA g.N sm).length = (flS g.N sm).length + (flW g.N sm).length := List.length_append
    refine ⟨by omega, fun H4 mu4 => ?_⟩
    have g24 := mu4.same (g2.trans g3) hb1
    have rz4 : RpL K H4 (zs ++ zs3) ((l.take i).flatMap (flA g.N) ++ flS g.N sm) := RpL.app (rpl_mu mu4 h23 (fun d => flS_F) rz3) (rpl_mu mu4 h23 (fun d => flA_F) (rz.mono g3))
    have h4 := mu4.at_
    clear h3 h23 mu4
    walk_at "r2"
    refine tfor_in ?_
    simp only [iList]
    walk_at "r2"
    refine ⟨_, sm, _, H, rfl, g24, rd, oks, fun bb H5 ys5 hb5 g5 h5 r5 => ⟨_, rfl, ⟨_, SqL.of h5⟩, for_list (xs := ys5) (FcI K g.N ((l.take i).flatMap (flA g.N) ++ flS g.N sm) (subs sm) H b1 p o xp bb ys5) ⟨_, _, g24.trans g5, g5 _ _ h4, h5, by rw [List.take_zero]; simpa using rz4.mono g5, rfl⟩ (fun j σ H6 _ z => ?_) (fun j y σ H6 hy z => ?_) fun σ H6 z => ?_⟩⟩
    · obtain ⟨_, _, _, _, h6, _⟩ := z
      exact SqL.of h6
    · obtain ⟨ws, v6, g6, h6, h7, rw6, rfl⟩ := z
      obtain ⟨d, hd, rd6⟩ := r5.get hy
      rw [List.getElem?_map] at hd
      obtain ⟨u, hu, rfl⟩ := Option.map_eq_some_iff.mp hd
      have mu := List.mem_of_getElem? hu
      obtain ⟨m', rfl, ou⟩ := sub_ok oks mu
      have cu : (orB u).length ≤ 1000 := Nat.le_trans (sub_or mu) (Nat.le_trans (mem_flat_len (List.mem_of_getElem? hs)) hc)
      have fw := flat_le hu (flB g.N)
      rw [flW_subs] at fw
      obtain ⟨yp, rfl⟩ : ∃ yp, y = .ref yp := by cases rd6; exact ⟨_, rfl⟩
      clear h5
      walk_at "r2"
      refine ⟨⟨_, SqL.of h6⟩, ?_⟩
      walk_at "r2"
      refine ⟨_, _, u, _, g, rfl, rd6.mono g6, ou, by omega, cu, rg.mono g6, gz, fun b8 H8 zs8 hb8 g8 h8 rz8 => ?_⟩
      have h68 := g8 _ _ h6
      have h78 := g8 _ _ h7
      have rw68 := rw6.mono g8
      have g68 := g6.trans g8
      clear h6 h7
      walk_at "r2"
      have lw := rw68.len
      have lw8 := rz8.len
      rw [List.length_append, List.length_append] at lw
      refine ⟨by omega, fun H9 mu9 => ?_⟩
      walk_at "r2"
      have nbb : bb ≠ b1 := fun z => by rw [z, h4] at hb5; cases hb5
      exact ⟨_, _, mu9.same g68 hb1, mu9.at_, mu9.old h78 nbb, by rw [flat_cut hu, ← List.append_assoc]; exact RpL.app (rpl_mu mu9 h68 (fun d hd => flB_F (l := [u]) (by simpa using hd)) rz8) (rpl_mu mu9 h68 (fun d hd => by
        rcases List.mem_append.mp hd with hd | hd
        · rcases List.mem_append.mp hd with hd | hd
          · exact flA_F hd
          · exact flS_F hd
        · exact flB_F hd) rw68), rfl⟩
    · obtain ⟨ws, v6, g6, h6, h7, rw6, rfl⟩ := z
      refine ⟨_, _, _, g6, h6, ?_, rfl⟩
      have l5 := r5.len
      rw [List.length_map] at l5
      rw [List.take_of_length_le (l := subs sm) (by omega), flW_subs, List.append_assoc] at rw6
      rw [flat_cut hs]
      exact rw6
  · obtain ⟨zs, v3, v4, g2, h2, rz, rfl⟩ := z
    rw [List.take_of_length_le (by omega)] at rz
    clear h1
    walk_at "r2"
end
end K14
set_option Elab.async false
set_option linter.all false
set_option maxRecDepth 100000
set_option maxHeartbeats 4000000
namespace K14
open PySem L2
def orP (g : Pg) : List Sm := g.h.flatMap fun h => orB h.2.2
def flP (g : Pg) : List PyData := g.h.flatMap fun h => flB g.N h.2.2
theorem flP_or (g : Pg) : flP g = (orP g).flatMap (flS g.N) := by
  unfold flP orP
  rw [List.flatMap_assoc]
  congr 1
  funext h
  exact (fl_orB _ _).symm
theorem flP_len (g : Pg) : (flP g).length ≤ (orP g).length := by
  rw [flP_or]
  induction orP g with
  | nil => simp
  | cons s l ih => have := flS_len g.N s; rw [List.flatMap_cons, List.length_append, List.length_cons]; omega
def nmL (g : Pg) : List (List Str) := [g.t.map (·.1), g.s.map (·.1), g.r.map (·.1), g.h.map (·.1)]
structure Pg.Ok (g : Pg) : Prop where
  sz : g.Sz
  cnt : (orP g).length ≤ 1000
  hb : ∀ h ∈ g.h, BdOk h.2.2 6
  nd : (g.h.map (·.1)).Nodup
  ot : ∀ o ∈ g.t ++ (g.s ++ g.r), DG 5 (oneD o)
  hn : ∀ h ∈ g.h, PyData.strOk h.1 = true ∧ (∀ x ∈ h.2.1, PyData.strOk x = true) ∧ h.2.1.length ≤ 3
theorem dgl {n : Nat} {l : List PyData} (h : ∀ d ∈ l, DG n d) : PyData.canLayAll0 l = true ∧ PyData.depthAll l ≤ n ∧ widA l ≤ 1000 := by
  induction l with
  | nil => exact ⟨rfl, Nat.zero_le _, Nat.zero_le _⟩
  | cons d l ih =>
    obtain ⟨a, b, c⟩ := h d (List.mem_cons_self ..)
    obtain ⟨a', b', c'⟩ := ih fun d hd => h d (List.mem_cons_of_mem _ hd)
    exact ⟨by rw [PyData.canLayAll0, a, a']; rfl, by rw [PyData.depthAll]; exact Nat.max_le.mpr ⟨b, b'⟩, by rw [widA]; exact Nat.max_le.mpr ⟨c, c'⟩⟩
theorem dg_lst {n : Nat} {l : List PyData} (h : ∀ d ∈ l, DG n d) (hl : l.length ≤ 1000) : DG (n + 1) (.list l) := by
  obtain ⟨a, b, c⟩ := dgl h
  exact ⟨by rw [PyData.canLay0]; exact a, by rw [PyData.depth]; exact Nat.succ_le_succ b, by rw [wid]; exact Nat.max_le.mpr ⟨hl, c⟩⟩
theorem dg_tup {n : Nat} {l : List PyData} (h : ∀ d ∈ l, DG n d) (hl : l.length ≤ 1000) : DG (n + 1) (.tuple l) := by
  obtain ⟨a, b, c⟩ := dgl h
  exact ⟨by rw [PyData.canLay0]; exact a, by rw [PyData.depth]; exact Nat.succ_le_succ b, by rw [wid]; exact Nat.max_le.mpr ⟨hl, c⟩⟩
theorem dg_mono {n m : Nat} {d : PyData} (h : DG n d) (l : n ≤ m) : DG m d := ⟨h.1, Nat.le_trans h.2.1 l, h.2.2⟩
theorem dg_sh {n : Nat} {d : PyData} (h : DG n d) (l : n ≤ 64) : SeqAt.shaped d = true := by
  unfold SeqAt.shaped
  rw [h.1, Bool.true_and, decide_eq_true_eq]
  exact Nat.le_trans h.2.1 l
theorem dg_str {n : Nat} {x : Str} (h : PyData.strOk x = true) : DG n (.str x) := ⟨by rw [PyData.canLay0]; exact h, Nat.zero_le _, Nat.zero_le _⟩
theorem dg_int {n : Nat} {x : Int} : DG n (.int x) := ⟨rfl, Nat.zero_le _, Nat.zero_le _⟩
theorem wd_ok {x : Str} (h : x ∈ plW ++ (tkW ++ ptW) ++ ([Str.ofString "draw", Str.ofString "start", Str.ofString "if", Str.ofString "while"] : List Str)) : PyData.strOk x = true := by
  have : ∀ x ∈ plW ++ (tkW ++ ptW) ++ ([Str.ofString "draw", Str.ofString "start", Str.ofString "if", Str.ofString "while"] : List Str), PyData.strOk x = true := by decide +kernel
  exact this x h
theorem orS_subs (s : Sm) : orS s = s :: (subs s).flatMap orB := by
  cases s <;> simp [orS, subs]
theorem len_orS (l : List Sm) : l.length ≤ (l.flatMap orS).length := by
  induction l with
  | nil => exact Nat.le_refl _
  | cons s l ih => rw [List.flatMap_cons, List.length_append, orS_subs, List.length_cons, List.length_cons]; omega
theorem len_bdD (b : Bd) : (bdD b).length ≤ (orB b).length := by rw [bdD_toL, List.length_map, orB_toL]; exact len_orS _
theorem all_cons {p : PyData → Prop} {a : PyData} {l : List PyData} (h : p a) (t : ∀ d ∈ l, p d) : ∀ d ∈ a :: l, p d := fun d m => by
  rcases List.mem_cons.mp m with rfl | m
  · exact h
  · exact t d m
theorem all_nil {p : PyData → Prop} : ∀ d ∈ ([] : List PyData), p d := fun d m => absurd m List.not_mem_nil
theorem dg5 {l : List PyData} (h : ∀ d ∈ l, DG 5 d) (m : Nat) : ∀ d ∈ l, DG (m + 7) d := fun d hd => dg_mono (h d hd) (by omega)
mutual
theorem sm_dg : ∀ (s : Sm) (n : Nat), SmOk s n → (orS s).length ≤ 1000 → DG (2 * n + 8) (smD s)
  | .pl w k r, n, ok, _ => by
    simp only [SmOk] at ok
    unfold smD
    exact dg_tup (all_cons (dg_str (wd_ok (by simp [ok.1]))) (all_cons dg_int (dg5 ok.2.1 _))) (by simp; omega)
  | .nm w k x e, n, ok, _ => by
    simp only [SmOk] at ok
    unfold smD
    exact dg_tup (all_cons (dg_str (wd_ok (by rcases ok.1 with z | z <;> simp [z]))) (all_cons dg_int (all_cons (dg_str ok.2.1) (all_cons (dg_mono ok.2.2.1 (by omega)) all_nil)))) (by simp)
  | .dr k a x, n, ok, _ => by
    simp only [SmOk] at ok
    unfold smD
    exact dg_tup (all_cons (dg_str (wd_ok (by simp))) (all_cons dg_int (all_cons (dg_str ok.1) (all_cons (dg_str ok.2.1) all_nil)))) (by simp)
  | .st k x es, n, ok, _ => by
    simp only [SmOk] at ok
    unfold smD
    exact dg_tup (all_cons (dg_str (wd_ok (by simp))) (all_cons dg_int (all_cons (dg_str ok.1) (all_cons (dg_mono (dg_lst ok.2.1 (by omega)) (by omega)) all_nil)))) (by simp)
  | .wh k sg a b u, n, ok, hl => by
    simp only [SmOk] at ok
    obtain ⟨h1, h2, h3, m, rfl, o⟩ := ok
    have hl' : (orB u).length + 1 ≤ 1000 := hl
    unfold smD
    exact dg_mono (dg_tup (n := 2 * m + 9) (all_cons (dg_str (wd_ok (by simp))) (all_cons dg_int (all_cons (dg_mono h1 (by omega)) (all_cons (dg_mono h2 (by omega)) (all_cons (dg_mono h3 (by omega)) (all_cons (dg_lst (bd_dg u m o (by omega)) (Nat.le_trans (len_bdD u) (by omega))) all_nil)))))) (by simp)) (by omega)
  | .fi k sg a b u v, n, ok, hl => by
    simp only [SmOk] at ok
    obtain ⟨h1, h2, h3, m, rfl, o, o'⟩ := ok
    have hl' : (orB u ++ orB v).length + 1 ≤ 1000 := hl
    rw [List.length_append] at hl'
    unfold smD
    exact dg_mono (dg_tup (n := 2 * m + 9) (all_cons (dg_str (wd_ok (by simp))) (all_cons dg_int (all_cons (dg_mono h1 (by omega)) (all_cons (dg_mono h2 (by omega)) (all_cons (dg_mono h3 (by omega)) (all_cons (dg_lst (bd_dg u m o (by omega)) (Nat.le_trans (len_bdD u) (by omega))) (all_cons (dg_lst (bd_dg v m o' (by omega)) (Nat.le_trans (len_bdD v) (by omega))) all_nil))))))) (by simp)) (by omega)
theorem bd_dg : ∀ (b : Bd) (n : Nat), BdOk b n → (orB b).length ≤ 1000 → ∀ d ∈ bdD b, DG (2 * n + 8) d
  | .nil, _, _, _ => by unfold bdD; exact all_nil
  | .cons s r, n, ok, hl => by
    simp only [BdOk] at ok
    have hl' : (orS s ++ orB r).length ≤ 1000 := hl
    rw [List.length_append] at hl'
    unfold bdD
    exact all_cons (sm_dg s n ok.1 (by omega)) (bd_dg r n ok.2 (by omega))
end
mutual
theorem or_ok : ∀ (s : Sm) (n : Nat), SmOk s n → ∀ t ∈ orS s, ∃ m, SmOk t m
  | .pl _ _ _, n, ok, t, h => ⟨n, by have := List.mem_singleton.mp h; exact this ▸ ok⟩
  | .nm _ _ _ _, n, ok, t, h => ⟨n, by have := List.mem_singleton.mp h; exact this ▸ ok⟩
  | .dr _ _ _, n, ok, t, h => ⟨n, by have := List.mem_singleton.mp h; exact this ▸ ok⟩
  | .st _ _ _, n, ok, t, h => ⟨n, by have := List.mem_singleton.mp h; exact this ▸ ok⟩
  | .wh k sg a b u, n, ok, t, h => by
    rcases List.mem_cons.mp h with rfl | h
    · exact ⟨n, ok⟩
    · simp only [SmOk] at ok
      obtain ⟨_, _, _, m, _, o⟩ := ok
      exact or_okB u m o t h
  | .fi k sg a b u v, n, ok, t, h => by
    rcases List.mem_cons.mp h with rfl | h
    · exact ⟨n, ok⟩
    · simp only [SmOk] at ok
      obtain ⟨_, _, _, m, _, o, o'⟩ := ok
      rcases List.mem_append.mp h with h | h
      · exact or_okB u m o t h
      · exact or_okB v m o' t h
theorem or_okB : ∀ (b : Bd) (n : Nat), BdOk b n → ∀ t ∈ orB b, ∃ m, SmOk t m
  | .nil, _, _, _, h => absurd h List.not_mem_nil
  | .cons s r, n, ok, t, h => by
    simp only [BdOk] at ok
    rcases List.mem_append.mp h with h | h
    · exact or_ok s n ok.1 t h
    · exact or_okB r n ok.2 t h
end
theorem flt_dg {kd : Str} {k : Int} {x : Str} {l : List Str} (h1 : PyData.strOk kd = true) (h2 : PyData.strOk x = true) {d : PyData} (h : d ∈ flt kd k x l) : DG 1 d := by
  unfold flt at h
  split at h
  · cases h
  · rw [List.mem_singleton.mp h]; exact dg_tup (n := 0) (all_cons (dg_str h1) (all_cons dg_int (all_cons (dg_str h2) all_nil))) (by simp)
theorem flS_dg {N : Nms} {s : Sm} {n : Nat} (ok : SmOk s n) {d : PyData} (h : d ∈ flS N s) : DG 1 d := by
  cases s with
  | nm w k x e =>
    simp only [SmOk] at ok
    have h' : d ∈ (if w ∈ tkW then flt "tool" k x N.t else flt "store" k x N.s) := h
    split at h'
    · exact flt_dg (by decide +kernel) ok.2.1 h'
    · exact flt_dg (by decide +kernel) ok.2.1 h'
  | dr k a x => simp only [SmOk] at ok; exact flt_dg (by decide +kernel) ok.2.1 (show d ∈ flt "row" k x N.r from h)
  | st k x es =>
    simp only [SmOk] at ok
    have h' : d ∈ flH N k x es.length := h
    have e : ∀ kd : Str, PyData.strOk kd = true → DG 1 (fT kd k x) := fun kd h1 => dg_tup (n := 0) (all_cons (dg_str h1) (all_cons dg_int (all_cons (dg_str ok.1) all_nil))) (by simp)
    unfold flH at h'
    split at h'
    · split at h'
      · cases h'
      · rw [List.mem_singleton.mp h']; exact e _ (by decide +kernel)
    · rw [List.mem_singleton.mp h']; exact e _ (by decide +kernel)
  | _ => simp [flS] at h
theorem orP_ok {g : Pg} (gk : g.Ok) {s : Sm} (h : s ∈ orP g) : ∃ n, SmOk s n := by
  obtain ⟨hd, mh, h⟩ := List.mem_flatMap.mp h
  exact or_okB _ _ (gk.hb hd mh) s h
theorem Pg.Ok.fl {g : Pg} (gk : g.Ok) : ∀ d ∈ flP g, DG 1 d := fun d h => by
  rw [flP_or] at h
  obtain ⟨s, ms, h⟩ := List.mem_flatMap.mp h
  obtain ⟨n, ok⟩ := orP_ok gk ms
  exact flS_dg ok h
theorem one_ok {o : Str × List PyData} (h : DG 5 (oneD o)) : PyData.strOk o.1 = true := by
  have := h.1
  unfold oneD at this
  rw [PyData.canLay0, PyData.canLayAll0, PyData.canLay0] at this
  exact (Bool.and_eq_true_iff.mp this).1
theorem Pg.Ok.nm {g : Pg} (gk : g.Ok) : ∀ l ∈ nmL g, ∀ x ∈ l, PyData.strOk x = true := fun l hl x hx => by
  unfold nmL at hl
  simp only [List.mem_cons, List.not_mem_nil, or_false] at hl
  rcases hl with rfl | rfl | rfl | rfl
  · obtain ⟨o, mo, rfl⟩ := List.mem_map.mp hx; exact one_ok (gk.ot o (by simp [mo]))
  · obtain ⟨o, mo, rfl⟩ := List.mem_map.mp hx; exact one_ok (gk.ot o (by simp [mo]))
  · obtain ⟨o, mo, rfl⟩ := List.mem_map.mp hx; exact one_ok (gk.ot o (by simp [mo]))
  · obtain ⟨o, mo, rfl⟩ := List.mem_map.mp hx; exact (gk.hn o mo).1
theorem or_hand {g : Pg} {h : Hd} (mh : h ∈ g.h) : (orB h.2.2).length ≤ (orP g).length := by
  obtain ⟨i, hi, rfl⟩ := List.mem_iff_getElem.mp mh
  have := flat_le (List.getElem?_eq_getElem hi) (fun h => orB h.2.2)
  unfold orP
  omega
theorem map_dg {α : Type} {f : α → PyData} {l : List α} {n : Nat} (h : ∀ x ∈ l, DG n (f x)) : ∀ d ∈ l.map f, DG n d := fun d hd => by
  obtain ⟨x, hx, rfl⟩ := List.mem_map.mp hd
  exact h x hx
theorem Pg.Ok.lay {g : Pg} (gk : g.Ok) : DG 60 g.D := by
  have cn := gk.cnt
  have z := gk.sz
  unfold Pg.D
  refine dg_mono (dg_tup (n := 23) (all_cons (dg_mono (dg_lst (map_dg fun o ho => gk.ot o (by simp [ho])) (by rw [List.length_map]; exact Nat.le_trans z.t (by decide))) (by decide)) (all_cons (dg_mono (dg_lst (map_dg fun o ho => gk.ot o (by simp [ho])) (by rw [List.length_map]; exact Nat.le_trans z.s (by decide))) (by decide)) (all_cons (dg_mono (dg_lst (map_dg fun o ho => gk.ot o (by simp [ho])) (by rw [List.length_map]; exact Nat.le_trans z.r (by decide))) (by decide)) (all_cons (dg_lst (map_dg fun h mh => ?_) (by rw [List.length_map]; exact Nat.le_trans z.h (by decide))) all_nil)))) (by simp)) (by decide)
  obtain ⟨h1, h2, h3⟩ := gk.hn h mh
  have h4 := Nat.le_trans (or_hand mh) cn
  exact dg_tup (n := 21) (all_cons (dg_str h1) (all_cons (dg_mono (dg_lst (n := 0) (map_dg fun x hx => dg_str (h2 x hx)) (by rw [List.length_map]; omega)) (by decide)) (all_cons (dg_lst (bd_dg _ 6 (gk.hb h mh) h4) (Nat.le_trans (len_bdD _) h4)) all_nil))) (by simp)
section
variable {P : Program} {w : World} {K : PySem.W.Frag} {mg : Str → Option Value} {base : Heap}
def FpI (K : PySem.W.Frag) (g : Pg) (H0 : Hp) (b p : Addr) (i : Nat) (σ : St) (H : Hp) : Prop := ∃ zs v2, Same H0 H ∧ H b = some (.lst zs) ∧ RpL K H zs ((g.h.take i).flatMap fun h => flB g.N h.2.2) ∧ σ = [some (.ref p), some (.ref b), v2]
def spFp (K : PySem.W.Frag) : Sp := fun vs H Q _ => ∃ (p : Addr) (g : Pg), vs = [.ref p] ∧ Rp K H (.ref p) g.D ∧ g.Ok ∧ ∀ (b' : Addr) (H' : Hp) (zs : List V), H b' = none → Same H H' → H' b' = some (.lst zs) → RpL K H' zs (flP g) → Q (.ref b') H'
theorem ok_fp (D : DefAt K mg "faults" s_faults ["program"]) (G_faults_of_body : OkD P w K mg base 10 "faults_of_body" ["body", "program"] (spFb K 7)) : OkD P w K mg base 11 "faults" ["program"] (spFp K) := by
  refine D.ok sc_faults (fun vs H Q E h => ?_) (fun f cdv A outer s H vs Q E hr h => ?_)
  · obtain ⟨_, _, rfl, _⟩ := h; rfl
  obtain ⟨p, g, rfl, rg, gk, q⟩ := h
  refine ⟨_, (pss_cons (ps_set (i := 1) sc_faults.nd rfl (Or.inl rfl) (pe_lstG pa_nil))
  (pss_cons (ps_for PassesOwn.never rfl (pi_list (pe_ix ix_g (pv 0) pe_int (fun _ _ => rfl))) (pg_name (i := 2) sc_faults.nd rfl (Or.inl rfl))
  (pss_one (ps_expr (pe_bm PySem.F.plainAttrs_list PySem.F.slot_list_extend PySem.F.type_list_extend mt_extG (pv 1) (pa_c (pe_def G_faults_of_body hr rfl (pa_c (pe_ix ix_g (pv 2) pe_int (fun _ _ => rfl)) (pa_c (pv 0) pa_nil))) pa_nil)))))
  (pss_one (ps_ret (pv 1))))), ?_⟩
  obtain ⟨ia, ib, ic, id, ta, sa, ra, ha, h0, _, _, _, h4, _, _, _, r4⟩ := pg_of rg
  walk_at "r2"
  intro b1 H1 hb1 g1 h1
  have h01 := g1 _ _ h0
  walk_at "r2"
  refine tfor_in ?_
  simp only [iList]
  walk_at "r2"
  have ll := r4.len
  rw [List.length_map] at ll
  clear h01
  refine ⟨⟨_, SqL.of (g1 _ _ h4)⟩, for_list (xs := ha) (FpI K g H b1 p) ⟨[], _, g1, h1, .nil, rfl⟩ (fun i σ H2 _ z => ?_) (fun i x σ H2 hx z => ?_) fun σ H2 z => ?_⟩
  · obtain ⟨_, _, g2, _⟩ := z
    exact SqL.of (g2 _ _ h4)
  · obtain ⟨zs, v3, g2, h2, rz, rfl⟩ := z
    obtain ⟨d, hd, rd⟩ := r4.get hx
    rw [List.getElem?_map] at hd
    obtain ⟨hh, hs, rfl⟩ := Option.map_eq_some_iff.mp hd
    have mh := List.mem_of_getElem? hs
    have fc := flat_le hs (fun h => flB g.N h.2.2)
    have fo := flat_le hs (fun h => orB h.2.2)
    have cn := gk.cnt
    have fl := flP_len g
    unfold orP at cn fl
    unfold flP at fl
    obtain ⟨xp, np, bp, _, rfl, e1, _, _, e4⟩ := hd_of rd
    have e1' := g2 _ _ e1
    clear h1
    walk_at "r2"
    refine ⟨⟨_, SqL.of h2⟩, ?_⟩
    walk_at "r2"
    refine ⟨_, _, hh.2.2, _, g, rfl, e4.mono g2, gk.hb _ mh, by decide, by omega, rg.mono g2, gk.sz, fun b3 H3 zs3 hb3 g3 h3 rz3 => ?_⟩
    have h23 := g3 _ _ h2
    clear h2 e1'
    walk_at "r2"
    have lz := rz.len
    have lz3 := rz3.len
    refine ⟨by omega, fun H4 mu4 => ?_⟩
    exact ⟨_, _, mu4.same (g2.trans g3) hb1, mu4.at_, by rw [flat_cut hs]; exact RpL.app (rpl_mu mu4 h23 (fun d hd => flB_F (l := [hh.2.2]) (by simpa using hd)) rz3) (rpl_mu mu4 h23 (fun d hd => by
      obtain ⟨_, _, hd⟩ := List.mem_flatMap.mp hd
      exact flB_F (l := [_]) (by simpa using hd)) (rz.mono g3)), rfl⟩
  · obtain ⟨zs, v3, g2, h2, rz, rfl⟩ := z
    rw [List.take_of_length_le (by omega)] at rz
    clear h1
    walk_at "r2"
    exact q b1 H2 zs hb1 g2 h2 rz
def spSo (K : PySem.W.Frag) : Sp := fun vs H Q _ => ∃ (p : Addr) (g : Pg), vs = [.ref p] ∧ Rp K H (.ref p) g.D ∧ g.Ok ∧ ∀ (H' : Hp), Same H H' → Q (.bl (flP g).isEmpty) H'
theorem ok_so (D : DefAt K mg "sound" s_sound ["program"]) (G_faults : OkD P w K mg base 11 "faults" ["program"] (spFp K)) : OkD P w K mg base 12 "sound" ["program"] (spSo K) := by
  refine D.ok sc_sound (fun vs H Q E h => ?_) (fun f cdv A outer s H vs Q E hr h => ?_)
  · obtain ⟨_, _, rfl, _⟩ := h; rfl
  obtain ⟨p, g, rfl, rg, gk, q⟩ := h
  have hu64 := hr.units
  refine ⟨_, (pss_one (ps_ret (pe_cmpR (op_eqD hu64) (pe_def G_faults hr rfl (pa_c (pv 0) pa_nil)) (pe_lstG pa_nil) (nomark _)))), ?_⟩
  walk_at "r2"
  refine ⟨_, g, rfl, rg, gk, fun b H1 zs hb g1 h1 rz => ?_⟩
  walk_at "r2"
  intro b2 H2 hb2 g2 h2
  refine ⟨.list (flP g), .list [], .lst (g2 _ _ h1) (rz.mono g2), .lst h2 .nil, dg_sh (dg_lst gk.fl (Nat.le_trans (flP_len g) gk.cnt)) (by decide), by decide, ?_⟩
  have : PyData.eqv (.list (flP g)) (.list []) = (flP g).isEmpty := by cases flP g <;> simp [PyData.eqv, PyData.eqvAll]
  rw [this]
  exact q H2 (g1.trans g2)
end
end K14
set_option Elab.async false
set_option linter.all false
set_option maxRecDepth 100000
set_option maxHeartbeats 4000000
namespace K14
open PySem L2
def kp (H0 H H' : Hp) : Hp := fun a => match H0 a with | some _ => H' a | none => nw H H' a
def em : Hp := fun _ => none
theorem kp_inv {H0 H H' : Hp} {a : Addr} {u : HO} (e : kp H0 H H' a = some u) : ((∃ o, H0 a = some o) ∨ H a = none) ∧ H' a = some u := by
  unfold kp at e
  cases h : H0 a with
  | some o => rw [h] at e; exact ⟨.inl ⟨_, rfl⟩, e⟩
  | none => rw [h] at e; exact ⟨.inr (nw_inv e).1, (nw_inv e).2⟩
theorem kp_old {H0 H H' : Hp} {a : Addr} {u o : HO} (h : H0 a = some o) (h' : H' a = some u) : kp H0 H H' a = some u := by
  unfold kp; rw [h]; exact h'
theorem kp_new {H0 H H' : Hp} {a : Addr} {u : HO} (h : H a = none) (h' : H' a = some u) : kp H0 H H' a = some u := by
  unfold kp
  cases H0 a with
  | some o => exact h'
  | none => exact nw_of h h'
theorem kp_le {H0 H H' : Hp} : Same (kp H0 H H') H' := fun a u e => (kp_inv e).2
theorem kp_base {H0 H H' : Hp} (g : Same H0 H') : Same H0 (kp H0 H H') := fun a u e => kp_old e (g _ _ e)
theorem kp_mono {H0 H H1 H' H'' : Hp} (g : Same H H1) (g' : Same H' H'') : Same (kp H0 H1 H') (kp H0 H H'') := fun a u e => by
  obtain ⟨h | h, h2⟩ := kp_inv e
  · exact kp_old h.choose_spec (g' _ _ h2)
  · exact kp_new (g.free h) (g' _ _ h2)
theorem kp_own {H0 H H' H'' H5 : Hp} {D : Addr} {o : HO} (g : Same H' H'') (mu : Mu H'' D o H5) : Same (hide D (kp H0 H H')) (hide D (kp H0 H H5)) := fun a u e => by
  obtain ⟨n, e⟩ := hide_inv e
  obtain ⟨h, h2⟩ := kp_inv e
  refine hide_of n ?_
  have h5 := mu.old (g _ _ h2) n
  rcases h with ⟨_, h⟩ | h
  · exact kp_old h h5
  · exact kp_new h h5
theorem kp_item {H0 H H' H'' H5 : Hp} {D : Addr} {o o' : HO} (g0 : Same H H') (h0 : H0 D = none) (hD : H' D = some o') (mu : Mu H'' D o H5) : Same (kp H0 H' H'') (hide D (kp H0 H H5)) := fun a u e => by
  obtain ⟨h, h2⟩ := kp_inv e
  have n : a ≠ D := fun z => by
    rcases h with ⟨_, h⟩ | h
    · rw [z, h0] at h; cases h
    · rw [z, hD] at h; cases h
  refine hide_of n ?_
  have h5 := mu.old h2 n
  rcases h with ⟨_, h⟩ | h
  · exact kp_old h h5
  · exact kp_new (g0.free h) h5
theorem wid_mem {l : List PyData} {d : PyData} (h : d ∈ l) : wid d ≤ widA l := by
  induction l with
  | nil => cases h
  | cons x l ih =>
    rw [widA]
    rcases List.mem_cons.mp h with rfl | h
    · exact Nat.le_max_left ..
    · exact Nat.le_trans (ih h) (Nat.le_max_right ..)
theorem depth_mem {l : List PyData} {d : PyData} (h : d ∈ l) : d.depth ≤ PyData.depthAll l := by
  induction l with
  | nil => cases h
  | cons x l ih =>
    rw [PyData.depthAll]
    rcases List.mem_cons.mp h with rfl | h
    · exact Nat.le_max_left ..
    · exact Nat.le_trans (ih h) (Nat.le_max_right ..)
section
variable {P : Program} {w : World} {K : PySem.W.Frag} {mg : Str → Option Value} {base : Heap}
def CoP (K : PySem.W.Frag) (H : Hp) (ds : List PyData) (D : Addr) (i : Nat) (ys : List V) (σ1 : St) (H' : Hp) : Prop := RpL K (hide D (kp em H H')) ys (ds.take i) ∧ ∃ v0, σ1 = [v0]
def spCo (K : PySem.W.Frag) (n : Nat) : Sp := fun vs H Q _ => ∃ (v : V) (d : PyData), vs = [v] ∧ Rp K H v d ∧ d.depth < n ∧ wid d ≤ 1000 ∧ ∀ (r : V) (H' : Hp), Same H H' → Rp K (kp em H H') r d → Q r H'
theorem ok_co (D : DefAt K mg "_law_copied" s__law_copied ["thing"]) (hisinstance : mg "isinstance" = none) (hlist : mg "list" = none) (htuple : mg "tuple" = none) : ∀ n : Nat, OkD P w K mg base (n + 1) "_law_copied" ["thing"] (spCo K n) := by
  intro n
  induction n with
  | zero => exact D.never _ fun vs H Q E h => by obtain ⟨_, _, _, _, h, _⟩ := h; omega
  | succ n G__law_copied =>
  refine D.ok sc__law_copied (fun vs H Q E h => ?_) (fun f cdv A outer s H vs Q E hr h => ?_)
  · obtain ⟨_, _, rfl, _⟩ := h; rfl
  obtain ⟨v, d, rfl, rv, dn, dw, q⟩ := h
  refine ⟨_, (pss_cons (ps_if (pt_val (pe_cB (id := "isinstance") (r := rIsiG K) call_isinstG rfl hisinstance (by decide +kernel) (pa_c (pv 0) (pa_c (pe_type (n := "list") (T := "list") rfl hlist (by decide +kernel)) pa_nil))))
  (pss_one (ps_ret (pe_compN (comp_scopeN 1 (N := ["part"]) (cap := []) rfl rfl rfl rfl (by decide +kernel) rfl rfl rfl) rfl (pi_list (pv 0)) (fun _ _ _ _ => (pg_name (i := 0) (show List.Nodup (α := Str) ["part"] by decide +kernel) rfl (Or.inl (lookup_relabel_local rfl)) (Or.inr (lookup_relabel_local rfl)))) (fun _ _ _ _ => pts_nil) (fun _ _ _ _ => (pe_def G__law_copied hr rfl (pa_c (pv 0) pa_nil))))))
  pss_nil)
  (pss_cons (ps_if (pt_val (pe_cB (id := "isinstance") (r := rIsiG K) call_isinstG rfl hisinstance (by decide +kernel) (pa_c (pv 0) (pa_c (pe_type (n := "tuple") (T := "tuple") rfl htuple (by decide +kernel)) pa_nil))))
  (pss_one (ps_ret (pe_cTy call_tupL rfl htuple (by decide +kernel) (pa_c (pe_compN (comp_scopeN 1 (N := ["part"]) (cap := []) rfl rfl rfl rfl (by decide +kernel) rfl rfl rfl) rfl (pi_tup (pv 0)) (fun _ _ _ _ => (pg_name (i := 0) (show List.Nodup (α := Str) ["part"] by decide +kernel) rfl (Or.inl (lookup_relabel_local rfl)) (Or.inr (lookup_relabel_local rfl)))) (fun _ _ _ _ => pts_nil) (fun _ _ _ _ => (pe_def G__law_copied hr rfl (pa_c (pv 0) pa_nil)))) pa_nil))))
  pss_nil)
  (pss_one (ps_ret (pv 0))))), ?_⟩
  have big : 100000 ≤ sizeLine := by unfold sizeLine; decide
  cases rv with
  | lst ha rl =>
    rename_i a xs ds
    rw [PyData.depth] at dn
    rw [wid] at dw
    obtain ⟨dw, dw2⟩ := Nat.max_le.mp dw
    walk_at "r2"
    refine tcomp_in ?_
    simp only [iList]
    walk_at "r2"
    refine ⟨⟨_, SqL.of ha⟩, compJD_list ha (by have := rl.len; omega) (CoP K H ds) (fun D H' _ _ _ => ⟨.nil, _, rfl⟩) ?_ ?_⟩
    · intro D i x ys σ1 H1 hx at1 z
      obtain ⟨ry, v0, rfl⟩ := z
      obtain ⟨e, he, re⟩ := rl.get hx
      have me := List.mem_of_getElem? he
      walk_at "r2"
      refine ⟨x, e, rfl, re.mono at1.same, by have := depth_mem me; omega, by have := wid_mem me; omega, fun r H2 g2 r2 => ?_⟩
      refine at1.put g2 fun H5 mu => ⟨?_, _, rfl⟩
      rw [take_snoc he]
      exact RpL.app (.cons (r2.mono (kp_item at1.same rfl at1.lst mu)) .nil) (ry.mono (kp_own g2 mu))
    · intro D ys σ1 H1 hD g1 hy _ z
      rw [CoP, List.take_of_length_le (by rw [rl.len]; exact Nat.le_refl _)] at z
      exact q _ H1 g1 (.lst (kp_new hD hy) (z.1.mono hide_le))
  | tup ha rl =>
    rename_i a xs ds
    rw [PyData.depth] at dn
    rw [wid] at dw
    obtain ⟨dw, dw2⟩ := Nat.max_le.mp dw
    walk_at "r2"
    refine tcomp_in ?_
    simp only [iTup]
    walk_at "r2"
    refine ⟨⟨_, SqT.of ha⟩, compJD over_tup (fun H g => g _ _ ha) (by have := rl.len; omega) (CoP K H ds) (fun D H' _ _ _ => ⟨.nil, _, rfl⟩) ?_ ?_⟩
    · intro D i x ys σ1 H1 hx at1 z
      obtain ⟨ry, v0, rfl⟩ := z
      obtain ⟨e, he, re⟩ := rl.get hx
      have me := List.mem_of_getElem? he
      walk_at "r2"
      refine ⟨x, e, rfl, re.mono at1.same, by have := depth_mem me; omega, by have := wid_mem me; omega, fun r H2 g2 r2 => ?_⟩
      refine at1.put g2 fun H5 mu => ⟨?_, _, rfl⟩
      rw [take_snoc he]
      exact RpL.app (.cons (r2.mono (kp_item at1.same rfl at1.lst mu)) .nil) (ry.mono (kp_own g2 mu))
    · intro D ys σ1 H1 hD g1 hy _ z
      rw [CoP, List.take_of_length_le (by rw [rl.len]; exact Nat.le_refl _)] at z
      walk_at "r2"
      exact fun p2 H2 hp2 g2 h2 => q _ H2 (g1.trans g2) (.tup (kp_new (g1.free hp2) h2) (z.1.mono fun a u e => kp_mono (Same.refl _) g2 a u (hide_le a u e)))
  | _ =>
    walk_at "r2"
    exact q _ H (Same.refl _) (by constructor)
end
end K14
set_option Elab.async false
set_option linter.all false
set_option maxRecDepth 100000
set_option maxHeartbeats 4000000
namespace K14
open PySem L2
theorem rev_flat {α β : Type} (l : List α) (f : α → List β) : l.reverse.flatMap (fun x => (f x).reverse) = (l.flatMap f).reverse := by
  induction l with
  | nil => rfl
  | cons x l ih => rw [List.reverse_cons, List.flatMap_append, ih]; simp
theorem _root_.L2.RpL.snoc_inv {K : PySem.W.Frag} {H : Hp} {d : PyData} {ds : List PyData} : ∀ {vs : List V}, RpL K H vs (ds ++ [d]) → ∃ ws v, vs = ws ++ [v] ∧ RpL K H ws ds ∧ Rp K H v d := by
  induction ds with
  | nil => intro vs t; cases t with | cons h r => cases r; exact ⟨[], _, rfl, .nil, h⟩
  | cons e ds ih =>
    intro vs t
    cases t with
    | cons h r => obtain ⟨ws, v, rfl, a, b⟩ := ih r; exact ⟨_ :: ws, v, rfl, .cons h a, b⟩
theorem cutV_from (xs : List V) : cutV xs (some 5) none = xs.drop 5 := by
  unfold cutV
  rw [HT.sIx_none, show (5 : Int) = ((5 : Nat) : Int) from rfl, HT.sIx_nat]
  by_cases h : 5 ≤ xs.length
  · rw [Nat.min_eq_left h]; exact List.take_of_length_le (by rw [List.length_drop]; exact Nat.le_refl _)
  · rw [Nat.min_eq_right (by omega), List.drop_eq_nil_of_le (Nat.le_refl _), List.drop_eq_nil_of_le (by omega)]; simp
theorem smD_cut {K : PySem.W.Frag} {H : Hp} {s : Sm} {n : Nat} (ok : SmOk s n) {p : Addr} (r : Rp K H (.ref p) (smD s)) : ∃ xs, H p = some (.tup xs) ∧ xs ≠ [] ∧ RpL K H (cutV xs (some 5) none) ((subs s).map fun u => .list (bdD u)) ∧ (cutV xs (some 5) none).length ≤ 2 := by
  have nil : ∀ {xs : List V}, xs.length ≤ 5 → cutV xs (some 5) none = [] := fun {xs} h => by
    rw [cutV_from]
    exact List.drop_eq_nil_of_le h
  cases s with
  | pl w k r' =>
    simp only [SmOk] at ok
    unfold smD at r
    cases r with
    | tup h r => exact ⟨_, h, (fun z => by subst z; cases r), by rw [nil (by have := r.len; simp at this; omega)]; exact .nil, by rw [nil (by have := r.len; simp at this; omega)]; decide⟩
  | nm w k x e =>
    unfold smD at r
    cases r with
    | tup h r => exact ⟨_, h, (fun z => by subst z; cases r), by rw [nil (by have := r.len; simp at this; omega)]; exact .nil, by rw [nil (by have := r.len; simp at this; omega)]; decide⟩
  | dr k a x =>
    unfold smD at r
    cases r with
    | tup h r => exact ⟨_, h, (fun z => by subst z; cases r), by rw [nil (by have := r.len; simp at this; omega)]; exact .nil, by rw [nil (by have := r.len; simp at this; omega)]; decide⟩
  | st k x es =>
    unfold smD at r
    cases r with
    | tup h r => exact ⟨_, h, (fun z => by subst z; cases r), by rw [nil (by have := r.len; simp at this; omega)]; exact .nil, by rw [nil (by have := r.len; simp at this; omega)]; decide⟩
  | wh k sg a b u =>
    unfold smD at r
    cases r with
    | tup h r => cases r with
      | cons _ r => cases r with
        | cons _ r => cases r with
          | cons _ r => cases r with
            | cons _ r => cases r with
              | cons _ r => exact ⟨_, h, by simp, by rw [cutV_from]; exact r, by rw [cutV_from]; have := r.len; simp at this ⊢; omega⟩
  | fi k sg a b u v =>
    unfold smD at r
    cases r with
    | tup h r => cases r with
      | cons _ r => cases r with
        | cons _ r => cases r with
          | cons _ r => cases r with
            | cons _ r => cases r with
              | cons _ r => exact ⟨_, h, by simp, by rw [cutV_from]; exact r, by rw [cutV_from]; have := r.len; simp at this ⊢; omega⟩
section
variable {P : Program} {w : World} {K : PySem.W.Frag} {mg : Str → Option Value} {base : Heap}
def pil (l : List Hd) : List Sm := l.flatMap fun h => (toL h.2.2).reverse
theorem pil_rev (l : List Hd) : pil l.reverse = (l.flatMap fun h => toL h.2.2).reverse := rev_flat l _
theorem orP_toL (g : Pg) : orP g = (g.h.flatMap fun h => toL h.2.2).flatMap orS := by
  unfold orP
  rw [List.flatMap_assoc]
  congr 1
  funext h
  exact orB_toL _
theorem sub_flat (t : Sm) : (subs t).flatMap orB = ((subs t).flatMap toL).flatMap orS := by
  rw [List.flatMap_assoc]
  congr 1
  funext h
  exact orB_toL _
theorem pil_len {g : Pg} (h : (orP g).length ≤ 1000) : (pil g.h.reverse).length ≤ 1000 := by
  rw [pil_rev, List.length_reverse]
  rw [orP_toL] at h
  exact Nat.le_trans (len_orS _) h
def IoI (K : PySem.W.Frag) (l : List Hd) (HB H0 : Hp) (p b q : Addr) (ha : List V) (i : Nat) (σ : St) (H : Hp) : Prop := ∃ c ps v3 v4 v5, Same H0 H ∧ H b = some (.lst []) ∧ H q = some (.lst ha) ∧ c ≠ b ∧ H c = some (.lst ps) ∧ H0 c = none ∧ RpL K HB ps ((pil (l.take i)).map smD) ∧ σ = [some (.ref p), some (.ref b), some (.ref c), v3, v4, v5, none, none]
def WoI (K : PySem.W.Frag) (O : List Sm) (HB H0 : Hp) (p b : Addr) (m : Nat) (σ : St) (H : Hp) : Prop := ∃ c ps zs, ∃ T F : List Sm, ∃ v3 v4 v5 v6 v7, Same H0 H ∧ H b = some (.lst zs) ∧ c ≠ b ∧ H c = some (.lst ps) ∧ H0 c = none ∧ RpL K HB ps ((T.map smD).reverse) ∧ RpL K HB zs (F.map smD) ∧ F ++ T.flatMap orS = O ∧ m = (T.flatMap orS).length ∧ (∀ s ∈ T, ∃ n, n ≤ 6 ∧ SmOk s n) ∧ σ = [some (.ref p), some (.ref b), some (.ref c), v3, v4, v5, v6, v7]
def WoN (K : PySem.W.Frag) (O : List Sm) (HB H0 : Hp) (p b : Addr) (M : Nat) (σ : St) (H : Hp) : Prop := ∃ m', m' < M ∧ WoI K O HB H0 p b m' σ H
def WpI (K : PySem.W.Frag) (T : List Sm) (l : List Bd) (HB H0 : Hp) (p b t qa : Addr) (ys zs : List V) (i : Nat) (σ : St) (H : Hp) : Prop := ∃ c ps v3 v4 v5 v7, Same H0 H ∧ H b = some (.lst zs) ∧ H qa = some (.lst ys) ∧ c ≠ b ∧ H c = some (.lst ps) ∧ H0 c = none ∧ RpL K HB ps ((T.map smD).reverse ++ ((l.take i).flatMap fun u => (toL u).reverse).map smD) ∧ σ = [some (.ref p), some (.ref b), some (.ref c), v3, v4, v5, some (.ref t), v7]
def spIo (K : PySem.W.Frag) : Sp := fun vs H Q _ => ∃ (p : Addr) (g : Pg) (HB : Hp), vs = [.ref p] ∧ Same HB H ∧ Rp K HB (.ref p) g.D ∧ g.Ok ∧ ∀ (b' : Addr) (H' : Hp) (zs : List V), H b' = none → Same H H' → H' b' = some (.lst zs) → RpL K HB zs ((orP g).map smD) → Q (.ref b') H'
theorem ok_io (D : DefAt K mg "_law_in_order" s__law_in_order ["program"]) (hlist : mg "list" = none) (hreversed : mg "reversed" = none) : OkD P w K mg base 1 "_law_in_order" ["program"] (spIo K) := by
  refine D.ok sc__law_in_order (fun vs H Q E h => ?_) (fun f cdv A outer s H vs Q E hr h => ?_)
  · obtain ⟨_, _, _, rfl, _⟩ := h; rfl
  obtain ⟨p, g, HB, rfl, g0, rg, gk, q⟩ := h
  have hu64 := hr.units
  refine ⟨_, (pss_cons (ps_set (i := 1) sc__law_in_order.nd rfl (Or.inl rfl) (pe_lstG pa_nil))
  (pss_cons (ps_set (i := 2) sc__law_in_order.nd rfl (Or.inl rfl) (pe_lstG pa_nil))
  (pss_cons (ps_for PassesOwn.never rfl (pi_list (pe_listRev rfl hlist rfl hreversed (pa_c (pe_ix ix_g (pv 0) pe_int (fun _ _ => rfl)) pa_nil))) (pg_tupG 3 rfl (pgs_cons (pg_name (i := 3) sc__law_in_order.nd rfl (Or.inl rfl)) (pgs_cons (pg_name (i := 4) sc__law_in_order.nd rfl (Or.inl rfl)) (pgs_cons (pg_name (i := 5) sc__law_in_order.nd rfl (Or.inl rfl)) pgs_nil))))
  (pss_one (ps_set (i := 2) sc__law_in_order.nd rfl (Or.inl rfl) (pe_op op_catG (pv 2) (pe_listRev rfl hlist rfl hreversed (pa_c (pv 5) pa_nil))))))
  (pss_cons (ps_while PassesOwn.never (pt_cmpR (op_neD hu64) (pv 2) (pe_lstG pa_nil) (nomark _))
  (pss_cons (ps_set (i := 6) sc__law_in_order.nd rfl (Or.inl rfl) (pe_bm0 PySem.F.plainAttrs_list PySem.F.slot_list_pop PySem.F.type_list_pop mt_popG (pv 2)))
  (pss_cons (ps_expr (pe_appG (pv 1) (pv 6)))
  (pss_one (ps_for PassesOwn.never rfl (pi_list (pe_listRevT rfl hlist rfl hreversed (pa_c (pe_slice sl_g (pv 6) (po_some pe_int) po_none) pa_nil))) (pg_name (i := 7) sc__law_in_order.nd rfl (Or.inl rfl))
  (pss_one (ps_set (i := 2) sc__law_in_order.nd rfl (Or.inl rfl) (pe_op op_catG (pv 2) (pe_listRev rfl hlist rfl hreversed (pa_c (pv 7) pa_nil))))))))))
  (pss_one (ps_ret (pv 1))))))), ?_⟩
  obtain ⟨ia, ib, ic, id, ta, sa, ra, ha, h0, _, _, _, h4, _, _, _, r4⟩ := pg_of rg
  have h0 := g0 _ _ h0
  have h4 := g0 _ _ h4
  clear rg
  walk_at "r2"
  intro b1 H1 hb1 g1 h1
  walk_at "r2"
  intro c2 H2 hc2 g2 h2
  have g12 := g1.trans g2
  have h02 := g12 _ _ h0
  have h42 := g12 _ _ h4
  have h12 := g2 _ _ h1
  have h1' := h1
  clear h1
  walk_at "r2"
  refine tfor_in ?_
  simp only [iList]
  walk_at "r2"
  intro qa H3 hqa g3 h3
  have g13 := g12.trans g3
  have h13 := g3 _ _ h12
  have h23 := g3 _ _ h2
  have nc : c2 ≠ b1 := fun z => by rw [z, h1'] at hc2; cases hc2
  have rr := r4.rev
  rw [← List.map_reverse] at rr
  have ll := rr.len
  rw [List.length_map] at ll
  clear h02 h42 h12 h2
  refine ⟨_, rfl, ⟨_, SqL.of h3⟩, for_list (xs := ha.reverse) (IoI K g.h.reverse HB H p b1 qa ha.reverse) ⟨c2, [], _, _, _, g13, h13, h3, nc, h23, g1.free hc2, .nil, rfl⟩ (fun i σ H4 _ z => ?_) (fun i x σ H4 hx z => ?_) fun σ H4 z => ?_⟩
  · obtain ⟨_, _, _, _, _, _, _, z, _⟩ := z
    exact SqL.of z
  · obtain ⟨c, ps, v3, v4, v5, g4', hb4, hq4, nb4, hc4, hc0, rp4, rfl⟩ := z
    obtain ⟨d, hd, rd⟩ := rr.get hx
    rw [List.getElem?_map] at hd
    obtain ⟨hh, hs, rfl⟩ := Option.map_eq_some_iff.mp hd
    obtain ⟨xp, np, bp, _, rfl, e1, _, _, e4⟩ := hd_of rd
    cases e4 with
    | lst e4 e5 =>
    rw [bdD_toL] at e5
    have e1' := g4' _ _ (g0 _ _ e1)
    have e4' := g4' _ _ (g0 _ _ e4)
    clear h13 h23 h3
    walk_at "r2"
    intro r5 H5 hr5 g5 h5
    have hc5 := g5 _ _ hc4
    have hb5 := g5 _ _ hb4
    have hq5 := g5 _ _ hq4
    clear e1' e4' hc4 hb4 hq4
    walk_at "r2"
    refine ⟨?_, fun c6 H6 hc6 g6 h6 => ?_⟩
    · have b1 := flat_le hs (fun h => (toL h.2.2).reverse)
      have b2 := pil_len gk.cnt
      have b3 := rp4.len
      have b4 := e5.len
      unfold pil at b2 b3
      rw [List.length_map] at b3 b4
      rw [List.length_reverse] at b1
      have : 100000 ≤ sizeLine := by unfold sizeLine; decide
      rw [List.length_reverse]
      omega
    refine ⟨c6, _, _, _, _, (g4'.trans g5).trans g6, g6 _ _ hb5, g6 _ _ hq5, (fun z => by rw [z, hb5] at hc6; cases hc6), h6, (g4'.trans g5).free hc6, ?_, rfl⟩
    have := RpL.app e5.rev rp4
    unfold pil
    rw [flat_cut hs, List.map_append, List.map_reverse]
    exact this
  · obtain ⟨c, ps, v3, v4, v5, g4', hb4, hq4, nb4, hc4, hc0, rp4, rfl⟩ := z
    rw [List.take_of_length_le (by omega), pil_rev, List.map_reverse] at rp4
    clear h13 h23 h3 hq4
    walk_at "r2"
    refine ⟨WoI K (orP g) HB H p b1, ⟨_, c, ps, [], g.h.flatMap (fun h => toL h.2.2), [], v3, v4, v5, _, _, g4', hb4, nb4, hc4, hc0, rp4, .nil, by rw [List.nil_append]; exact (orP_toL g).symm, rfl, fun s hs => ?_, rfl⟩, fun m σ H5 z => ?_⟩
    · obtain ⟨h, mh, ms⟩ := List.mem_flatMap.mp hs
      exact ⟨6, Nat.le_refl _, (ok_toL _).mp (gk.hb h mh) s ms⟩
    obtain ⟨c, ps, zs, T, F, v3, v4, v5, v6, v7, g5, hb5, nb5, hc5, hc0, rp5, rz5, eO, rfl, okT, rfl⟩ := z
    clear hb4 hc4
    walk_at "r2"
    intro e6 H6 he6 g6 h6
    have lenT : (T.flatMap orS).length ≤ 1000 := by have := gk.cnt; rw [← eO, List.length_append] at this; omega
    have lT := len_orS T
    have lps := rp5.len
    rw [List.length_reverse, List.length_map] at lps
    have dT : ∀ d ∈ (T.map smD).reverse, DG 20 d := fun d hd => by
      rw [List.mem_reverse] at hd
      obtain ⟨s, ms, rfl⟩ := List.mem_map.mp hd
      obtain ⟨n, hn, ok⟩ := okT s ms
      exact dg_mono (sm_dg s n ok (Nat.le_trans (mem_flat_len ms) lenT)) (by omega)
    have eT : PyData.eqv (.list (T.map smD).reverse) (.list []) = T.isEmpty := by
      cases T with
      | nil => simp [PyData.eqv, PyData.eqvAll]
      | cons t T => rw [List.map_cons, List.reverse_cons]; cases (T.map smD).reverse <;> simp [PyData.eqv, PyData.eqvAll]
    refine ⟨.list (T.map smD).reverse, .list [], .lst (g6 _ _ hc5) (rp5.mono (g0.trans (g5.trans g6))), .lst h6 .nil, dg_sh (dg_lst dT (by rw [List.length_reverse, List.length_map]; omega)) (by decide), by decide, !T.isEmpty, by rw [eT], ?_⟩
    have hb6 := g6 _ _ hb5
    have hc6 := g6 _ _ hc5
    have g06 := g5.trans g6
    clear hb5 hc5 h6
    cases T with
    | nil =>
      refine iteF ?_
      rw [List.flatMap_nil, List.append_nil] at eO
      subst eO
      walk_at "r2"
    | cons t T =>
      refine iteT ?_
      refine ⟨WoN K (orP g) HB H p b1 ((t :: T).flatMap orS).length, fun _ _ z => z, ?_⟩
      rw [List.map_cons, List.reverse_cons] at rp5
      obtain ⟨n, hn, okt⟩ := okT t (List.mem_cons_self ..)
      obtain ⟨ps', tv, rfl, rp6, rt⟩ := RpL.snoc_inv rp5
      obtain ⟨tp, rfl⟩ : ∃ tp, tv = .ref tp := by
        obtain ⟨_, _, _, e, _⟩ := sm_kind ⟨[], [], [], []⟩ t okt
        rw [e] at rt
        cases rt; exact ⟨_, rfl⟩
      obtain ⟨xs, hx, nx, rx, lx⟩ := smD_cut okt rt
      walk_at "r2"
      refine ⟨⟨_, SqL.of hc6⟩, c, ps', .ref tp, rfl, rfl, hc6, fun H7 mu7 => ?_⟩
      have g07 := mu7.same g06 hc0
      have hb7 := mu7.old hb6 (Ne.symm nb5)
      have hc7 := mu7.at_
      clear hb6 hc6 mu7 g06 lps rp5 dT eT
      walk_at "r2"
      refine ⟨by
        have a1 := gk.cnt
        rw [← eO, List.length_append] at a1
        have a2 := rz5.len
        rw [List.length_map] at a2
        have : 100000 ≤ sizeLine := by unfold sizeLine; decide
        omega, fun H8 mu8 => ?_⟩
      have g08 := mu8.same g07 hb1
      have hb8 := mu8.at_
      have hc8 := mu8.old hc7 nb5
      have hx8 := g08 _ _ (g0 _ _ hx)
      clear hb7 hc7 mu8 g07
      walk_at "r2"
      refine tfor_in ?_
      simp only [iList]
      walk_at "r2"
      refine ⟨by have := List.length_pos_iff.mpr nx; omega, fun c9 H9 hc9 g9 h9 => ?_⟩
      have hb9 := g9 _ _ hb8
      have hc9' := g9 _ _ hc8
      have g09 := g08.trans g9
      generalize cutV xs (some 5) none = ys at h9 rx lx
      clear hb8 hc8 hx8 g08 g9
      walk_at "r2"
      refine ⟨by omega, fun qa H10 hqa g10 h10 => ?_⟩
      have rr := rx.rev
      rw [← List.map_reverse] at rr
      have ll := rr.len
      rw [List.length_map] at ll
      refine ⟨_, rfl, ⟨_, SqL.of h10⟩, for_list (xs := ys.reverse) (WpI K T (subs t).reverse HB H p b1 tp qa ys.reverse (zs ++ [.ref tp])) ⟨c, ps', _, _, _, _, g09.trans g10, g10 _ _ hb9, h10, nb5, g10 _ _ hc9', hc0, by rw [List.take_zero]; simpa using rp6, rfl⟩ (fun i σ H11 _ z => ?_) (fun i x σ H11 hx z => ?_) fun σ H11 z => ?_⟩
      · obtain ⟨_, _, _, _, _, _, _, _, z, _⟩ := z
        exact SqL.of z
      · obtain ⟨c, ps, v3, v4, v5, v7, g4', hb4, hq4, nb4, hc4, hc0, rp4, rfl⟩ := z
        obtain ⟨d, hd, rd⟩ := rr.get hx
        rw [List.getElem?_map] at hd
        obtain ⟨u, hs, rfl⟩ := Option.map_eq_some_iff.mp hd
        obtain ⟨ua, us, rfl, e4, e5⟩ := rd.lst_inv
        rw [bdD_toL] at e5
        have e4' := g4' _ _ (g0 _ _ e4)
        clear hb9 hc9' h10 h9
        walk_at "r2"
        intro r5 H5 hr5 g5 h5
        have hc5 := g5 _ _ hc4
        have hb5 := g5 _ _ hb4
        have hq5 := g5 _ _ hq4
        have b1 := flat_le hs (fun u => (toL u).reverse)
        have b2 := rp4.len
        have b3 := e5.len
        rw [rev_flat, List.length_reverse, List.length_reverse] at b1
        rw [List.length_append, List.length_reverse, List.length_map, List.length_map] at b2
        rw [List.length_map] at b3
        have b4 := len_orS ((subs t).flatMap toL)
        rw [← sub_flat] at b4
        rw [List.flatMap_cons, List.length_append, orS_subs, List.length_cons] at lenT
        have b5 := len_orS T
        have b6 : ps.length + us.reverse.length ≤ sizeLine := by
          rw [List.length_reverse, b3]
          have : 100000 ≤ sizeLine := by unfold sizeLine; decide
          omega
        clear e4' hc4 hb4 hq4 b1 b2 b3 b4 b5
        walk_at "r2"
        intro c6 H6 hc6 g6 h6
        refine ⟨c6, _, _, _, _, _, (g4'.trans g5).trans g6, g6 _ _ hb5, g6 _ _ hq5, (fun z => by rw [z, hb5] at hc6; cases hc6), h6, (g4'.trans g5).free hc6, ?_, rfl⟩
        rw [flat_cut hs, List.map_append, List.map_reverse, ← List.append_assoc]
        exact RpL.app e5.rev rp4
      · obtain ⟨c, ps, v3, v4, v5, v7, g4', hb4, hq4, nb4, hc4, hc0, rp4, rfl⟩ := z
        rw [List.take_of_length_le (by omega), rev_flat, List.map_reverse, ← List.reverse_append, ← List.map_append] at rp4
        rw [List.flatMap_cons, orS_subs, sub_flat] at eO
        refine ⟨_, ?_, c, ps, _, (subs t).flatMap toL ++ T, F ++ [t], _, _, _, _, _, g4', hb4, nb4, hc4, hc0, rp4, by rw [List.map_append]; exact RpL.app (.cons rt .nil) rz5, by rw [List.flatMap_append, ← eO]; simp, rfl, fun s hs => ?_, rfl⟩
        · rw [List.flatMap_append, ← sub_flat, List.flatMap_cons, orS_subs]; simp
        · rcases List.mem_append.mp hs with hs | hs
          · obtain ⟨u, mu, ms⟩ := List.mem_flatMap.mp hs
            obtain ⟨m, rfl, ou⟩ := sub_ok okt mu
            exact ⟨m, by omega, (ok_toL _).mp ou s ms⟩
          · exact okT s (List.mem_cons_of_mem _ hs)
end
end K14
set_option Elab.async false
set_option linter.all false
set_option maxRecDepth 100000
set_option maxHeartbeats 4000000
namespace K14
open PySem L2
theorem strs_inv {K : PySem.W.Frag} {H : Hp} {l : List Str} : ∀ {vs : List V}, RpL K H vs (l.map .str) → vs = l.map V.str := by
  induction l with
  | nil => intro vs t; cases t; rfl
  | cons x l ih => intro vs t; cases t with | cons h r => cases h; rw [ih r]; rfl
theorem strs_rpl {K : PySem.W.Frag} {H : Hp} (l : List Str) : RpL K H (l.map V.str) (l.map .str) := by
  induction l with
  | nil => exact .nil
  | cons x l ih => exact .cons (.str _) ih
theorem nodup_at {α β : Type} {f : α → β} {l : List α} (h : (l.map f).Nodup) {i j : Nat} {x : β} (hi : (l.map f)[i]? = some x) (hj : (l.map f)[j]? = some x) : i = j := by
  exact (List.getElem?_inj (List.getElem?_eq_some_iff.mp hi).1 h).mp (hi.trans hj.symm)
section
variable {P : Program} {w : World} {K : PySem.W.Frag} {mg : Str → Option Value} {base : Heap}
theorem parts_of {H : Hp} {p : Addr} {g : Pg} (r : Rp K H (.ref p) g.D) (gz : g.Sz) : ∃ xs : List V, H p = some (.tup xs) ∧ xs.length = 4 ∧ ∀ (i : Nat) (x : V), xs[i]? = some x → ∃ (c : Addr) (ys : List V) (l : List Str), x = .ref c ∧ H c = some (.lst ys) ∧ Ns H ys l ∧ (nmL g)[i]? = some l ∧ l.length ≤ 100 := by
  obtain ⟨a, b, c, d, ta, sa, ra, ha, h0, h1, h2, h3, h4, r1, r2, r3, r4⟩ := pg_of r
  refine ⟨_, h0, rfl, fun i x hx => ?_⟩
  rcases i with _ | _ | _ | _ | i
  · cases hx; exact ⟨_, _, _, rfl, h1, ns_ones r1, rfl, by rw [List.length_map]; exact gz.t⟩
  · cases hx; exact ⟨_, _, _, rfl, h2, ns_ones r2, rfl, by rw [List.length_map]; exact gz.s⟩
  · cases hx; exact ⟨_, _, _, rfl, h3, ns_ones r3, rfl, by rw [List.length_map]; exact gz.r⟩
  · cases hx; exact ⟨_, _, _, rfl, h4, ns_hands r4, rfl, by rw [List.length_map]; exact gz.h⟩
  · simp at hx
def lsD (l : List Str) : PyData := .list (l.map .str)
def DpP (K : PySem.W.Frag) (H1 : Hp) (g : Pg) (D : Addr) (i : Nat) (ys : List V) (σ1 : St) (H' : Hp) : Prop := RpL K (hide D (kp em H1 H')) ys (((nmL g).take i).map lsD) ∧ ∃ v0, σ1 = [v0]
def DmI (H0 : Hp) (l : List Hd) (σ0 : St) (d : Addr) (i : Nat) (σ : St) (H : Hp) : Prop := ∃ kvs v7 v8 v9, Same H0 H ∧ H d = some (.dK kvs) ∧ kvs.length ≤ i ∧ (∀ j h, j < i → l[j]? = some h → valV kvs (.inr h.1) = some (.int h.2.1.length)) ∧ σ = σ0 ++ [v7, v8, v9, none]
def DuS (K : PySem.W.Frag) (H0 : Hp) (b : Addr) (ds : List PyData) (σ0 : St) (σ : St) (H : Hp) : Prop := σ = σ0 ∧ ∃ zs, Same H0 H ∧ H b = some (.lst zs) ∧ RpL K H zs ds
def DuI (K : PySem.W.Frag) (H0 : Hp) (b : Addr) (N : Nms) (O : List Sm) (σ0 : St) (i : Nat) (σ : St) (H : Hp) : Prop := ∃ v10, DuS K H0 b ((O.take i).flatMap (flS N)) (σ0 ++ [v10]) σ H
theorem due_app {H0 H H4 H5 : Hp} {b p : Addr} {zs : List V} {ds : List PyData} {a x : Str} {k : Int} {σ : St} (g : Same H0 H) (hb0 : H0 b = none) (hb : H b = some (.lst zs)) (r : RpL K H zs ds) (F : ∀ d ∈ ds, IsF d) (g4 : Same H H4) (hp : H p = none)
    (h4 : H4 p = some (.tup [.str a, .int k, .str x])) (mu : Mu H4 b (.lst (zs ++ [.ref p])) H5) : DuS K H0 b (ds ++ [fT a k x]) σ σ H5 :=
  ⟨rfl, _, mu.same (g.trans g4) hb0, mu.at_, RpL.app (.cons (rp_fT (mu.old h4 fun z => by rw [z, hb] at hp; cases hp)) .nil) (rpl_mu mu (g4 _ _ hb) F (r.mono g4))⟩
theorem seq_ms {t u : TS} {D : Ends} {σ : St} {H : Hp} (Z : St → Hp → Prop) (h1 : ∀ D' : Ends, D'.nx = Z → t D' σ H) (h2 : ∀ σ' H', Z σ' H' → u D σ' H') : tSeq (tMs t) u D σ H := ⟨Z, h1 _ rfl, h2⟩
theorem ms_in {t : TS} {D : Ends} {σ : St} {H : Hp} (h1 : ∀ D' : Ends, D'.nx = D.nx → t D' σ H) : tMs t D σ H := ⟨D.nx, h1 _ rfl, fun _ _ z => z⟩
theorem du_if {H0 H : Hp} {b xp : Addr} {zs ts : List V} {B : List PyData} {k m : Int} {x kind : Str} {σ : St} {tc tt : TT} {u : TS} {D' : Ends} (cb db : Bool) (s10 : σ[10]? = some (some (.ref xp))) (s1 : σ[1]? = some (some (.ref b))) (gs : Same H0 H) (hb0 : H0 b = none)
    (hb : H b = some (.lst zs)) (r : RpL K H zs B) (FB : ∀ d ∈ B, IsF d) (lB : B.length ≤ 2000) (hxp : H0 xp = some (.tup ts)) (hk : atI ts 1 = some (.int k)) (hx : cb = true → atI ts m = some (.str x))
    (htc : ∀ H Q, Same H0 H → (∀ H', Same H H' → Q cb H') → tc σ H Q) (htt : cb = true → ∀ H Q, Same H0 H → (∀ H', Same H H' → Q db H') → tt σ H Q)
    (ho : ∀ H' zs', (cb && db) = false → Same H0 H' → H' b = some (.lst zs') → RpL K H' zs' B → u D' σ H') (ha : (cb && db) = true → ∀ H', DuS K H0 b (B ++ [fT kind k x]) σ σ H' → D'.nx σ H') :
    tIfS (tAnd tc tt) (tDrop (tAppG (tVar 1) (tTupG (tCons (tC (.str kind)) (tCons (tOp rIxG (tVar 10) (tC (.int 1))) (tCons (tOp rIxG (tVar 10) (tC (.int m))) tNil)))))) u D' σ H := by
  refine htc H _ gs fun H1 g1 => ?_
  cases cb with
  | false => exact ho H1 zs rfl (gs.trans g1) (g1 _ _ hb) (r.mono g1)
  | true =>
    refine htt rfl H1 _ (gs.trans g1) fun H2 g2 => ?_
    have hx := hx rfl
    have g12 := g1.trans g2
    have h2 := g12 _ _ hb
    have x2 := g12 _ _ (gs _ _ hxp)
    have gs2 := gs.trans g12
    have r2 := r.mono g12
    clear hb gs r htc htt g1 g2 g12
    cases db with
    | false => exact ho H2 zs rfl gs2 h2 r2
    | true =>
      refine iteT ?_
      walk_at "r2"
      intro p3 H3 hp3 g3 h3
      have h23 := g3 _ _ h2
      walk_at "r2"
      have := r2.len
      refine ⟨by unfold sizeLine; omega, fun H4 mu => ha rfl H4 (due_app gs2 hb0 h2 r2 FB g3 hp3 h3 mu)⟩
theorem tc_in {H0 : Hp} {xp : Addr} {ts : List V} {wd wa wb : Str} {σ : St} (s10 : σ[10]? = some (some (.ref xp))) (hxp : H0 xp = some (.tup ts)) (h0 : atI ts 0 = some (.str wd)) (H : Hp) (Q : Bool → Hp → Prop) (g : Same H0 H) (q : ∀ H', Same H H' → Q (decide (wa = wd) || decide (wb = wd)) H') :
    tTest (tOp (rInG false) (tOp rIxG (tVar 10) (tC (.int 0))) (tLstG (tCons (tC (.str wa)) (tCons (tC (.str wb)) tNil)))) σ H Q := by
  have x1 := g _ _ hxp
  walk_at "r2"
  intro p1 H1 hp1 g1 h1
  have x2 := g1 _ _ x1
  walk_at "r2"
theorem tc_eq {H0 : Hp} {xp : Addr} {ts : List V} {wd wa : Str} {σ : St} (s10 : σ[10]? = some (some (.ref xp))) (hxp : H0 xp = some (.tup ts)) (h0 : atI ts 0 = some (.str wd)) (H : Hp) (Q : Bool → Hp → Prop) (g : Same H0 H) (q : ∀ H', Same H H' → Q (decide (wd = wa)) H') :
    tTest (tOp rEq (tOp rIxG (tVar 10) (tC (.int 0))) (tC (.str wa))) σ H Q := by
  have x1 := g _ _ hxp
  walk_at "r2"
  exact q H (Same.refl _)
theorem tt_in {H0 : Hp} {xp c : Addr} {ts : List V} {l : List Str} {x : Str} {m : Int} {j : Nat} {σ : St} (s10 : σ[10]? = some (some (.ref xp))) (sj : σ[j]? = some (some (.ref c))) (hxp : H0 xp = some (.tup ts)) (hc : H0 c = some (.lst (l.map V.str))) (h0 : atI ts m = some (.str x)) (H : Hp) (Q : Bool → Hp → Prop) (g : Same H0 H) (q : ∀ H', Same H H' → Q (!decide (x ∈ l)) H') :
    tTest (tOp (rInG true) (tOp rIxG (tVar 10) (tC (.int m))) (tVar j)) σ H Q := by
  have x1 := g _ _ hxp
  have x2 := g _ _ hc
  walk_at "r2"
  exact ⟨all_flat l, _, by rw [if_pos rfl, inV_strs], q H (Same.refl _)⟩
theorem tt_num {H0 : Hp} {xp d e : Addr} {ts ev : List V} {kvs : List (Key × V)} {x : Str} {n : Nat} {σ : St} (s10 : σ[10]? = some (some (.ref xp))) (s6 : σ[6]? = some (some (.ref d))) (hxp : H0 xp = some (.tup ts)) (hd : H0 d = some (.dK kvs)) (hv : valV kvs (.inr x) = some (.int n)) (h2 : atI ts 2 = some (.str x)) (h3 : atI ts 3 = some (.ref e)) (he : H0 e = some (.lst ev)) (H : Hp) (Q : Bool → Hp → Prop) (g : Same H0 H) (q : ∀ H', Same H H' → Q (!decide (n = ev.length)) H') :
    tTest (tOp rNe (tDGetG (tVar 6) (tOp rIxG (tVar 10) (tC (.int 2)))) (tCB rLenG (tCons (tOp rIxG (tVar 10) (tC (.int 3))) tNil))) σ H Q := by
  have x1 := g _ _ hxp
  have x2 := g _ _ hd
  have x3 := g _ _ he
  walk_at "r2"
  rw [show decide ((n : Int) = (ev.length : Int)) = decide (n = ev.length) from decide_eq_decide.mpr Int.ofNat_inj]
  exact q H (Same.refl _)
theorem du_step {H0 H : Hp} {b xp ca : Addr} {zs ts : List V} {B fl : List PyData} {k m : Int} {kind : Str} {l : List Str} {j : Nat} {σ : St} {tc : TT} {D' : Ends} {c : Prop} [Decidable c] (s10 : σ[10]? = some (some (.ref xp))) (s1 : σ[1]? = some (some (.ref b))) (sj : σ[j]? = some (some (.ref ca))) (gs : Same H0 H) (hb0 : H0 b = none)
    (hb : H b = some (.lst zs)) (r : RpL K H zs B) (FB : ∀ d ∈ B, IsF d) (lB : B.length ≤ 2000) (hxp : H0 xp = some (.tup ts)) (hc : H0 ca = some (.lst (l.map V.str))) (hk : atI ts 1 = some (.int k))
    (htc : ∀ H Q, Same H0 H → (∀ H', Same H H' → Q (decide c) H') → tc σ H Q) (hx : c → ∃ x, atI ts m = some (.str x) ∧ fl = flt kind k x l) (eD : D'.nx = DuS K H0 b (B ++ if c then fl else []) σ) :
    tIfS (tAnd tc (tTest (tOp (rInG true) (tOp rIxG (tVar 10) (tC (.int m))) (tVar j)))) (tDrop (tAppG (tVar 1) (tTupG (tCons (tC (.str kind)) (tCons (tOp rIxG (tVar 10) (tC (.int 1))) (tCons (tOp rIxG (tVar 10) (tC (.int m))) tNil)))))) tNext D' σ H := by
  by_cases h : c
  · obtain ⟨x, a2, ef⟩ := hx h
    rw [decide_eq_true h] at htc
    rw [if_pos h, ef] at eD
    refine du_if (x := x) true (!decide (x ∈ l)) s10 s1 gs hb0 hb r FB lB hxp hk (fun _ => a2) htc (fun _ => tt_in s10 sj hxp hc a2) (fun H' zs' z g7 h7 r7 => ?_) fun z H' hz => ?_
    · rw [tNext, eD]
      have : x ∈ l := by simpa using z
      exact ⟨rfl, zs', g7, h7, by unfold flt; rw [if_pos this, List.append_nil]; exact r7⟩
    · rw [eD]
      have : x ∉ l := by simpa using z
      unfold flt; rw [if_neg this]; exact hz
  · rw [decide_eq_false h] at htc
    rw [if_neg h, List.append_nil] at eD
    refine du_if (x := kind) false false s10 s1 gs hb0 hb r FB lB hxp hk (fun z => by cases z) htc (fun z => by cases z) (fun H' zs' z g7 h7 r7 => ?_) fun z => by cases z
    rw [tNext, eD]
    exact ⟨rfl, zs', g7, h7, r7⟩
theorem isF_more {B fl : List PyData} {c : Prop} [Decidable c] (FB : ∀ d ∈ B, IsF d) (ff : ∀ d ∈ fl, IsF d) : ∀ d ∈ B ++ (if c then fl else []), IsF d := fun d hd => by
  rcases List.mem_append.mp hd with h | h
  · exact FB d h
  · split at h
    · exact ff d h
    · cases h
theorem len_more {B fl : List PyData} {c : Prop} [Decidable c] {n : Nat} (lB : B.length ≤ n) (lf : fl.length ≤ 1) : (B ++ (if c then fl else [])).length ≤ n + 1 := by
  rw [List.length_append]
  split
  · omega
  · simp; omega
theorem num_of {hs : List Hd} (nd : (hs.map (·.1)).Nodup) {h : Hd} (mh : h ∈ hs) (n : Nat) : n ∈ ((hnN hs).filter fun p => decide (p.1 = h.1)).map (·.2) ↔ h.2.1.length = n := by
  constructor
  · intro z
    obtain ⟨p, mp, rfl⟩ := List.mem_map.mp z
    obtain ⟨mp, ep⟩ := List.mem_filter.mp mp
    obtain ⟨h', mh', rfl⟩ := List.mem_map.mp mp
    obtain ⟨i, hi, ei⟩ := List.mem_iff_getElem.mp mh
    obtain ⟨j, hj, ej⟩ := List.mem_iff_getElem.mp mh'
    have e1 : h'.1 = h.1 := of_decide_eq_true ep
    have : i = j := nodup_at nd (x := h.1) (by rw [List.getElem?_map, List.getElem?_eq_getElem hi, ei]; rfl) (by rw [List.getElem?_map, List.getElem?_eq_getElem hj, ej]; exact congrArg some e1)
    subst this
    rw [← ei, ej]
  · intro z
    exact List.mem_map.mpr ⟨(h.1, h.2.1.length), List.mem_filter.mpr ⟨List.mem_map.mpr ⟨h, mh, rfl⟩, decide_eq_true rfl⟩, z⟩
theorem gn_eq {i : Nat} {v : V} {σ σ0 : St} {H : Hp} {Q : St → Hp → Prop} (e : σ.set i (some v) = σ0) (h : Q σ0 H) : gName i v σ H Q := by subst e; exact h
def spDu (K : PySem.W.Frag) : Sp := fun vs H Q _ => ∃ (p : Addr) (g : Pg), vs = [.ref p] ∧ Rp K H (.ref p) g.D ∧ g.Ok ∧ ∀ (b' : Addr) (H' : Hp) (zs : List V), H b' = none → Same H H' → H' b' = some (.lst zs) → RpL K H' zs (flP g) → Q (.ref b') H'
theorem ok_du (D : DefAt K mg "_law_due" s__law_due ["program"]) (hlen : mg "len" = none) (G__law_in_order : OkD P w K mg base 1 "_law_in_order" ["program"] (spIo K)) : OkD P w K mg base 2 "_law_due" ["program"] (spDu K) := by
  refine D.ok sc__law_due (fun vs H Q E h => ?_) (fun f cdv A outer s H vs Q E hr h => ?_)
  · obtain ⟨_, _, rfl, _⟩ := h; rfl
  obtain ⟨p, g, rfl, rg, gk, q⟩ := h
  have hu := hu_of hr
  refine ⟨_, (pss_cons (ps_set (i := 1) sc__law_due.nd rfl (Or.inl rfl) (pe_lstG pa_nil))
  (pss_cons (ps_asg (pe_compN (comp_scopeN 1 (N := ["part"]) (cap := []) rfl rfl rfl rfl (by decide +kernel) rfl rfl rfl) rfl (pi_tup (pv 0)) (fun _ _ _ _ => (pg_name (i := 0) (show List.Nodup (α := Str) ["part"] by decide +kernel) rfl (Or.inl (lookup_relabel_local rfl)) (Or.inr (lookup_relabel_local rfl)))) (fun _ _ _ _ => pts_nil) (fun _ _ _ _ => show PE _ _ (tCompN 1 [] (iList K (tVar 0)) (gName 0) tYes (tOp rIxG (tVar 0) (tC (V.int 0)))) from (pe_compN (comp_scopeN 1 (N := ["one"]) (cap := []) rfl rfl rfl rfl (by decide +kernel) rfl rfl rfl) rfl (pi_list (pv 0)) (fun _ _ _ _ => (pg_name (i := 0) (show List.Nodup (α := Str) ["one"] by decide +kernel) rfl (Or.inl (lookup_relabel_local rfl)) (Or.inr (lookup_relabel_local rfl)))) (fun _ _ _ _ => pts_nil) (fun _ _ _ _ => (pe_ix ix_g (pv 0) pe_int (fun _ _ => rfl)))))) (pg_lstG 4 rfl (pgs_cons (pg_name (i := 2) sc__law_due.nd rfl (Or.inl rfl)) (pgs_cons (pg_name (i := 3) sc__law_due.nd rfl (Or.inl rfl)) (pgs_cons (pg_name (i := 4) sc__law_due.nd rfl (Or.inl rfl)) (pgs_cons (pg_name (i := 5) sc__law_due.nd rfl (Or.inl rfl)) pgs_nil))))))
  (pss_cons (ps_set (i := 6) sc__law_due.nd rfl (Or.inl rfl) pe_dnewG)
  (pss_cons (ps_for PassesOwn.never rfl (pi_list (pe_ix ix_g (pv 0) pe_int (fun _ _ => rfl))) (pg_tupG 3 rfl (pgs_cons (pg_name (i := 7) sc__law_due.nd rfl (Or.inl rfl)) (pgs_cons (pg_name (i := 8) sc__law_due.nd rfl (Or.inl rfl)) (pgs_cons (pg_name (i := 9) sc__law_due.nd rfl (Or.inl rfl)) pgs_nil))))
  (pss_one (ps_dputG2 hu (pv 6) (pv 7) (pe_cB call_lenG rfl hlen PySem.boot_len (pa_c (pv 8) pa_nil)))))
  (pss_cons (ps_for PassesOwn.never rfl (pi_list (pe_def G__law_in_order hr rfl (pa_c (pv 0) pa_nil))) (pg_name (i := 10) sc__law_due.nd rfl (Or.inl rfl))
  (pss_cons (ps_up (ps_if (PW.pt (pw_and (pt_cmpR op_inG (pe_ix ix_g (pv 10) pe_int (fun _ _ => rfl)) (pe_lstG (pa_c pe_str (pa_c pe_str pa_nil))) (by with_unfolding_all rfl)) (pw_and1 (pt_cmpR op_notInG (pe_ix ix_g (pv 10) pe_int (fun _ _ => rfl)) (pv 2) (by with_unfolding_all rfl)))))
  (pss_one (ps_expr (pe_appG (pv 1) (pe_tupG (pa_c pe_str (pa_c (pe_ix ix_g (pv 10) pe_int (fun _ _ => rfl)) (pa_c (pe_ix ix_g (pv 10) pe_int (fun _ _ => rfl)) pa_nil)))))))
  pss_nil))
  (pss_cons (ps_up (ps_if (PW.pt (pw_and (pt_cmpR op_inG (pe_ix ix_g (pv 10) pe_int (fun _ _ => rfl)) (pe_lstG (pa_c pe_str (pa_c pe_str pa_nil))) (by with_unfolding_all rfl)) (pw_and1 (pt_cmpR op_notInG (pe_ix ix_g (pv 10) pe_int (fun _ _ => rfl)) (pv 3) (by with_unfolding_all rfl)))))
  (pss_one (ps_expr (pe_appG (pv 1) (pe_tupG (pa_c pe_str (pa_c (pe_ix ix_g (pv 10) pe_int (fun _ _ => rfl)) (pa_c (pe_ix ix_g (pv 10) pe_int (fun _ _ => rfl)) pa_nil)))))))
  pss_nil))
  (pss_cons (ps_up (ps_if (PW.pt (pw_and (pt_cmpR op_eq (pe_ix ix_g (pv 10) pe_int (fun _ _ => rfl)) pe_str (nomark _)) (pw_and1 (pt_cmpR op_notInG (pe_ix ix_g (pv 10) pe_int (fun _ _ => rfl)) (pv 4) (by with_unfolding_all rfl)))))
  (pss_one (ps_expr (pe_appG (pv 1) (pe_tupG (pa_c pe_str (pa_c (pe_ix ix_g (pv 10) pe_int (fun _ _ => rfl)) (pa_c (pe_ix ix_g (pv 10) pe_int (fun _ _ => rfl)) pa_nil)))))))
  pss_nil))
  (pss_one (ps_up (ps_if (PW.pt (pw_and (pt_cmpR op_eq (pe_ix ix_g (pv 10) pe_int (fun _ _ => rfl)) pe_str (nomark _)) (pw_and1 (pt_cmpR op_notInG (pe_ix ix_g (pv 10) pe_int (fun _ _ => rfl)) (pv 5) (by with_unfolding_all rfl)))))
  (pss_one (ps_expr (pe_appG (pv 1) (pe_tupG (pa_c pe_str (pa_c (pe_ix ix_g (pv 10) pe_int (fun _ _ => rfl)) (pa_c (pe_ix ix_g (pv 10) pe_int (fun _ _ => rfl)) pa_nil)))))))
  (pss_one (ps_up (ps_if (PW.pt (pw_and (pt_cmpR op_eq (pe_ix ix_g (pv 10) pe_int (fun _ _ => rfl)) pe_str (nomark _)) (pw_and1 (pt_cmpR op_ne (pe_dgetG hu (pv 6) (pe_ix ix_g (pv 10) pe_int (fun _ _ => rfl)) (fun _ _ => rfl)) (pe_cB call_lenG rfl hlen PySem.boot_len (pa_c (pe_ix ix_g (pv 10) pe_int (fun _ _ => rfl)) pa_nil)) (nomark _)))))
  (pss_one (ps_expr (pe_appG (pv 1) (pe_tupG (pa_c pe_str (pa_c (pe_ix ix_g (pv 10) pe_int (fun _ _ => rfl)) (pa_c (pe_ix ix_g (pv 10) pe_int (fun _ _ => rfl)) pa_nil)))))))
  pss_nil))))))))))
  (pss_one (ps_ret (pv 1)))))))), ?_⟩
  obtain ⟨xs, hp, lx, hps⟩ := parts_of rg gk.sz
  walk_at "r2"
  intro b1 H1 hb1 g1 h1
  have hp1 := g1 _ _ hp
  walk_at "r2"
  refine tcomp_in ?_
  simp only [iTup]
  walk_at "r2"
  refine ⟨⟨_, SqT.of hp1⟩, compJD over_tup (fun H g => g _ _ hp1) (by unfold sizeLine; omega) (DpP K H1 g) (fun D H' _ _ _ => ⟨.nil, _, rfl⟩) ?_ ?_⟩
  · intro D i x ys σ1 H2 hx at1 z
    obtain ⟨ry, v0, rfl⟩ := z
    obtain ⟨pc, zs, l, rfl, hc, ns, hl, ll⟩ := hps i x hx
    have g2 := g1.trans at1.same
    have hc2 := g2 _ _ hc
    have ns2 := ns.mono fun c y => g2 c _
    clear hp1 h1
    walk_at "r2"
    refine tcomp_in ?_
    simp only [iList]
    walk_at "r2"
    refine ⟨⟨_, SqL.of hc2⟩, compJ_nm hc2 ns2 (by omega) fun D3 H3 hD3 g3 h3 => ?_⟩
    refine at1.put g3 fun H5 mu => ⟨?_, _, rfl⟩
    rw [take_snoc hl, List.map_append]
    have n3 : D3 ≠ D := fun z => by rw [z, at1.lst] at hD3; cases hD3
    exact RpL.app (.cons (.lst (hide_of n3 (kp_new (at1.same.free hD3) (mu.old h3 n3))) (strs_rpl l)) .nil) (ry.mono (kp_own g3 mu))
  · intro D ys σ1 H2 hD g2 hy _ z
    rw [DpP, List.take_of_length_le (by rw [lx]; exact Nat.le_refl _)] at z
    obtain ⟨ry, _⟩ := z
    have ry2 := ry.mono hide_le
    cases ry2 with
    | cons a0 r => cases r with
      | cons a1 r => cases r with
        | cons a2 r => cases r with
          | cons a3 r =>
            cases r
            obtain ⟨c0, x0, rfl, h0, s0⟩ := a0.lst_inv
            obtain ⟨c1, x1, rfl, h1', s1⟩ := a1.lst_inv
            obtain ⟨c2, x2, rfl, h2, s2⟩ := a2.lst_inv
            obtain ⟨c3, x3, rfl, h3, s3⟩ := a3.lst_inv
            cases strs_inv s0; cases strs_inv s1; cases strs_inv s2; cases strs_inv s3
            have nb1 : ∀ {c o}, kp em H1 H2 c = some o → c ≠ b1 := fun {c o} h z => by
              obtain ⟨h, _⟩ := kp_inv h
              rcases h with ⟨_, h⟩ | h
              · cases h
              · rw [z, h1] at h; cases h
            have hi0 := nb1 h0
            have hi1 := nb1 h1'
            have hi2 := nb1 h2
            have hi3 := nb1 h3
            have h0 := kp_le _ _ h0
            have h1' := kp_le _ _ h1'
            have h2 := kp_le _ _ h2
            have h3 := kp_le _ _ h3
            have hb2 := g2 _ _ h1
            clear h1 hp1
            walk_at "r2"
            intro d3 H3 hd3 g3 h3d
            have g13 := (g1.trans g2).trans g3
            have j0 := h0
            have j1 := h1'
            have j2 := h2
            have j3 := h3
            have jb := hb2
            have k0 := g3 _ _ h0
            have k1 := g3 _ _ h1'
            have k2 := g3 _ _ h2
            have k3 := g3 _ _ h3
            have hb3 := g3 _ _ hb2
            have hd0 := (g1.trans g2).free hd3
            clear h0 h1' h2 h3 hb2 hy
            obtain ⟨ia, ib, ic, id, _, _, _, ha, z0, _, _, _, z4, _, _, _, r4⟩ := pg_of rg
            have z03 := g13 _ _ z0
            walk_at "r2"
            refine tfor_in ?_
            simp only [iList]
            walk_at "r2"
            have ll := r4.len
            rw [List.length_map] at ll
            clear z03
            have big : 100000 ≤ sizeLine := by unfold sizeLine; decide
            have nd3 : ∀ {c o}, H2 c = some o → c ≠ d3 := fun {c o} h z => by rw [z, hd3] at h; cases h
            refine ⟨⟨_, SqL.of (g13 _ _ z4)⟩, for_list (xs := ha) (DmI H2 g.h [some (V.ref p), some (V.ref b1), some (V.ref c0), some (V.ref c1), some (V.ref c2), some (V.ref c3), some (V.ref d3)] d3) ⟨[], _, _, _, g3, h3d, Nat.le_refl _, fun j h z => absurd z (Nat.not_lt_zero _), rfl⟩ (fun i σ H4 _ z => ?_) (fun i x σ H4 hx z => ?_) fun σ H4 z => ?_⟩
            · obtain ⟨_, _, _, _, g4, _⟩ := z
              exact SqL.of (g4 _ _ ((g1.trans g2) _ _ z4))
            · obtain ⟨kvs, v7, v8, v9, g4, h4, l4, v4, rfl⟩ := z
              obtain ⟨d, hd, rd⟩ := r4.get hx
              rw [List.getElem?_map] at hd
              obtain ⟨hh, hs, rfl⟩ := Option.map_eq_some_iff.mp hd
              obtain ⟨xp, np, bp, nv, rfl, e1, e2, e3, e4⟩ := hd_of rd
              have e1' := g4 _ _ ((g1.trans g2) _ _ e1)
              have e2' := g4 _ _ ((g1.trans g2) _ _ e2)
              cases strs_inv e3
              clear k0 k1 k2 k3 hb3 h3d
              walk_at "r2"
              have hi : i < g.h.length := (List.getElem?_eq_some_iff.mp hs).1
              have g100 := gk.sz.h
              refine ⟨by omega, fun H5 mu => ?_⟩
              refine ⟨_, _, _, _, mu.same g4 hd3, mu.at_, ?_, fun j h hj hg => ?_, rfl⟩
              · have := length_putK kvs (.inr hh.1) (.int ((hh.2.1.map V.str).length)); omega
              · rw [valV_put]
                by_cases c : j = i
                · subst c
                  rw [hs] at hg
                  cases hg
                  rw [if_pos rfl, List.length_map]
                · rw [if_neg, v4 j h (by omega) hg]
                  intro z
                  have z' : h.1 = hh.1 := Sum.inr.inj z
                  exact c (nodup_at gk.nd (by rw [List.getElem?_map, hg]; rfl) (by rw [List.getElem?_map, hs]; exact congrArg some z'.symm))
            · obtain ⟨kvs, v7, v8, v9, g4, h4, l4, v4, rfl⟩ := z
              rw [ll] at v4
              have m0 := g4 _ _ j0
              have m1 := g4 _ _ j1
              have m2 := g4 _ _ j2
              have m3 := g4 _ _ j3
              have hb4 := g4 _ _ jb
              have g04 := (g1.trans g2).trans g4
              clear k0 k1 k2 k3 hb3 h3d j0 j1 j2 j3
              simp only [List.cons_append, List.nil_append]
              walk_at "r2"
              refine tfor_in ?_
              simp only [iList]
              walk_at "r2"
              refine ⟨_, g, H, rfl, g04, rg, gk, fun o5 H5 zs5 ho5 g5 h5 r5 => ⟨_, rfl, ⟨_, SqL.of h5⟩, ?_⟩⟩
              have nb : ∀ {c o}, H5 c = some o → c ≠ b1 → hide b1 H5 c = some o := fun h n => hide_of n h
              have n0 := nb (g5 _ _ m0) hi0
              have n1 := nb (g5 _ _ m1) hi1
              have n2 := nb (g5 _ _ m2) hi2
              have n3 := nb (g5 _ _ m3) hi3
              have nd := nb (g5 _ _ h4) (fun z => by rw [z, jb] at hd3; cases hd3)
              have no := nb h5 (fun z => by rw [z, hb4] at ho5; cases ho5)
              have rs : RpL K (hide b1 H5) zs5 ((orP g).map smD) := r5.mono fun a u e => hide_of (ne_of_none e hb1) (g5 _ _ (g04 _ _ e))
              have hb5 := g5 _ _ hb4
              have gH : Same H (hide b1 H5) := fun a u e => hide_of (ne_of_none e hb1) (g5 _ _ (g04 _ _ e))
              have hb0 : hide b1 H5 b1 = none := by unfold hide; rw [if_pos rfl]
              have l5 := rs.len
              rw [List.length_map] at l5
              have dkv : ∀ h ∈ g.h, valV kvs (.inr h.1) = some (.int h.2.1.length) := fun h mh => by
                obtain ⟨j, hj, rfl⟩ := List.mem_iff_getElem.mp mh
                exact v4 j _ hj (List.getElem?_eq_getElem hj)
              clear hi0 hi1 hi2 hi3 nb1 m0 m1 m2 m3 h5 hb4 r5 h4 v4 jb nb r4 z0 z4 hps hp ry a0 a1 a2 a3 s0 s1 s2 s3 nd3
              have fin : ∀ H', Same (hide b1 H5) H' → Same H H' := fun H' h => gH.trans h
              have sH : Same (hide b1 H5) H5 := hide_le
              generalize hide b1 H5 = HH at *
              refine for_list (xs := zs5) (DuI K HH b1 g.N (orP g) [some (V.ref p), some (V.ref b1), some (V.ref c0), some (V.ref c1), some (V.ref c2), some (V.ref c3), some (V.ref d3), v7, v8, v9]) ⟨_, rfl, [], ?_, hb5, .nil⟩ (fun i σ H6 _ z => ?_) (fun i x σ H6 hx z => ?_) fun σ H6 z => ?_
              · exact sH
              · obtain ⟨_, _, _, z, _⟩ := z
                exact SqL.of (z _ _ no)
              · obtain ⟨v10, rfl, zs, g6, h6, r6⟩ := z
                obtain ⟨d, hd, rd⟩ := rs.get hx
                rw [List.getElem?_map] at hd
                obtain ⟨sm, hs, rfl⟩ := Option.map_eq_some_iff.mp hd
                obtain ⟨n, ok⟩ := orP_ok gk (List.mem_of_getElem? hs)
                obtain ⟨wd, k, r, e, k1, k2, k3, k4, k5⟩ := sm_kind g.N sm ok
                obtain ⟨xp, xs, rfl, hxp, rx⟩ : ∃ xp xs, x = .ref xp ∧ HH xp = some (.tup (.str wd :: .int k :: xs)) ∧ RpL K HH xs r := by
                  rw [e] at rd
                  cases rd with | tup a b => cases b with | cons b c => cases c with | cons c d => cases b; cases c; exact ⟨_, _, rfl, a, d⟩
                have hx2 : ∀ x e, r = [.str x, e] → ∃ ev, xs = [.str x, ev] ∧ Rp K HH ev e := fun x e z => by
                  subst z
                  cases rx with | cons a b => cases b with | cons b c => cases c; cases a; exact ⟨_, rfl, b⟩
                have F6 : ∀ d ∈ ((orP g).take i).flatMap (flS g.N), IsF d := fun d => flO_F
                have lb : (((orP g).take i).flatMap (flS g.N)).length ≤ 1000 := Nat.le_trans (flat_pre _ _) (by rw [← flP_or]; exact Nat.le_trans (flP_len g) gk.cnt)
                unfold DuI
                rw [flat_cut hs]
                generalize ((orP g).take i).flatMap (flS g.N) = B at *
                simp only [List.cons_append, List.nil_append]
                have t6 := g6 _ _ hxp
                have gnd := gk.nd
                clear hd hx rd hs q rg gk hb5 fin
                have x1 : wd ∈ tkW → wd ∉ ptW ∧ wd ≠ Str.ofString "draw" ∧ wd ≠ Str.ofString "start" := by
                  have : ∀ x ∈ tkW, x ∉ ptW ∧ x ≠ Str.ofString "draw" ∧ x ≠ Str.ofString "start" := by with_unfolding_all decide
                  exact this wd
                have x2 : wd ∈ ptW → wd ∉ tkW ∧ wd ≠ Str.ofString "draw" ∧ wd ≠ Str.ofString "start" := by
                  have : ∀ x ∈ ptW, x ∉ tkW ∧ x ≠ Str.ofString "draw" ∧ x ≠ Str.ofString "start" := by with_unfolding_all decide
                  exact this wd
                have x3 : Str.ofString "draw" ≠ Str.ofString "start" := by with_unfolding_all decide
                obtain ⟨σ0, eσ⟩ : ∃ σ0, σ0 = [some (V.ref p), some (V.ref b1), some (V.ref c0), some (V.ref c1), some (V.ref c2), some (V.ref c3), some (V.ref d3), v7, v8, v9, some (V.ref xp)] := ⟨_, rfl⟩
                have s10 : σ0[10]? = some (some (.ref xp)) := by rw [eσ]; rfl
                have s1 : σ0[1]? = some (some (.ref b1)) := by rw [eσ]; rfl
                have s2 : σ0[2]? = some (some (.ref c0)) := by rw [eσ]; rfl
                have s3 : σ0[3]? = some (some (.ref c1)) := by rw [eσ]; rfl
                have s4 : σ0[4]? = some (some (.ref c2)) := by rw [eσ]; rfl
                have s5 : σ0[5]? = some (some (.ref c3)) := by rw [eσ]; rfl
                have s6 : σ0[6]? = some (some (.ref d3)) := by rw [eσ]; rfl
                have fin : ∀ H', DuS K HH b1 (B ++ flS g.N sm) σ0 σ0 H' → ∃ v10, DuS K HH b1 (B ++ flS g.N sm) ([some (V.ref p), some (V.ref b1), some (V.ref c0), some (V.ref c1), some (V.ref c2), some (V.ref c3), some (V.ref d3), v7, v8, v9] ++ [v10]) σ0 H' := fun H' z => ⟨some (.ref xp), eσ, z.2⟩
                clear t6
                refine gn_eq (σ0 := σ0) (by rw [eσ]; rfl) ?_
                have a0 : atI (V.str wd :: V.int k :: xs) 0 = some (.str wd) := atI_0
                have a1 : atI (V.str wd :: V.int k :: xs) 1 = some (.int k) := atI_1
                have fS := fun d => flS_F (N := g.N) (s := sm) (d := d)
                have lS := flS_len g.N sm
                have e3 : ∀ x e, r = [.str x, e] → atI (V.str wd :: V.int k :: xs) 2 = some (.str x) := fun x e z => by
                  obtain ⟨ev, rfl, _⟩ := hx2 x e z
                  exact atI_2
                clear eσ
                refine seq_ms (DuS K HH b1 (B ++ if wd ∈ tkW then flS g.N sm else []) σ0) (fun D' eD => ?_) ?_
                · refine du_step s10 s1 s2 g6 hb0 h6 r6 F6 (by omega) hxp n0 a1 (fun H Q g q => tc_in s10 hxp a0 H Q g (by rw [Bool.eq_iff_iff.mpr (or_mem.trans decide_eq_true_iff.symm)]; exact q)) (fun c => ?_) eD
                  obtain ⟨x, e', er, ef⟩ := k1 c
                  exact ⟨x, e3 x e' er, ef⟩
                have F7 := isF_more (c := wd ∈ tkW) F6 fS
                have l7 := len_more (c := wd ∈ tkW) lb lS
                generalize hB1 : (B ++ if wd ∈ tkW then flS g.N sm else []) = B1 at F7 l7
                clear h6 r6 g6
                rintro σ' H7 ⟨rfl, zs, g7, h7, r7⟩
                refine seq_ms (DuS K HH b1 (B1 ++ if wd ∈ ptW then flS g.N sm else []) σ') (fun D' eD => ?_) ?_
                · refine du_step s10 s1 s3 g7 hb0 h7 r7 F7 (by omega) hxp n1 a1 (fun H Q g q => tc_in s10 hxp a0 H Q g (by rw [Bool.eq_iff_iff.mpr (or_mem.trans decide_eq_true_iff.symm)]; exact q)) (fun c => ?_) eD
                  obtain ⟨x, e', er, ef⟩ := k2 c
                  exact ⟨x, e3 x e' er, ef⟩
                have F8 := isF_more (c := wd ∈ ptW) F7 fS
                have l8 := len_more (c := wd ∈ ptW) l7 lS
                generalize hB2 : (B1 ++ if wd ∈ ptW then flS g.N sm else []) = B2 at F8 l8
                clear h7 r7 g7
                rintro σ' H8 ⟨rfl, zs, g8, h8, r8⟩
                refine seq_ms (DuS K HH b1 (B2 ++ if wd = Str.ofString "draw" then flS g.N sm else []) σ') (fun D' eD => ?_) ?_
                · refine du_step s10 s1 s4 g8 hb0 h8 r8 F8 (by omega) hxp n2 a1 (fun H Q g q => tc_eq s10 hxp a0 H Q g q) (fun c => ?_) eD
                  obtain ⟨a, x, er, ef⟩ := k3 c
                  obtain ⟨ev, rfl, rv⟩ := hx2 a _ er
                  cases rv
                  exact ⟨x, atI_3, ef⟩
                have F9 := isF_more (c := wd = Str.ofString "draw") F8 fS
                have l9 := len_more (c := wd = Str.ofString "draw") l8 lS
                generalize hB3 : (B2 ++ if wd = Str.ofString "draw" then flS g.N sm else []) = B3 at F9 l9
                clear h8 r8 g8
                rintro σ' H9 ⟨rfl, zs, g9, h9, r9⟩
                refine ms_in fun D' eD => ?_
                have eD : D'.nx = fun σ H => ∃ v10, DuS K HH b1 (B ++ flS g.N sm) ([some (V.ref p), some (V.ref b1), some (V.ref c0), some (V.ref c1), some (V.ref c2), some (V.ref c3), some (V.ref d3), v7, v8, v9] ++ [v10]) σ H := eD
                by_cases c : wd = Str.ofString "start"
                · obtain ⟨x, es, rfl⟩ := k4 c
                  subst c
                  have w5 : Str.ofString "start" ∉ tkW ∧ Str.ofString "start" ∉ ptW := by with_unfolding_all decide
                  rw [if_neg w5.1, List.append_nil] at hB1
                  rw [if_neg w5.2, List.append_nil] at hB2
                  rw [if_neg (Ne.symm x3), List.append_nil] at hB3
                  subst hB1 hB2 hB3
                  have er : r = [.str x, .list es] := by
                    unfold smD at e
                    injection e with e
                    injection e with _ e
                    injection e with _ e
                    exact e.symm
                  obtain ⟨ev, rfl, rv⟩ := hx2 x _ er
                  obtain ⟨ea, evs, rfl, hev, rev⟩ := rv.lst_inv
                  have lev := rev.len
                  have a2 := e3 x _ er
                  have a3 : atI [V.str (Str.ofString "start"), V.int k, V.str x, V.ref ea] 3 = some (.ref ea) := atI_3
                  have tcy := fun (H : Hp) (Q : Bool → Hp → Prop) (g : Same HH H) (q : ∀ H', Same H H' → Q true H') => tc_eq (wa := Str.ofString "start") s10 hxp a0 H Q g (by rw [decide_eq_true rfl]; exact q)
                  have em : g.N.h.map (·.1) = g.h.map (·.1) := by show (hnN g.h).map (·.1) = _; unfold hnN; rw [List.map_map]; rfl
                  have fl : flS g.N (.st k x es) = flH g.N k x es.length := rfl
                  rw [fl] at eD fin
                  unfold flH at eD fin
                  rw [em] at eD fin
                  refine du_if (x := x) true (!decide (x ∈ g.h.map (·.1))) s10 s1 g9 hb0 h9 r9 F9 (by omega) hxp a1 (fun _ => a2) tcy (fun _ => tt_in s10 s5 hxp n3 a2) (fun H' zs' z g7 h7 r7 => ?_) fun z H' hz => ?_
                  · have mx : x ∈ g.h.map (·.1) := by simpa using z
                    rw [if_pos mx] at eD fin
                    obtain ⟨h, mh, rfl⟩ := List.mem_map.mp mx
                    have nm : es.length ∈ (g.N.h.filter fun p => decide (p.1 = h.1)).map (·.2) ↔ h.2.1.length = es.length := num_of gnd mh es.length
                    refine ms_in fun D'' eD'' => ?_
                    refine du_if (x := h.1) true (!decide (h.2.1.length = evs.length)) s10 s1 g7 hb0 h7 r7 F9 (by omega) hxp a1 (fun _ => a2) tcy (fun _ => tt_num s10 s6 hxp nd (dkv h mh) a2 a3 hev) (fun H' zs' z g7 h7 r7 => ?_) fun z H' hz => ?_
                    · have z' : h.2.1.length = evs.length := by simpa using z
                      rw [if_pos (nm.mpr (by rw [z', lev])), List.append_nil] at fin eD
                      rw [tNext, eD'', eD]
                      exact fin _ ⟨rfl, zs', g7, h7, r7⟩
                    · have z' : ¬ h.2.1.length = evs.length := by simpa using z
                      rw [if_neg (fun y => z' (by rw [nm.mp y, lev]))] at fin eD
                      rw [eD'', eD]
                      exact fin _ hz
                  · have mx : x ∉ g.h.map (·.1) := by simpa using z
                    rw [if_neg mx] at eD fin
                    rw [eD]
                    exact fin _ hz
                · have eB : B ++ flS g.N sm = B3 := by
                    rw [← hB3, ← hB2, ← hB1]
                    by_cases c1 : wd ∈ tkW
                    · obtain ⟨y1, y2, y3⟩ := x1 c1
                      rw [if_pos c1, if_neg y1, if_neg y2, List.append_nil, List.append_nil]
                    by_cases c2 : wd ∈ ptW
                    · obtain ⟨y1, y2, y3⟩ := x2 c2
                      rw [if_neg c1, if_pos c2, if_neg y2, List.append_nil, List.append_nil]
                    by_cases c3 : wd = Str.ofString "draw"
                    · rw [if_neg c1, if_neg c2, if_pos c3, List.append_nil, List.append_nil]
                    · rw [if_neg c1, if_neg c2, if_neg c3, List.append_nil, List.append_nil, List.append_nil, k5 c1 c2 c3 c, List.append_nil]
                  rw [eB] at eD fin
                  have tcn := fun (H : Hp) (Q : Bool → Hp → Prop) (g : Same HH H) (q : ∀ H', Same H H' → Q false H') => tc_eq (wa := Str.ofString "start") s10 hxp a0 H Q g (by rw [decide_eq_false c]; exact q)
                  refine du_if (x := wd) false false s10 s1 g9 hb0 h9 r9 F9 (by omega) hxp a1 (fun z => by cases z) tcn (fun z => by cases z) (fun H' zs' z g7 h7 r7 => ?_) fun z => by cases z
                  refine ms_in fun D'' eD'' => ?_
                  refine du_if (x := wd) false false s10 s1 g7 hb0 h7 r7 F9 (by omega) hxp a1 (fun z => by cases z) tcn (fun z => by cases z) (fun H' zs' z g7 h7 r7 => ?_) fun z => by cases z
                  rw [tNext, eD'', eD]
                  exact fin _ ⟨rfl, zs', g7, h7, r7⟩
              · obtain ⟨_, rfl, zs, g6, h6, r6⟩ := z
                rw [List.take_of_length_le (by omega), ← flP_or] at r6
                simp only [List.cons_append, List.nil_append]
                walk_at "r2"
end
end K14
set_option Elab.async false
set_option linter.all false
set_option maxRecDepth 100000
set_option maxHeartbeats 4000000
namespace K14
open PySem L2
section
variable {P : Program} {w : World} {K : PySem.W.Frag} {mg : Str → Option Value} {base : Heap}
def stirF (c k : Int) : Int := if 1000000000000000000 ≤ c then (c - 1000000000000000000) / 2 ^ (28 * k).toNat % 268435456 else
  ((c + 1013 * k + 1) * 16807 % 2147483647) * ((c + 1013 * k + 1) * 16807 % 2147483647) % 2147483629 * 39373 % 2147483587 / 8
theorem stirF_ge (c k : Int) : 0 ≤ stirF c k := by
  unfold stirF
  split
  · exact Int.emod_nonneg _ (by decide)
  · omega
def spStir : Sp := fun vs H Q _ => ∃ c k : Int, vs = [.int c, .int k] ∧ 0 ≤ k ∧ k ≤ 1200 ∧ ∀ m : Int, m = stirF c k → 0 ≤ m → m < 2 ^ 28 → Q (.int m) H
theorem ok_stir (D : DefAt K mg "_law_stir" s__law_stir ["cell", "k"]) : OkD P w K mg base 1 "_law_stir" ["cell", "k"] spStir := by
  refine D.ok sc__law_stir (fun vs H Q E h => ?_) (fun f cdv A outer s H vs Q E hr h => ?_)
  · obtain ⟨c, k, rfl, _⟩ := h; rfl
  obtain ⟨c, k, rfl, h0, h1, q⟩ := h
  refine ⟨_, (pss_cons (ps_if (pt_cmpR op_ge (pv 0) (pe_op op_pow pe_int pe_int) (nomark _))
  (pss_one (ps_ret (pe_op op_mod (pe_op op_shr (pe_op op_sub (pv 0) (pe_op op_pow pe_int pe_int)) (pe_op op_mul pe_int (pv 1))) (pe_op op_pow pe_int pe_int))))
  pss_nil)
  (pss_cons (ps_set (i := 2) sc__law_stir.nd rfl (Or.inl rfl) (pe_op op_mod (pe_op op_mul (pe_op op_add (pe_op op_add (pv 0) (pe_op op_mul pe_int (pv 1))) pe_int) pe_int) pe_int))
  (pss_cons (ps_set (i := 2) sc__law_stir.nd rfl (Or.inl rfl) (pe_op op_mod (pe_op op_mul (pv 2) (pv 2)) pe_int))
  (pss_one (ps_ret (pe_op op_fdiv (pe_op op_mod (pe_op op_mul (pv 2) pe_int) pe_int) pe_int)))))), ?_⟩
  walk_at "r2"
  split
  · rename_i hc
    walk_at "r2"
    refine ⟨by omega, ?_⟩
    walk_at "r2"
    exact q _ (by unfold stirF; rw [if_pos hc]) (Int.emod_nonneg _ (by decide)) (Int.emod_lt_of_pos _ (by decide))
  · rename_i hc
    walk_at "r2"
    refine ⟨.inl ⟨by omega, by omega⟩, ?_⟩
    walk_at "r2"
    exact q _ (by unfold stirF; rw [if_neg hc]) (by omega) (by omega)
def kS : Sm → Int
  | .pl _ k _ => k
  | .nm _ k _ _ => k
  | .dr k _ _ => k
  | .st k _ _ => k
  | .wh k _ _ _ _ => k
  | .fi k _ _ _ _ _ => k
def None3 (d : PyData) : Prop := ∃ a k, d = fT a k (Str.ofString "none")
def Fn (N : Nms) (s : Sm) : Prop := ∀ d ∈ flS N s, None3 d
def mnF (l : List Str) : List Str := if l = [] then [Str.ofString "none"] else l
def MeS (H0 : Hp) (p : Addr) (kd : Int) (l : List Str) (σ : St) (H : Hp) : Prop := ∃ c v4, Same H0 H ∧ H c = some (.lst (l.map V.str)) ∧ σ = [some (.ref p), some (.int kd), some (.bl false), some (.ref c), v4]
def spMe (K : PySem.W.Frag) : Sp := fun vs H Q _ => ∃ (p : Addr) (g : Pg) (kd : Nat), vs = [.ref p, .int kd, .bl false] ∧ Rp K H (.ref p) g.D ∧ g.Ok ∧ kd < 4 ∧ ∀ (m : Addr) (H' : Hp) (l : List Str), H m = none → Same H H' → (nmL g)[kd]? = some l → l.length ≤ 100 → (∀ x ∈ l, PyData.strOk x = true) → H' m = some (.lst ((mnF l).map V.str)) → Q (.ref m) H'
theorem ok_me (D : DefAt K mg "_law_menu" s__law_menu ["program", "kind", "other"]) (hint : mg "int" = none) : OkD P w K mg base 1 "_law_menu" ["program", "kind", "other"] (spMe K) := by
  refine D.ok sc__law_menu (fun vs H Q E h => ?_) (fun f cdv A outer s H vs Q E hr h => ?_)
  · obtain ⟨_, _, _, rfl, _⟩ := h; rfl
  obtain ⟨p, g, kd, rfl, rg, gk, hk, q⟩ := h
  have hu64 := hr.units
  have big : 100000 ≤ sizeLine := by unfold sizeLine; decide
  refine ⟨_, (pss_cons (ps_setCN (i := 3) sc__law_menu.nd rfl (Or.inl rfl) (comp_scopeN 1 (N := ["one"]) (cap := []) rfl rfl rfl rfl (by decide +kernel) rfl rfl rfl) rfl (pi_list (pe_ix ix_g (pv 0) (pv 1) (fun _ _ => rfl))) (fun _ _ _ _ => (pg_name (i := 0) (show List.Nodup (α := Str) ["one"] by decide +kernel) rfl (Or.inl (lookup_relabel_local rfl)) (Or.inr (lookup_relabel_local rfl)))) (fun _ _ _ _ => pts_nil) (fun _ _ _ _ => (pe_ix ix_g (pv 0) pe_int (fun _ _ => rfl))))
  (pss_cons (ps_up (ps_if (pt_val (pv 2))
  (pss_cons (ps_for PassesOwn.never rfl (pi_tup (pv 0)) (pg_name (i := 4) sc__law_menu.nd rfl (Or.inl rfl))
  (pss_one (ps_set (i := 3) sc__law_menu.nd rfl (Or.inl rfl) (pe_op op_catG (pv 3) (pe_compN (comp_scopeN 1 (N := ["one"]) (cap := []) rfl rfl rfl rfl (by decide +kernel) rfl rfl rfl) rfl (pi_list (pv 4)) (fun _ _ _ _ => (pg_name (i := 0) (show List.Nodup (α := Str) ["one"] by decide +kernel) rfl (Or.inl (lookup_relabel_local rfl)) (Or.inr (lookup_relabel_local rfl)))) (fun _ _ _ _ => pts_nil) (fun _ _ _ _ => (pe_ix ix_g (pv 0) pe_int (fun _ _ => rfl))))))))
  (pss_one (ps_set (i := 3) sc__law_menu.nd rfl (Or.inl rfl) (pe_op op_catG (pv 3) (pe_lstG (pa_c pe_str (pa_c pe_str pa_nil)))))))
  pss_nil))
  (pss_one (ps_ret (pe_op op_catG (pv 3) (pe_op op_repG (pe_lstG (pa_c pe_str pa_nil)) (pe_cTy call_int1 rfl hint (by decide +kernel) (pa_c (pe_cmpR (op_eqD hu64) (pv 3) (pe_lstG pa_nil) (nomark _)) pa_nil)))))))), ?_⟩
  obtain ⟨xs, hp, lx, hps⟩ := parts_of rg gk.sz
  have hxk : xs[kd]? = some (xs[kd]'(by omega)) := List.getElem?_eq_getElem _
  obtain ⟨pc, ys, l, ex, hc, ns, hl, ll⟩ := hps kd _ hxk
  rw [ex] at hxk
  have ak : atI xs (kd : Int) = some (.ref pc) := atI_nat hxk
  walk_at "r2"
  refine tcomp_in ?_
  simp only [iList]
  walk_at "r2"
  refine ⟨⟨_, SqL.of hc⟩, compJ_nm hc ns (by omega) fun D1 H1 hD1 g1 h1 => ?_⟩
  have nm1 : ∀ x ∈ l, PyData.strOk x = true := gk.nm l (List.mem_of_getElem? hl)
  walk_at "r2"
  refine ⟨MeS H p kd l, ?_, ?_⟩
  · exact ⟨D1, _, g1, h1, rfl⟩
  · rintro σ' H2 ⟨c, v4, g2, h2, rfl⟩
    clear h1
    walk_at "r2"
    intro p3 H3 hp3 g3 h3
    have h23 := g3 _ _ h2
    clear h2
    walk_at "r2"
    intro p4 H4 hp4 g4 h4
    have eE : PyData.eqv (.list (l.map .str)) (.list []) = l.isEmpty := by cases l <;> simp [PyData.eqv, PyData.eqvAll]
    have gss : DG 2 (.list (l.map .str)) := dg_lst (n := 1) (fun d hd => by
      obtain ⟨x, hx, rfl⟩ := List.mem_map.mp hd
      exact dg_str (nm1 x hx)) (by rw [List.length_map]; omega)
    have h24 := g4 _ _ h23
    have h34 := g4 _ _ h3
    refine ⟨.list (l.map .str), .list [], .lst h24 (strs_rpl l), .lst h4 .nil, dg_sh gss (by decide), by decide, ?_⟩
    rw [eE]
    clear h23 h3
    walk_at "r2"
    cases l with
    | nil =>
      refine ⟨by decide, by decide, by unfold sizeLine; decide, fun p5 H5 hp5 g5 h5 => ⟨_, _, _, _, rfl, rfl, g5 _ _ h24, h5, by unfold sizeLine; decide, fun p6 H6 hp6 g6 h6 => ?_⟩⟩
      exact q p6 H6 [] ((((g2.trans g3).trans g4).trans g5).free hp6) ((((g2.trans g3).trans g4).trans g5).trans g6) hl ll nm1 h6
    | cons y ss =>
      refine ⟨by show (-9223372036854775808 : Int) ≤ 0; decide, by show (0 : Int) < 2 ^ 63; decide, by show 0 ≤ sizeLine; omega, fun p5 H5 hp5 g5 h5 => ⟨_, _, _, _, rfl, rfl, g5 _ _ h24, h5, ?_, fun p6 H6 hp6 g6 h6 => ?_⟩⟩
      · have : ((y :: ss).map V.str).length ≤ 600 := by rw [List.length_map]; omega
        show ((y :: ss).map V.str).length + 0 ≤ sizeLine
        omega
      · exact q p6 H6 (y :: ss) ((((g2.trans g3).trans g4).trans g5).free hp6) ((((g2.trans g3).trans g4).trans g5).trans g6) hl ll nm1 (by rw [h6]; exact congrArg (fun z => some (HO.lst z)) (List.append_nil _))
def plK : List (Key × V) := mergeK [] [(Sum.inr (Str.ofString "take"), V.int 0), (Sum.inr (Str.ofString "give"), V.int 0), (Sum.inr (Str.ofString "put"), V.int 1), (Sum.inr (Str.ofString "get"), V.int 1), (Sum.inr (Str.ofString "draw"), V.int 2), (Sum.inr (Str.ofString "start"), V.int 3)]
theorem plK_no : ∀ x ∈ plW, valV plK (.inr x) = none := by decide +kernel
theorem plK_tk : ∀ x ∈ tkW, valV plK (.inr x) = some (.int (0 : Nat)) ∧ x ≠ Str.ofString "draw" ∧ x ≠ Str.ofString "start" := by decide +kernel
theorem plK_pt : ∀ x ∈ ptW, valV plK (.inr x) = some (.int (1 : Nat)) ∧ x ≠ Str.ofString "draw" ∧ x ≠ Str.ofString "start" := by decide +kernel
theorem plK_dr : valV plK (.inr (Str.ofString "draw")) = some (.int (2 : Nat)) := by decide +kernel
theorem plK_st : valV plK (.inr (Str.ofString "start")) = some (.int (3 : Nat)) ∧ Str.ofString "start" ≠ Str.ofString "draw" := by decide +kernel
def Short : Sm → Prop
  | .st _ _ es => es.length ≤ 4
  | _ => True
theorem sm_flat {s : Sm} (ok : SmOk s 0) (sho : Short s) : ∃ wd k r, smD s = .tuple (.str wd :: .int k :: r) ∧ kS s = k ∧ 0 ≤ k ∧ k ≤ 100 ∧ orS s = [s] ∧ ((valV plK (.inr wd) = none ∧ ∀ N, flS N s = []) ∨ ∃ kd : Nat, kd < 4 ∧ valV plK (.inr wd) = some (.int kd) ∧
    ((kd = 2 ∧ wd = Str.ofString "draw" ∧ ∃ a x, r = [.str a, .str x] ∧ PyData.strOk a = true) ∨ (((wd ∈ tkW ∧ kd = 0) ∨ (wd ∉ tkW ∧ wd ∈ ptW ∧ kd = 1)) ∧ wd ≠ Str.ofString "draw" ∧ wd ≠ Str.ofString "start" ∧ (wd ∈ tkW ∨ wd ∈ ptW) ∧ ∃ x e, r = [.str x, e] ∧ DG 5 e) ∨ (kd = 3 ∧ wd = Str.ofString "start" ∧ wd ≠ Str.ofString "draw" ∧ ∃ x es, r = [.str x, .list es] ∧ (∀ d ∈ es, DG 5 d) ∧ es.length ≤ 4))) := by
  cases s with
  | pl w k r => simp only [SmOk] at ok; exact ⟨_, _, _, by unfold smD; rfl, rfl, ok.2.2.2.1, ok.2.2.2.2, rfl, .inl ⟨plK_no w ok.1, fun _ => rfl⟩⟩
  | nm w k x e =>
    simp only [SmOk] at ok
    refine ⟨_, _, _, by unfold smD; rfl, rfl, ok.2.2.2.1, ok.2.2.2.2, rfl, .inr ?_⟩
    have tp : ∀ x ∈ ptW, x ∉ tkW := by decide +kernel
    rcases ok.1 with z | z
    · exact ⟨0, by decide, (plK_tk w z).1, .inr (.inl ⟨.inl ⟨z, rfl⟩, (plK_tk w z).2.1, (plK_tk w z).2.2, ok.1, _, _, rfl, ok.2.2.1⟩)⟩
    · exact ⟨1, by decide, (plK_pt w z).1, .inr (.inl ⟨.inr ⟨tp w z, z, rfl⟩, (plK_pt w z).2.1, (plK_pt w z).2.2, ok.1, _, _, rfl, ok.2.2.1⟩)⟩
  | dr k a x =>
    simp only [SmOk] at ok
    exact ⟨_, _, _, by unfold smD; rfl, rfl, ok.2.2.1, ok.2.2.2, rfl, .inr ⟨2, by decide, plK_dr, .inl ⟨rfl, rfl, _, _, rfl, ok.1⟩⟩⟩
  | st k x es =>
    simp only [SmOk] at ok
    exact ⟨_, _, _, by unfold smD; rfl, rfl, ok.2.2.2.1, ok.2.2.2.2, rfl, .inr ⟨3, by decide, plK_st.1, .inr (.inr ⟨rfl, rfl, plK_st.2, _, _, rfl, ok.2.1, sho⟩)⟩⟩
  | wh k sg a b u => simp only [SmOk] at ok; obtain ⟨_, _, _, m, z, _⟩ := ok; omega
  | fi k sg a b u v => simp only [SmOk] at ok; obtain ⟨_, _, _, m, z, _⟩ := ok; omega
theorem mn_in {x : Str} {l : List Str} (h : x ∈ mnF l) : x ∈ l ∨ x = Str.ofString "none" := by
  unfold mnF at h
  split at h
  · exact .inr (List.mem_singleton.mp h)
  · exact .inl h
theorem mn_ne (l : List Str) : mnF l ≠ [] := by
  unfold mnF
  split
  · simp
  · assumption
theorem mn_len {l : List Str} (h : l.length ≤ 100) : (mnF l).length ≤ 100 := by
  unfold mnF
  split
  · simp
  · exact h
theorem mn_ok {l : List Str} (h : ∀ x ∈ l, PyData.strOk x = true) : ∀ x ∈ mnF l, PyData.strOk x = true := fun x hx => by
  rcases mn_in hx with e | e
  · exact h x e
  · rw [e]; decide +kernel
theorem fn_flt {kd : Str} {k : Int} {x : Str} {l : List Str} (h : x ∈ mnF l) : ∀ d ∈ flt kd k x l, None3 d := fun d hd => by
  unfold flt at hd
  split at hd
  · cases hd
  · rename_i n
    rw [List.mem_singleton.mp hd, (mn_in h).resolve_left n]
    exact ⟨_, _, rfl⟩
theorem fn_flH {N : Nms} {k : Int} {x : Str} {n : Nat} (h : x ∈ mnF (N.h.map (·.1))) (hn : x ∈ N.h.map (·.1) → n ∈ (N.h.filter fun p => decide (p.1 = x)).map (·.2)) : ∀ d ∈ flH N k x n, None3 d := fun d hd => by
  unfold flH at hd
  split at hd
  · rename_i c
    rw [if_pos (hn c)] at hd
    cases hd
  · rename_i c
    rw [List.mem_singleton.mp hd, (mn_in h).resolve_left c]
    exact ⟨_, _, rfl⟩
theorem cutV_take (xs : List V) (n : Nat) : cutV xs none (some (n : Int)) = xs.take n := by
  unfold cutV
  rw [HT.sIx_none, HT.sIx_nat, List.drop_zero, Nat.sub_zero]
  by_cases h : n ≤ xs.length
  · rw [Nat.min_eq_left h]
  · rw [Nat.min_eq_right (by omega), List.take_of_length_le (Nat.le_refl _), List.take_of_length_le (by omega)]
theorem _root_.L2.RpL.take {K : PySem.W.Frag} {H : Hp} {vs : List V} : ∀ {ds : List PyData}, RpL K H vs ds → ∀ n, RpL K H (vs.take n) (ds.take n) := by
  induction vs with
  | nil => intro ds t n; cases t; rw [List.take_nil, List.take_nil]; exact .nil
  | cons v vs ih =>
    intro ds t n
    cases t with
    | cons h r =>
      cases n with
      | zero => exact .nil
      | succ n => exact .cons h (ih r n)
def tr3 : List PyData := [.tuple [.str "now"], .tuple [.str "own"], .tuple [.str "number", .int 7]]
theorem tr3_dg : ∀ d ∈ tr3, DG 5 d := all_cons (dg_tup (n := 4) (all_cons (dg_str (by decide +kernel)) all_nil) (by decide)) (all_cons (dg_tup (n := 4) (all_cons (dg_str (by decide +kernel)) all_nil) (by decide)) (all_cons (dg_tup (n := 4) (all_cons (dg_str (by decide +kernel)) (all_cons dg_int all_nil)) (by decide)) all_nil))
def nnL (hs : List Hd) (nm : Str) : List Nat := ((hnN hs).filter fun p => decide (p.1 = nm)).map (·.2)
theorem nnL_succ {hs : List Hd} {i : Nat} {h : Hd} (nm : Str) (e : hs[i]? = some h) : nnL (hs.take (i + 1)) nm = nnL (hs.take i) nm ++ (if h.1 = nm then [h.2.1.length] else []) := by
  rw [List.take_add_one, e]
  unfold nnL hnN
  rw [List.map_append, List.filter_append, List.map_append]
  congr 1
  by_cases c : h.1 = nm <;> simp [c]
theorem nnL_ne {g : Pg} {nm : Str} (h : nm ∈ g.N.h.map (·.1)) : nnL g.h nm ≠ [] := by
  obtain ⟨p, hp, e⟩ := List.mem_map.mp h
  intro z
  have : p.2 ∈ nnL g.h nm := List.mem_map.mpr ⟨p, List.mem_filter.mpr ⟨hp, decide_eq_true e⟩, rfl⟩
  rw [z] at this
  cases this
theorem nnL_le {g : Pg} (gk : g.Ok) {nm : Str} {n : Nat} (h : n ∈ nnL g.h nm) : n ≤ 3 := by
  obtain ⟨p, hp, rfl⟩ := List.mem_map.mp h
  obtain ⟨hd, hm, rfl⟩ := List.mem_map.mp (List.mem_filter.mp hp).1
  exact (gk.hn hd hm).2.2
def NnP (hs : List Hd) (nm : Str) (i : Nat) (ys : List V) (σ1 : St) (H' : Hp) : Prop := ys = (nnL (hs.take i) nm).map (fun n : Nat => V.int (n : Int)) ∧ ∃ v0 v1 v2, σ1 = [v0, v1, v2, some (.str nm)]
def spSt (K : PySem.W.Frag) : Sp := fun vs H Q _ => ∃ (t p : Addr) (s : Sm) (g : Pg) (hd : Int) (H0 : Hp), vs = [.ref t, .ref p, .int hd, .bl false] ∧ Same H0 H ∧ Rp K H0 (.ref t) (smD s) ∧ SmOk s 0 ∧ Short s ∧ Rp K H (.ref p) g.D ∧ g.Ok ∧
  ∀ (r : V) (H' : Hp) (s' : Sm), Same H H' → Rp K (kp H0 H H') r (smD s') → SmOk s' 0 → orS s' = [s'] → kS s' = kS s → Fn g.N s' → Q r H'
theorem ok_st (D : DefAt K mg "_law_statement" s__law_statement ["told", "program", "head", "other"]) (hint : mg "int" = none) (hlen : mg "len" = none) (G__law_stir : OkD P w K mg base 1 "_law_stir" ["cell", "k"] spStir) (G__law_menu : OkD P w K mg base 1 "_law_menu" ["program", "kind", "other"] (spMe K)) : OkD P w K mg base 2 "_law_statement" ["told", "program", "head", "other"] (spSt K) := by
  refine D.ok sc__law_statement (fun vs H Q E h => ?_) (fun f cdv A outer s H vs Q E hr h => ?_)
  · obtain ⟨_, _, _, _, _, _, rfl, _⟩ := h; rfl
  obtain ⟨t, p, s, g, hd, H0, rfl, g0, rs, ok, sho, rg, gk, q⟩ := h
  have hu := hu_of hr
  have big : 100000 ≤ sizeLine := by unfold sizeLine; decide
  refine ⟨_, (pss_cons (ps_set (i := 4) sc__law_statement.nd rfl (Or.inl rfl) (pe_def G__law_stir hr rfl (pa_c (pv 2) (pa_c (pe_op op_add pe_int (pe_ix ix_g (pv 0) pe_int (fun _ _ => rfl))) pa_nil))))
  (pss_cons (ps_set (i := 5) sc__law_statement.nd rfl (Or.inl rfl) (pe_dispG (pps_cons pe_str pe_int (pps_cons pe_str pe_int (pps_cons pe_str pe_int (pps_cons pe_str pe_int (pps_cons pe_str pe_int (pps_cons pe_str pe_int pps_nil)))))) rfl rfl (by simp) (by decide)))
  (pss_cons (ps_if (pt_cmp (pc_dnotinG hu (pe_ix ix_g (pv 0) pe_int (fun _ _ => rfl)) (pv 5)) (by with_unfolding_all rfl))
  (pss_one (ps_ret (pv 0)))
  pss_nil)
  (pss_cons (ps_set (i := 6) sc__law_statement.nd rfl (Or.inl rfl) (pe_and (pv 3) (pe_one (pe_cmpR op_eq (pe_op op_mod (pv 4) pe_int) pe_int (nomark _)))))
  (pss_cons (ps_set (i := 7) sc__law_statement.nd rfl (Or.inl rfl) (pe_def G__law_menu hr rfl (pa_c (pv 1) (pa_c (pe_dgetG hu (pv 5) (pe_ix ix_g (pv 0) pe_int (fun _ _ => rfl)) (fun _ _ => rfl)) (pa_c (pv 6) pa_nil)))))
  (pss_cons (ps_set (i := 8) sc__law_statement.nd rfl (Or.inr rfl) (pe_ix ix_g (pv 7) (pe_op op_mod (pe_op op_fdiv (pv 4) pe_int) (pe_cB call_lenG rfl hlen PySem.boot_len (pa_c (pv 7) pa_nil))) (fun _ _ => rfl)))
  (pss_cons (ps_if (pt_cmpR op_eq (pe_ix ix_g (pv 0) pe_int (fun _ _ => rfl)) pe_str (nomark _))
  (pss_one (ps_ret (pe_tupG (pa_c (pe_ix ix_g (pv 0) pe_int (fun _ _ => rfl)) (pa_c (pe_ix ix_g (pv 0) pe_int (fun _ _ => rfl)) (pa_c (pe_ix ix_g (pv 0) pe_int (fun _ _ => rfl)) (pa_c (pv 8) pa_nil)))))))
  pss_nil)
  (pss_cons (ps_if (pt_cmpR op_ne (pe_ix ix_g (pv 0) pe_int (fun _ _ => rfl)) pe_str (nomark _))
  (pss_one (ps_ret (pe_tupG (pa_c (pe_ix ix_g (pv 0) pe_int (fun _ _ => rfl)) (pa_c (pe_ix ix_g (pv 0) pe_int (fun _ _ => rfl)) (pa_c (pv 8) (pa_c (pe_ix ix_g (pv 0) pe_int (fun _ _ => rfl)) pa_nil)))))))
  pss_nil)
  (pss_cons (ps_set (i := 9) sc__law_statement.nd rfl (Or.inl rfl) (pe_op op_catG (pe_compN (comp_scopeN 3 (N := ["hand", "names", "body", "name"]) (cap := [8]) rfl rfl rfl rfl (by decide +kernel) rfl rfl rfl) rfl (pi_list (pe_ix ix_g (pv 1) pe_int (fun _ _ => rfl))) (fun _ _ _ _ => (pg_tupG 3 rfl (pgs_cons (pg_name (i := 0) (show List.Nodup (α := Str) ["hand", "names", "body", "name"] by decide +kernel) rfl (Or.inl (lookup_relabel_local rfl)) (Or.inr (lookup_relabel_local rfl))) (pgs_cons (pg_name (i := 1) (show List.Nodup (α := Str) ["hand", "names", "body", "name"] by decide +kernel) rfl (Or.inl (lookup_relabel_local rfl)) (Or.inr (lookup_relabel_local rfl))) (pgs_cons (pg_name (i := 2) (show List.Nodup (α := Str) ["hand", "names", "body", "name"] by decide +kernel) rfl (Or.inl (lookup_relabel_local rfl)) (Or.inr (lookup_relabel_local rfl))) pgs_nil))))) (fun _ _ _ _ => (pts_one (pt_cmpR op_eq (pv 0) (pv 3) (nomark _)))) (fun _ _ _ _ => (pe_cB call_lenG rfl hlen PySem.boot_len (pa_c (pv 1) pa_nil)))) (pe_lstG (pa_c pe_int pa_nil))))
  (pss_cons (ps_set (i := 10) sc__law_statement.nd rfl (Or.inl rfl) (pe_slice sl_g (pe_op op_catG (pe_ix ix_g (pv 0) pe_int (fun _ _ => rfl)) (pe_lstG (pa_c (pe_tupG (pa_c pe_str pa_nil)) (pa_c (pe_tupG (pa_c pe_str pa_nil)) (pa_c (pe_tupG (pa_c pe_str (pa_c pe_int pa_nil))) pa_nil))))) po_none (po_some (pe_ix ix_g (pe_lstG (pa_c (pe_ix ix_g (pv 9) pe_int (fun _ _ => rfl)) (pa_c (pe_op op_mod (pe_op op_fdiv (pv 4) pe_int) pe_int) pa_nil))) (pe_cTy call_int1 rfl hint (by decide +kernel) (pa_c (pv 6) pa_nil)) (fun _ _ => rfl)))))
  (pss_one (ps_ret (pe_tupG (pa_c (pe_ix ix_g (pv 0) pe_int (fun _ _ => rfl)) (pa_c (pe_ix ix_g (pv 0) pe_int (fun _ _ => rfl)) (pa_c (pv 8) (pa_c (pv 10) pa_nil))))))))))))))))), ?_⟩
  obtain ⟨wd, k, r, e, ke, kb0, kb1, oo, kd⟩ := sm_flat ok sho
  obtain ⟨xs, hx0, rx⟩ : ∃ xs, H0 t = some (.tup (.str wd :: .int k :: xs)) ∧ RpL K H0 xs r := by
    have rs' := rs
    rw [e] at rs'
    cases rs' with | tup a b => cases b with | cons b c => cases c with | cons c d => cases b; cases c; exact ⟨_, a, d⟩
  have hx := g0 _ _ hx0
  walk_at "r2"
  refine ⟨_, _, rfl, by omega, by omega, fun m em m0 m1 => ?_⟩
  clear em
  walk_at "r2"
  intro pd H1 hpd g1 h1
  walk_at "r2"
  intro H2 mu
  have g2 := mu.same g1 hpd
  have hd2 : H2 pd = some (.dK plK) := mu.at_
  have hx2 := g2 _ _ hx
  clear h1 mu hx g1
  walk_at "r2"
  rcases kd with ⟨kv, fl0⟩ | ⟨kd, k4, kv, cs⟩
  · rw [kv]
    refine iteT ?_
    walk_at "r2"
    exact q _ H2 s g2 (rs.mono (kp_base (g0.trans g2))) ok oo rfl (fun d hd => by rw [fl0] at hd; cases hd)
  rw [kv]
  refine iteF ?_
  walk_at "r2"
  refine ⟨_, g, kd, rfl, rg.mono g2, gk, k4, fun mn H3 l hmn g3 hl ll nm1 h3 => ?_⟩
  obtain ⟨ss, ess⟩ : ∃ ss, mnF l = ss := ⟨_, rfl⟩
  have ne := mn_ne l
  have sk := mn_ok nm1
  have sl := mn_len ll
  have hmem : ∀ x ∈ ss, x ∈ mnF l := fun x hx => by rw [ess]; exact hx
  rw [ess] at h3 ne sk sl
  clear ess
  have g03 := g2.trans g3
  have hx3 := g3 _ _ hx2
  clear hx2 hd2
  have sp : 0 < ss.length := List.length_pos_iff.mpr ne
  obtain ⟨nv, hnv, mnv, _⟩ := atI_in (xs := ss.map V.str) (i := m / 3 % (ss.length : Int)) (Int.emod_nonneg _ (by omega)) (by rw [List.length_map]; exact Int.emod_lt_of_pos _ (by omega))
  obtain ⟨nm, mnm, rfl⟩ := List.mem_map.mp mnv
  have nok := sk nm mnm
  walk_at "r2"
  refine ⟨by rw [List.length_map]; omega, ?_⟩
  rw [List.length_map]
  walk_at "r2"
  have kps : ∀ {H' : Hp} {v : V} {d : PyData}, Same H3 H' → Rp K H0 v d → Rp K (kp H0 H H') v d := fun g r => r.mono (kp_base (g0.trans (g03.trans g)))
  have kpn : ∀ {H' : Hp} {a : Addr} {u : HO}, H3 a = none → H' a = some u → kp H0 H H' a = some u := fun h h' => kp_new (g03.free h) h'
  rcases cs with ⟨rfl, w1, a, x, rfl, sa⟩ | ⟨w0, w1, w2, w3, x, ed, rfl, de⟩ | ⟨rfl, w1, w2, x, es, rfl, des, les⟩
  · cases rx with | cons u1 rx => cases rx with | cons u2 rx =>
    cases rx
    cases u1
    rw [if_pos w1]
    walk_at "r2"
    intro p4 H4 hp4 g4 h4
    exact q _ H4 (.dr k a nm) (g03.trans g4) (by unfold smD; exact .tup (kpn hp4 h4) (.cons (.str _) (.cons (.int _) (.cons (.str _) (.cons (.str _) .nil))))) (by simp only [SmOk]; exact ⟨sa, nok, kb0, kb1⟩) rfl ke.symm (by cases hl; exact fn_flt (hmem _ mnm))
  · cases rx with | cons u1 rx => cases rx with | cons u2 rx =>
    cases rx
    cases u1
    rw [if_neg w1]
    walk_at "r2"
    intro p4 H4 hp4 g4 h4
    exact q _ H4 (.nm wd k nm ed) (g03.trans g4) (by unfold smD; exact .tup (kpn hp4 h4) (.cons (.str _) (.cons (.int _) (.cons (.str _) (.cons (kps g4 u2) .nil))))) (by simp only [SmOk]; exact ⟨w3, nok, de, kb0, kb1⟩) rfl ke.symm (fun d hd => by
      have hd : d ∈ (if wd ∈ tkW then flt (Str.ofString "tool") k nm g.N.t else flt (Str.ofString "store") k nm g.N.s) := hd
      rcases w0 with ⟨wt, rfl⟩ | ⟨wt, _, rfl⟩
      · rw [if_pos wt] at hd; cases hl; exact fn_flt (hmem _ mnm) d hd
      · rw [if_neg wt] at hd; cases hl; exact fn_flt (hmem _ mnm) d hd)
  · cases rx with | cons u1 rx => cases rx with | cons u2 rx =>
    cases rx
    cases u1
    obtain ⟨ea, ev, rfl, he, re⟩ := u2.lst_inv
    rw [if_neg w2]
    obtain ⟨_, _, _, hc, _, _, _, ha, z0, _, _, _, z4, _, _, _, r4⟩ := pg_of (rg.mono g03)
    walk_at "r2"
    refine tcomp_in ?_
    simp only [iList]
    walk_at "r2"
    have g100 := gk.sz.h
    have l4 := r4.len
    rw [List.length_map] at l4
    refine ⟨⟨_, SqL.of z4⟩, compJ_list z4 (by omega) (NnP g.h nm) (fun H' _ => ⟨rfl, _, _, _, rfl⟩) ?_ ?_⟩
    · rintro D i v ys' σ1 H4 hx at1 pv
      obtain ⟨rfl, v0, v1, v2, rfl⟩ := pv
      obtain ⟨d, hd', rd⟩ := r4.get hx
      rw [List.getElem?_map] at hd'
      obtain ⟨h, hh, rfl⟩ := Option.map_eq_some_iff.mp hd'
      obtain ⟨pp, np, bp, nsv, rfl, e1, e2, e3, _⟩ := hd_of rd
      have len3 := e3.len
      rw [List.length_map] at len3
      have nns := nnL_succ nm hh
      have e1' := at1.same _ _ e1
      have e2' := at1.same _ _ e2
      clear z0 z4 h3 hx3
      walk_at "r2"
      refine ite2 (fun c1 => ?_) fun c1 => ?_
      · walk_at "r2"
        exact at1.put (Same.refl _) fun H5 mu => ⟨by rw [nns, if_pos c1, List.map_append]; rfl, _, _, _, rfl⟩
      · exact at1.skip (Same.refl _) ⟨by rw [nns, if_neg c1, List.append_nil], _, _, _, rfl⟩
    · rintro D ys' σ1 H4 hD g4 hy hle pv
      obtain ⟨rfl, _⟩ := pv
      rw [l4, List.take_length] at hle hy
      obtain ⟨ns, ens⟩ : ∃ ns, nnL g.h nm = ns := ⟨_, rfl⟩
      rw [ens] at hy hle
      rw [List.length_map] at hle
      have hx4 := g4 _ _ hx3
      have he4 := g4 _ _ (g03 _ _ (g0 _ _ he))
      clear z0 z4 h3 hx3
      walk_at "r2"
      intro p5 H5 hp5 g5 h5
      have hx5 := g5 _ _ hx4
      have he5 := g5 _ _ he4
      have hy5 := g5 _ _ hy
      clear hx4 he4 hy
      walk_at "r2"
      refine ⟨by rw [List.length_map]; omega, fun mp H6 hmp g6 h6 => ?_⟩
      have g46 := (g4.trans g5).trans g6
      have hx6 := g6 _ _ hx5
      have he6 := g6 _ _ he5
      obtain ⟨n0, en0, n0h⟩ : ∃ n0 : Nat, atI (ns.map (fun n : Nat => V.int (n : Int)) ++ [V.int 0]) 0 = some (.int n0) ∧ (ns ≠ [] → n0 ∈ ns) := by
        clear ens hy5 h6
        cases ns with
        | nil => exact ⟨0, atI_0, fun h => absurd rfl h⟩
        | cons a ns => exact ⟨a, atI_0, fun _ => List.mem_cons_self ..⟩
      clear hx5 he5 hy5
      walk_at "r2"
      intro t1 H7 ht1 g7 h7
      walk_at "r2"
      intro t2 H8 ht2 g8 h8
      walk_at "r2"
      intro t3 H9 ht3 g9 h9
      walk_at "r2"
      intro t4 H10 ht4 g10 h10
      have he10 := g10 _ _ (g9 _ _ (g8 _ _ (g7 _ _ he6)))
      have h610 := g10 _ _ (g9 _ _ (g8 _ _ (g7 _ _ h6)))
      have hx10 := g10 _ _ (g9 _ _ (g8 _ _ (g7 _ _ hx6)))
      have c1 : kp H0 H H10 t1 = some (.tup [.str "now"]) := kp_new ((g03.trans g46).free ht1) (g10 _ _ (g9 _ _ (g8 _ _ h7)))
      have c2 : kp H0 H H10 t2 = some (.tup [.str "own"]) := kp_new ((g03.trans g46).free (g7.free ht2)) (g10 _ _ (g9 _ _ h8))
      have c3 : kp H0 H H10 t3 = some (.tup [.str "number", .int 7]) := kp_new ((g03.trans g46).free (g7.free (g8.free ht3))) (g10 _ _ h9)
      have g010 : Same H H10 := g03.trans (g46.trans (g7.trans (g8.trans (g9.trans g10))))
      have re10 : RpL K (kp H0 H H10) (ev ++ [.ref t1, .ref t2, .ref t3]) (es ++ tr3) :=
        RpL.app (.cons (.tup c1 (.cons (.str _) .nil)) (.cons (.tup c2 (.cons (.str _) .nil)) (.cons (.tup c3 (.cons (.str _) (.cons (.int _) .nil))) .nil))) (re.mono (kp_base (g0.trans g010)))
      clear h7 h8 h9 he6 h6 hx6
      walk_at "r2"
      have lev := re.len
      refine ⟨by omega, fun l1 H11 hl1 g11 h11 => ?_⟩
      have h611 := g11 _ _ h610
      have hx11 := g11 _ _ hx10
      clear h610 hx10 he10
      walk_at "r2"
      intro l2 H12 hl2 g12 h12
      have h1112 := g12 _ _ h11
      have hx12 := g12 _ _ hx11
      clear h11 hx11 h611
      walk_at "r2"
      intro l3 H13 hl3 g13 h13
      rw [cutV_take] at h13
      have hx13 := g13 _ _ hx12
      clear h1112 hx12 h12
      walk_at "r2"
      intro p14 H14 hp14 g14 h14
      have g1014 : Same H10 H14 := g11.trans (g12.trans (g13.trans g14))
      have r14 := (re10.take n0).mono (kp_mono (Same.refl _) g1014)
      refine q _ H14 (.st k nm ((es ++ tr3).take n0)) (g010.trans g1014) (by unfold smD; exact .tup (kp_new (g010.free (g11.free (g12.free (g13.free hp14)))) h14) (.cons (.str _) (.cons (.int _) (.cons (.str _) (.cons (.lst (kp_new (g010.free (g11.free (g12.free hl3))) (g14 _ _ h13)) r14) .nil))))) ?_ rfl ke.symm (by
        cases hl
        have eh : g.N.h.map (·.1) = g.h.map (·.1) := by show (hnN g.h).map (·.1) = _; unfold hnN; rw [List.map_map]; rfl
        refine fn_flH (by rw [eh]; exact hmem _ mnm) fun c => ?_
        have n0m := n0h (by rw [← ens]; exact nnL_ne c)
        have n03 : n0 ≤ 3 := nnL_le gk (by rw [ens]; exact n0m)
        rw [List.length_take, List.length_append, Nat.min_eq_left (by have : tr3.length = 3 := rfl; omega)]
        rw [← ens] at n0m
        exact n0m)
      simp only [SmOk]
      refine ⟨nok, fun d hd => ?_, by have : tr3.length = 3 := rfl; rw [List.length_take, List.length_append]; omega, kb0, kb1⟩
      rcases List.mem_append.mp (List.mem_of_mem_take hd) with h | h
      · exact des d h
      · exact tr3_dg d h
end
end K14
set_option Elab.async false
set_option linter.all false
set_option maxRecDepth 100000
set_option maxHeartbeats 4000000
namespace K14
open PySem L2
def bds (us : List Bd) : List PyData := us.map fun u => .list (bdD u)
def ifW : List Str := [Str.ofString "if", Str.ofString "while"]
theorem sm_two {s : Sm} {n : Nat} (ok : SmOk s n) : (∃ wd h4 m, wd ∈ ifW ∧ n = m + 1 ∧ h4.length = 4 ∧ 0 < (subs s).length ∧ smD s = .tuple (.str wd :: h4 ++ bds (subs s)) ∧ ∀ us : List Bd, us.length = (subs s).length → (∀ u ∈ us, BdOk u m) → ∃ s', smD s' = .tuple (.str wd :: h4 ++ bds us) ∧ SmOk s' n ∧ subs s' = us ∧ kS s' = kS s ∧ ∀ N, flS N s' = []) ∨
    (∃ wd r, wd ∉ ifW ∧ smD s = .tuple (.str wd :: r) ∧ SmOk s 0 ∧ orS s = [s]) := by
  have w1 : ∀ x ∈ plW ++ (tkW ++ ptW) ++ ([Str.ofString "draw", Str.ofString "start"] : List Str), x ∉ ifW := by with_unfolding_all decide
  cases s with
  | pl w k r => simp only [SmOk] at ok; exact .inr ⟨_, _, w1 w (by simp [ok.1]), by unfold smD; rfl, by simp only [SmOk]; exact ok, rfl⟩
  | nm w k x e => simp only [SmOk] at ok; exact .inr ⟨_, _, w1 w (by rcases ok.1 with z | z <;> simp [z]), by unfold smD; rfl, by simp only [SmOk]; exact ok, rfl⟩
  | dr k a x => simp only [SmOk] at ok; exact .inr ⟨Str.ofString "draw", _, w1 _ (by simp), by unfold smD; rfl, by simp only [SmOk]; exact ok, rfl⟩
  | st k x es => simp only [SmOk] at ok; exact .inr ⟨Str.ofString "start", _, w1 _ (by simp), by unfold smD; rfl, by simp only [SmOk]; exact ok, rfl⟩
  | wh k sg a b u =>
    simp only [SmOk] at ok
    obtain ⟨h1, h2, h3, m, rfl, o⟩ := ok
    refine .inl ⟨Str.ofString "while", [.int k, sg, a, b], m, by simp [ifW], rfl, rfl, by simp [subs], by unfold smD; rfl, fun us hl hu => ?_⟩
    match us, hl with
    | [u'], _ => exact ⟨.wh k sg a b u', by unfold smD; rfl, by simp only [SmOk]; exact ⟨h1, h2, h3, m, rfl, hu u' (by simp)⟩, rfl, rfl, fun _ => rfl⟩
  | fi k sg a b u v =>
    simp only [SmOk] at ok
    obtain ⟨h1, h2, h3, m, rfl, o⟩ := ok
    refine .inl ⟨Str.ofString "if", [.int k, sg, a, b], m, by simp [ifW], rfl, rfl, by simp [subs], by unfold smD; rfl, fun us hl hu => ?_⟩
    match us, hl with
    | [u', v'], _ => exact ⟨.fi k sg a b u' v', by unfold smD; rfl, by simp only [SmOk]; exact ⟨h1, h2, h3, m, rfl, hu u' (by simp), hu v' (by simp)⟩, rfl, rfl, fun _ => rfl⟩
theorem ok_up {s : Sm} {n : Nat} (ok : SmOk s 0) : SmOk s n := by
  cases s with
  | wh k sg a b u => simp only [SmOk] at ok; obtain ⟨_, _, _, m, z, _⟩ := ok; omega
  | fi k sg a b u v => simp only [SmOk] at ok; obtain ⟨_, _, _, m, z, _⟩ := ok; omega
  | _ => simp only [SmOk] at ok ⊢; exact ok
def ofL : List Sm → Bd
  | [] => .nil
  | s :: l => .cons s (ofL l)
theorem toL_ofL (l : List Sm) : toL (ofL l) = l := by
  induction l with
  | nil => rfl
  | cons s l ih => show s :: toL (ofL l) = _; rw [ih]
theorem _root_.L2.RpL.drop {K : PySem.W.Frag} {H : Hp} {vs : List V} : ∀ {ds : List PyData}, RpL K H vs ds → ∀ n, RpL K H (vs.drop n) (ds.drop n) := by
  induction vs with
  | nil => intro ds t n; cases t; rw [List.drop_nil, List.drop_nil]; exact .nil
  | cons v vs ih =>
    intro ds t n
    cases n with
    | zero => exact t
    | succ n => cases t with | cons h r => exact ih r n
theorem rpl_cut {K : PySem.W.Frag} {H : Hp} {xs : List V} {h5 ds : List PyData} (r : RpL K H xs (h5 ++ ds)) (h : h5.length = 5) : RpL K H (xs.take 5) h5 ∧ RpL K H (xs.drop 5) ds ∧ xs.length = 5 + ds.length := by
  have l := r.len
  rw [List.length_append, h] at l
  have t := r.take 5
  have d := r.drop 5
  rw [List.take_left' h] at t
  rw [List.drop_left' h] at d
  exact ⟨t, d, l⟩
structure Nd (N : Nms) (a b : List Sm) : Prop where
  ks : a.map kS = b.map kS
  fn : ∀ s ∈ a, Fn N s
theorem Nd.nil {N : Nms} : Nd N [] [] := ⟨rfl, fun _ h => absurd h List.not_mem_nil⟩
theorem Nd.app {N : Nms} {a b c d : List Sm} (x : Nd N a b) (y : Nd N c d) : Nd N (a ++ c) (b ++ d) := ⟨by rw [List.map_append, List.map_append, x.ks, y.ks], fun s h => by
  rcases List.mem_append.mp h with h | h
  · exact x.fn s h
  · exact y.fn s h⟩
theorem Nd.one {N : Nms} {s s' : Sm} (k : kS s' = kS s) (f : Fn N s') : Nd N [s'] [s] := ⟨by rw [List.map_cons, List.map_cons, k], fun x h => by rw [List.mem_singleton.mp h]; exact f⟩
theorem Nd.len {N : Nms} {a b : List Sm} (x : Nd N a b) : a.length = b.length := by
  have := congrArg List.length x.ks
  rwa [List.length_map, List.length_map] at this
section
variable {P : Program} {w : World} {K : PySem.W.Frag} {mg : Str → Option Value} {base : Heap}
def LcP (K : PySem.W.Frag) (N : Nms) (H0 H : Hp) (m : Nat) (us : List Bd) (vp vh : Option V) (D : Addr) (i : Nat) (ys : List V) (σ1 : St) (H' : Hp) : Prop := ∃ us' : List Bd, RpL K (hide D (kp H0 H H')) ys (bds us') ∧ us'.length = i ∧ (∀ u ∈ us', BdOk u m) ∧ Nd N (us'.flatMap orB) ((us.take i).flatMap orB) ∧ ∃ v0, σ1 = [v0, vp, vh, some (.bl false)]
def LbI (K : PySem.W.Frag) (N : Nms) (H0 H : Hp) (b : Addr) (m : Nat) (l : List Sm) (σ0 : St) (i : Nat) (σ : St) (H' : Hp) : Prop := ∃ zs, ∃ l' : List Sm, ∃ v5 v6, Same H H' ∧ H' b = some (.lst zs) ∧ RpL K (hide b (kp H0 H H')) zs (l'.map smD) ∧ (∀ s ∈ l', SmOk s m) ∧ Nd N (l'.flatMap orS) ((l.take i).flatMap orS) ∧ l'.length ≤ i ∧ σ = σ0 ++ [v5, v6]
def spLb (K : PySem.W.Frag) (n : Nat) : Sp := fun vs H Q _ => ∃ (b p : Addr) (bd : Bd) (m : Nat) (g : Pg) (hd : Int) (H0 : Hp), vs = [.ref b, .ref p, .int hd, .bl false] ∧ Same H0 H ∧ Rp K H0 (.ref b) (.list (bdD bd)) ∧ BdOk bd m ∧ m < n ∧ (∀ t ∈ orB bd, Short t) ∧ (orB bd).length ≤ 1000 ∧ Rp K H (.ref p) g.D ∧ g.Ok ∧
  ∀ (r : V) (H' : Hp) (bd' : Bd), Same H H' → Rp K (kp H0 H H') r (.list (bdD bd')) → BdOk bd' m → Nd g.N (orB bd') (orB bd) → Q r H'
theorem ok_lb (D : DefAt K mg "_law_body" s__law_body ["body", "program", "head", "other"]) (htuple : mg "tuple" = none) (G__law_statement : OkD P w K mg base 2 "_law_statement" ["told", "program", "head", "other"] (spSt K)) : ∀ n : Nat, OkD P w K mg base (n + 2) "_law_body" ["body", "program", "head", "other"] (spLb K n) := by
  intro n
  induction n with
  | zero => exact D.never _ fun vs H Q E h => by obtain ⟨_, _, _, _, _, _, _, _, _, _, _, h, _⟩ := h; omega
  | succ n G__law_body =>
  refine D.ok sc__law_body (fun vs H Q E h => ?_) (fun f cdv A outer s H vs Q E hr h => ?_)
  · obtain ⟨_, _, _, _, _, _, _, rfl, _⟩ := h; rfl
  obtain ⟨b, p, bd, m, g, hd, H0, rfl, g0, rb, ok, hm, sho, hc, rg, gk, q⟩ := h
  have big : 100000 ≤ sizeLine := by unfold sizeLine; decide
  refine ⟨_, (pss_cons (ps_set (i := 4) sc__law_body.nd rfl (Or.inl rfl) (pe_lstG pa_nil))
  (pss_cons (ps_for PassesOwn.never rfl (pi_list (pv 0)) (pg_name (i := 5) sc__law_body.nd rfl (Or.inl rfl))
  (pss_one (ps_if (pt_cmpR op_inG (pe_ix ix_g (pv 5) pe_int (fun _ _ => rfl)) (pe_lstG (pa_c pe_str (pa_c pe_str pa_nil))) (by with_unfolding_all rfl))
  (pss_cons (ps_set (i := 6) sc__law_body.nd rfl (Or.inl rfl) (pe_cTy call_tupL rfl htuple (by decide +kernel) (pa_c (pe_compN (comp_scopeN 1 (N := ["part", "program", "head", "other"]) (cap := [1, 2, 3]) rfl rfl rfl rfl (by decide +kernel) rfl rfl rfl) rfl (pi_tup (pe_slice sl_g (pv 5) (po_some pe_int) po_none)) (fun _ _ _ _ => (pg_name (i := 0) (show List.Nodup (α := Str) ["part", "program", "head", "other"] by decide +kernel) rfl (Or.inl (lookup_relabel_local rfl)) (Or.inr (lookup_relabel_local rfl)))) (fun _ _ _ _ => pts_nil) (fun _ _ _ _ => (pe_def G__law_body hr rfl (pa_c (pv 0) (pa_c (pv 1) (pa_c (pv 2) (pa_c (pv 3) pa_nil))))))) pa_nil)))
  (pss_one (ps_expr (pe_appG (pv 4) (pe_op op_catT (pe_slice sl_g (pv 5) po_none (po_some pe_int)) (pv 6))))))
  (pss_one (ps_expr (pe_appG (pv 4) (pe_def G__law_statement hr rfl (pa_c (pv 5) (pa_c (pv 1) (pa_c (pv 2) (pa_c (pv 3) pa_nil)))))))))))
  (pss_one (ps_ret (pv 4))))), ?_⟩
  rw [bdD_toL] at rb
  rw [ok_toL] at ok
  rw [orB_toL] at hc sho q
  generalize toL bd = l at rb ok q sho hc
  obtain ⟨_, xs, e, hb0, rl⟩ := rb.lst_inv
  cases e
  have hb := g0 _ _ hb0
  have ll := rl.len
  rw [List.length_map] at ll
  have l1000 := len_orS l
  walk_at "r2"
  intro b1 H1 hb1 g1 h1
  have hb1' := g1 _ _ hb
  walk_at "r2"
  refine tfor_in ?_
  simp only [iList]
  walk_at "r2"
  clear hb1'
  have h0b : H0 b1 = none := g0.free hb1
  refine ⟨⟨_, SqL.of (g1 _ _ hb)⟩, for_list (xs := xs) (LbI K g.N H0 H b1 m l [some (.ref b), some (.ref p), some (.int hd), some (.bl false), some (.ref b1)]) ⟨[], [], _, _, g1, h1, .nil, fun s h => absurd h List.not_mem_nil, .nil, Nat.le_refl _, rfl⟩ (fun i σ H2 _ z => ?_) (fun i x σ H2 hx z => ?_) fun σ H2 z => ?_⟩
  · obtain ⟨_, _, _, _, z, _⟩ := z
    exact SqL.of (z _ _ hb)
  · obtain ⟨zs, l', v5, v6, g2, h2, rz, okl, cl, ls, rfl⟩ := z
    obtain ⟨d, hd', rd⟩ := rl.get hx
    rw [List.getElem?_map] at hd'
    obtain ⟨sm, hs, rfl⟩ := Option.map_eq_some_iff.mp hd'
    have mem := List.mem_of_getElem? hs
    have oks := ok sm mem
    have hil : i < l.length := (List.getElem?_eq_some_iff.mp hs).1
    clear h1
    have lzs := rz.len
    rw [List.length_map] at lzs
    have fin : ∀ (H4 : Hp) (r : V) (s' : Sm) (H5 : Hp), Same H2 H4 → Rp K (kp H0 H2 H4) r (smD s') → SmOk s' m → Nd g.N (orS s') (orS sm) → Mu H4 b1 (.lst (zs ++ [r])) H5 → ∀ v5 v6, LbI K g.N H0 H b1 m l [some (.ref b), some (.ref p), some (.int hd), some (.bl false), some (.ref b1)] (i + 1) [some (.ref b), some (.ref p), some (.int hd), some (.bl false), some (.ref b1), v5, v6] H5 := fun H4 r s' H5 g4 rs' oks' lo mu v5 v6 => by
      refine ⟨_, l' ++ [s'], v5, v6, mu.same (g2.trans g4) hb1, mu.at_, ?_, fun s hs => ?_, ?_, by rw [List.length_append]; exact Nat.succ_le_succ ls, rfl⟩
      · rw [List.map_append]
        exact RpL.app (.cons (rs'.mono (kp_item g2 h0b h2 mu)) .nil) (rz.mono (kp_own g4 mu))
      · rcases List.mem_append.mp hs with h | h
        · exact okl s h
        · rw [List.mem_singleton.mp h]; exact oks'
      · rw [List.flatMap_append, flat_cut hs]; exact cl.app (by simpa using lo)
    simp only [List.cons_append, List.nil_append]
    rcases sm_two oks with ⟨wd, h4, m', w1, rfl, l4, s0, es, mk⟩ | ⟨wd, r, w1, es, ok0, or0⟩
    · have rd0 := rd
      rw [es] at rd
      obtain ⟨xp, ts, rfl, a1, a2⟩ := rd.tup_inv
      obtain ⟨c5, d5, ln⟩ := rpl_cut (h5 := .str wd :: h4) a2 (by rw [List.length_cons, l4])
      obtain ⟨ts', rfl⟩ : ∃ ts', ts = .str wd :: ts' := by cases a2 with | cons b c => cases b; exact ⟨_, rfl⟩
      have hx2 := g2 _ _ (g0 _ _ a1)
      walk_at "r2"
      intro p3 H3 hp3 g3 h3
      have hx3 := g3 _ _ hx2
      have h23 := g3 _ _ h2
      clear hx2
      walk_at "r2"
      clear h3
      rw [if_pos (or_mem.mpr w1)]
      walk_at "r2"
      refine tcomp_in ?_
      simp only [iTup]
      walk_at "r2"
      refine ⟨by omega, fun c4 H4 hc4 g4 h4c => ?_⟩
      rw [cutV_from] at h4c
      have h24 := g4 _ _ h23
      have hx4 := g4 _ _ hx3
      have g24 := g3.trans g4
      have g04 := g2.trans g24
      have ld := d5.len
      have hb4 : H0 c4 = none := g0.free (g2.free (g3.free hc4))
      clear h23 hx3 hc4 g3 g4
      have l2 : (bds (subs sm)).length = (subs sm).length := List.length_map ..
      have s2 : (subs sm).length ≤ 2 := by cases sm <;> simp [subs]
      refine ⟨_, rfl, ⟨_, SqT.of h4c⟩, compJD over_tup (fun H g => g _ _ h4c) (by omega) (LcP K g.N H0 H4 m' (subs sm) (some (.ref p)) (some (.int hd))) (fun D H' _ _ _ => ⟨[], .nil, rfl, fun u h => absurd h List.not_mem_nil, .nil, _, rfl⟩) ?_ ?_⟩
      · intro D j v ys σ1 H5 hv at1 z
        obtain ⟨us', ry, lu, ou, cu, v0, rfl⟩ := z
        obtain ⟨dd, hdd, rdd⟩ := d5.get hv
        unfold bds at hdd
        rw [List.getElem?_map] at hdd
        obtain ⟨u, hu, rfl⟩ := Option.map_eq_some_iff.mp hdd
        have mu := List.mem_of_getElem? hu
        obtain ⟨m2, e2, ob⟩ := sub_ok oks mu
        obtain rfl : m' = m2 := by omega
        obtain ⟨va, vs', rfl, _, _⟩ := rdd.lst_inv
        have gs5 := g04.trans at1.same
        clear h24 hx4 h4c
        walk_at "r2"
        refine ⟨_, _, u, m', g, hd, H0, rfl, g0.trans gs5, rdd, ob, by omega, fun t ht => sho t (List.mem_flatMap.mpr ⟨sm, mem, by rw [orS_subs]; exact List.mem_cons_of_mem _ (List.mem_flatMap.mpr ⟨u, mu, ht⟩)⟩), Nat.le_trans (sub_or mu) (Nat.le_trans (mem_flat_len mem) hc), rg.mono gs5, gk, fun r H6 u' g6 r6 ou' lu' => ?_⟩
        refine at1.put g6 fun H7 mu7 => ⟨us' ++ [u'], ?_, by rw [List.length_append, lu]; rfl, fun w hw => ?_, ?_, _, rfl⟩
        · unfold bds
          rw [List.map_append]
          exact RpL.app (.cons (r6.mono (kp_item at1.same (g0.free (g04.free at1.new)) at1.lst mu7)) .nil) (ry.mono (kp_own g6 mu7))
        · rcases List.mem_append.mp hw with h | h
          · exact ou w h
          · rw [List.mem_singleton.mp h]; exact ou'
        · rw [List.flatMap_append, flat_cut hu]; exact cu.app (by simpa using lu')
      · intro D ys σ1 H5 hD g5 hy _ z
        obtain ⟨us', ry, lu, ou, cu, v0, rfl⟩ := z
        rw [ld, l2] at lu cu
        rw [List.take_of_length_le (Nat.le_refl _)] at cu
        obtain ⟨s', es', os', ss', ks', fl'⟩ := mk us' lu ou
        have h25 := g5 _ _ h24
        have hx5 := g5 _ _ hx4
        clear h24 hx4 h4c ld
        refine ⟨_, rfl, _, trivial, hy, fun t6 H6 ht6 g6 h6 => ?_⟩
        have h26 := g6 _ _ h25
        have hx6 := g6 _ _ hx5
        clear h25 hx5 hy
        walk_at "r2"
        refine ⟨by omega, fun t7 H7 ht7 g7 h7 => ?_⟩
        rw [show (5 : Int) = ((5 : Nat) : Int) from rfl, cutV_take] at h7
        have h67 := g7 _ _ h6
        have h27 := g7 _ _ h26
        have ly := ry.len
        have lb' : (bds us').length = us'.length := List.length_map ..
        clear h26 hx6 h6
        walk_at "r2"
        refine ⟨_, _, _, _, rfl, rfl, SqT.of h7, SqT.of h67, by simp, ?_, fun z => ?_, fun _ p8 hp8 => ?_⟩
        · have := List.length_take_le 5 (V.str wd :: ts'); omega
        · rw [z] at ly; simp at ly; omega
        · obtain ⟨H8, e8⟩ : ∃ H8, H8 = upd H7 p8 (.tup ((V.str wd :: ts').take 5 ++ ys)) := ⟨_, rfl⟩
          rw [← e8]
          have g8 : Same H7 H8 := by rw [e8]; exact same_new hp8 _
          have h8 : H8 p8 = some (.tup ((V.str wd :: ts').take 5 ++ ys)) := by rw [e8]; exact upd_same
          clear e8
          have h28 := g8 _ _ h27
          refine ⟨zs, h28, by omega, fun H9 mu => ?_⟩
          walk_at "r2"
          have g28 : Same H2 H8 := g24.trans (g5.trans (g6.trans (g7.trans g8)))
          have n8 : H2 p8 = none := g24.free (g5.free (g6.free (g7.free hp8)))
          refine fin H8 (.ref p8) s' H9 g28 ?_ os' ?_ mu _ _
          · rw [es']
            exact .tup (kp_new n8 h8) (RpL.app (ry.mono fun a u e => kp_mono g24 (g6.trans (g7.trans g8)) a u (hide_le a u e)) (c5.mono (kp_base (g0.trans (g2.trans g28)))))
          · rw [orS_subs, orS_subs sm, ss']; exact Nd.app (a := [s']) (b := [sm]) (.one ks' fun d h => by rw [fl'] at h; cases h) cu
    · have rd0 := rd
      rw [es] at rd
      obtain ⟨xp, ts, rfl, a1, a2⟩ := rd.tup_inv
      cases a2 with | cons a2 a3 =>
      cases a2
      have hx2 := g2 _ _ (g0 _ _ a1)
      walk_at "r2"
      intro p3 H3 hp3 g3 h3
      have hx3 := g3 _ _ hx2
      have h23 := g3 _ _ h2
      clear hx2
      walk_at "r2"
      clear h3
      rw [if_neg (fun z => w1 (or_mem.mp z))]
      walk_at "r2"
      have g23 := g2.trans g3
      refine ⟨_, _, sm, g, hd, H0, rfl, g0.trans g23, rd0, ok0, sho sm (List.mem_flatMap.mpr ⟨sm, mem, by rw [orS_subs]; exact List.mem_cons_self ..⟩), rg.mono g23, gk, fun r H4 s' g4 rs' ok' or' ks' fn' => ?_⟩
      have h24 := g4 _ _ h23
      walk_at "r2"
      refine ⟨by omega, fun H5 mu => ?_⟩
      walk_at "r2"
      exact fin H4 r s' H5 (g3.trans g4) (rs'.mono (kp_mono g3 (Same.refl _))) (ok_up ok') (by rw [or', or0]; exact .one ks' fn') mu _ _
  · obtain ⟨zs, l', v5, v6, g2, h2, rz, okl, cl, ls, rfl⟩ := z
    rw [List.take_of_length_le (by omega)] at cl
    clear h1
    simp only [List.cons_append, List.nil_append]
    walk_at "r2"
    exact q _ H2 (ofL l') g2 (.lst (kp_new hb1 h2) (by rw [bdD_toL, toL_ofL]; exact rz.mono hide_le)) (by rw [ok_toL, toL_ofL]; exact okl) (by rw [orB_toL, toL_ofL]; exact cl)
end
end K14
set_option Elab.async false
set_option linter.all false
set_option maxRecDepth 100000
set_option maxHeartbeats 4000000
namespace K14
open PySem L2
section
variable {P : Program} {w : World} {K : PySem.W.Frag} {mg : Str → Option Value} {base : Heap}
def hk (h : Hd) : Str × List Str := (h.1, h.2.1)
def NaP (K : PySem.W.Frag) (N : Nms) (H : Hp) (l : List Hd) (vp vh : Option V) (D : Addr) (i : Nat) (ys : List V) (σ1 : St) (H' : Hp) : Prop := ∃ l' : List Hd, RpL K (hide D (kp H H H')) ys (l'.map hdD) ∧ l'.map hk = (l.take i).map hk ∧ (∀ h ∈ l', BdOk h.2.2 6) ∧ Nd N (l'.flatMap fun h => orB h.2.2) ((l.take i).flatMap fun h => orB h.2.2) ∧ ∃ v0 v1 v2, σ1 = [v0, v1, v2, vp, vh, some (.bl false)]
def spNa (K : PySem.W.Frag) : Sp := fun vs H Q _ => ∃ (p : Addr) (g : Pg) (hd : Int), vs = [.ref p, .int hd, .bl false] ∧ Rp K H (.ref p) g.D ∧ g.Ok ∧ (∀ t ∈ orP g, Short t) ∧ ∀ (r : Addr) (H' : Hp) (g' : Pg), Same H H' → Rp K H' (.ref r) g'.D → g'.Ok → Nd g'.N (orP g') (orP g) → nmL g' = nmL g → Q (.ref r) H'
theorem named_ok {g : Pg} {l : List Hd} (gk : g.Ok) (e : l.map hk = g.h.map hk) (hb : ∀ h ∈ l, BdOk h.2.2 6) (c : (l.flatMap fun h => orB h.2.2).length = (g.h.flatMap fun h => orB h.2.2).length) : Pg.Ok { g with h := l } := by
  have len : l.length = g.h.length := by have := congrArg List.length e; rw [List.length_map, List.length_map] at this; exact this
  refine ⟨⟨gk.sz.t, gk.sz.s, gk.sz.r, by show l.length ≤ 100; rw [len]; exact gk.sz.h⟩, by have := gk.cnt; unfold orP at this; exact Nat.le_trans (Nat.le_of_eq c) this, hb, ?_, gk.ot, fun h mh => ?_⟩
  · have e2 := congrArg (List.map Prod.fst) e
    rw [List.map_map, List.map_map] at e2
    have e2 : l.map (·.1) = g.h.map (·.1) := e2
    show (l.map (·.1)).Nodup
    rw [e2]; exact gk.nd
  · have : hk h ∈ g.h.map hk := by rw [← e]; exact List.mem_map.mpr ⟨h, mh, rfl⟩
    obtain ⟨h', mh', eh⟩ := List.mem_map.mp this
    have e1 : h'.1 = h.1 := congrArg (fun z : Str × List Str => z.1) eh
    have e2 : h'.2.1 = h.2.1 := congrArg (fun z : Str × List Str => z.2) eh
    rw [← e1, ← e2]
    exact gk.hn h' mh'
theorem fst_hk {l l' : List Hd} (e : l.map hk = l'.map hk) : l.map (·.1) = l'.map (·.1) := by
  have e2 := congrArg (List.map Prod.fst) e
  rw [List.map_map, List.map_map] at e2
  exact e2
theorem hn_hk {l l' : List Hd} (e : l.map hk = l'.map hk) : hnN l = hnN l' := by
  have e2 := congrArg (List.map fun p : Str × List Str => (p.1, p.2.length)) e
  rw [List.map_map, List.map_map] at e2
  exact e2
theorem ok_na (D : DefAt K mg "_law_named" s__law_named ["program", "head", "other"]) (G__law_body : OkD P w K mg base 9 "_law_body" ["body", "program", "head", "other"] (spLb K 7)) : OkD P w K mg base 10 "_law_named" ["program", "head", "other"] (spNa K) := by
  refine D.ok sc__law_named (fun vs H Q E h => ?_) (fun f cdv A outer s H vs Q E hr h => ?_)
  · obtain ⟨_, _, _, rfl, _⟩ := h; rfl
  obtain ⟨p, g, hd, rfl, rg, gk, sho, q⟩ := h
  have big : 100000 ≤ sizeLine := by unfold sizeLine; decide
  refine ⟨_, (pss_cons (ps_setCN (i := 3) sc__law_named.nd rfl (Or.inl rfl) (comp_scopeN 3 (N := ["name", "names", "body", "program", "head", "other"]) (cap := [0, 1, 2]) rfl rfl rfl rfl (by decide +kernel) rfl rfl rfl) rfl (pi_list (pe_ix ix_g (pv 0) pe_int (fun _ _ => rfl))) (fun _ _ _ _ => (pg_tupG 3 rfl (pgs_cons (pg_name (i := 0) (show List.Nodup (α := Str) ["name", "names", "body", "program", "head", "other"] by decide +kernel) rfl (Or.inl (lookup_relabel_local rfl)) (Or.inr (lookup_relabel_local rfl))) (pgs_cons (pg_name (i := 1) (show List.Nodup (α := Str) ["name", "names", "body", "program", "head", "other"] by decide +kernel) rfl (Or.inl (lookup_relabel_local rfl)) (Or.inr (lookup_relabel_local rfl))) (pgs_cons (pg_name (i := 2) (show List.Nodup (α := Str) ["name", "names", "body", "program", "head", "other"] by decide +kernel) rfl (Or.inl (lookup_relabel_local rfl)) (Or.inr (lookup_relabel_local rfl))) pgs_nil))))) (fun _ _ _ _ => pts_nil) (fun _ _ _ _ => (pe_tupG (pa_c (pv 0) (pa_c (pv 1) (pa_c (pe_def G__law_body hr rfl (pa_c (pv 2) (pa_c (pv 3) (pa_c (pv 4) (pa_c (pv 5) pa_nil))))) pa_nil))))))
  (pss_one (ps_ret (pe_op op_catT (pe_slice sl_g (pv 0) po_none (po_some pe_int)) (pe_tupG (pa_c (pv 3) pa_nil)))))), ?_⟩
  obtain ⟨ia, ib, ic, id, ta, sa, ra, ha, h0, h1, h2, h3, h4, r1, r2, r3, r4⟩ := pg_of rg
  walk_at "r2"
  refine tcomp_in ?_
  simp only [iList]
  walk_at "r2"
  have g100 := gk.sz.h
  have l4 := r4.len
  rw [List.length_map] at l4
  refine ⟨⟨_, SqL.of h4⟩, compJD_list h4 (by omega) (NaP K g.N H g.h (some (.ref p)) (some (.int hd))) (fun D H' _ _ _ => ⟨[], .nil, rfl, fun u h => absurd h List.not_mem_nil, .nil, _, _, _, rfl⟩) ?_ ?_⟩
  · intro D i v ys σ1 H1 hv at1 z
    obtain ⟨l', ry, ek, ob, cb, v0, v1, v2, rfl⟩ := z
    obtain ⟨d, hd', rd⟩ := r4.get hv
    rw [List.getElem?_map] at hd'
    obtain ⟨h, hh, rfl⟩ := Option.map_eq_some_iff.mp hd'
    have mh := List.mem_of_getElem? hh
    obtain ⟨pp, np, bp, nsv, rfl, e1, e2, e3, e4⟩ := hd_of rd
    have e1' := at1.same _ _ e1
    clear h0 h4
    walk_at "r2"
    refine ⟨_, _, h.2.2, 6, g, hd, H, rfl, at1.same, e4, gk.hb h mh, by decide, fun t ht => sho t (List.mem_flatMap.mpr ⟨h, mh, ht⟩), Nat.le_trans (or_hand mh) gk.cnt, rg.mono at1.same, gk, fun r H2 bd' g2 r2' ob' cb' => ?_⟩
    walk_at "r2"
    intro p3 H3 hp3 g3 h3
    have n3 := at1.same.free (g2.free hp3)
    refine at1.put (g2.trans g3) fun H5 mu => ⟨l' ++ [(h.1, h.2.1, bd')], ?_, by rw [List.map_append, ek, take_snoc hh, List.map_append]; rfl, fun x hx => ?_, ?_, _, _, _, rfl⟩
    · rw [List.map_append]
      have rr : Rp K (kp H H1 H3) (.ref p3) (hdD (h.1, h.2.1, bd')) := .tup (kp_new (g2.free hp3) h3) (.cons (.str _) (.cons ((Rp.lst e2 e3).mono (kp_base (at1.same.trans (g2.trans g3)))) (.cons (r2'.mono (kp_mono (Same.refl _) g3)) .nil)))
      exact RpL.app (.cons (rr.mono (kp_item at1.same at1.new at1.lst mu)) .nil) (ry.mono (kp_own (g2.trans g3) mu))
    · rcases List.mem_append.mp hx with z | z
      · exact ob x z
      · rw [List.mem_singleton.mp z]; exact ob'
    · rw [List.flatMap_append, flat_cut hh]; exact cb.app (by simpa using cb')
  · intro D ys σ1 H1 hD g1 hy _ z
    obtain ⟨l', ry, ek, ob, cb, _⟩ := z
    rw [List.take_of_length_le (by omega)] at ek cb
    have h01 := g1 _ _ h0
    have hy' := hy
    clear h0 h4
    walk_at "r2"
    refine ⟨by decide, fun c2 H2 hc2 g2 h2c => ?_⟩
    rw [show (3 : Int) = ((3 : Nat) : Int) from rfl, cutV_take] at h2c
    have hy2 := g2 _ _ hy
    clear h01 hy
    walk_at "r2"
    intro p3 H3 hp3 g3 h3c
    walk_at "r2"
    refine ⟨_, _, _, _, rfl, rfl, SqT.of (g3 _ _ h2c), SqT.of h3c, by simp, by show 3 + 1 ≤ sizeLine; omega, fun z => by simp at z, fun _ p4 hp4 => ?_⟩
    have g14 : Same H1 (upd H3 p4 (.tup ([V.ref ia, V.ref ib, V.ref ic, V.ref id].take 3 ++ [V.ref D]))) := g2.trans (g3.trans (same_new hp4 _))
    have g04 := g1.trans g14
    exact q p4 _ { g with h := l' } g04 (.tup upd_same (.cons (.lst (g04 _ _ h1) (r1.mono g04)) (.cons (.lst (g04 _ _ h2) (r2.mono g04)) (.cons (.lst (g04 _ _ h3) (r3.mono g04)) (.cons (.lst (g14 _ _ hy') (ry.mono fun a u e => g14 _ _ (kp_le a u (hide_le a u e)))) .nil))))) (named_ok gk ek ob cb.len) (by
      have e : Pg.N { g with h := l' } = g.N := by unfold Pg.N; rw [show hnN l' = hnN g.h from hn_hk ek]
      rw [e]; exact cb) (by unfold nmL; rw [show l'.map (·.1) = g.h.map (·.1) from fst_hk ek])
end
end K14
set_option Elab.async false
set_option linter.all false
set_option maxRecDepth 100000
set_option maxHeartbeats 4000000
namespace K14
open PySem L2
inductive Tr : Type
  | name (x : Str) : Tr
  | num (n : Int) : Tr
  | now : Tr
  | own : Tr
  | bin (o : Str) (l r : Tr) : Tr
def Tr.toD : Tr → PyData
  | .name x => .tuple [.str "name", .str x]
  | .num n => .tuple [.str "number", .int n]
  | .now => .tuple [.str "now"]
  | .own => .tuple [.str "own"]
  | .bin o l r => .tuple [.str o, l.toD, r.toD]
def Tr.depth : Tr → Nat
  | .bin _ l r => max l.depth r.depth + 1
  | _ => 0
def Tr.size : Tr → Nat
  | .bin _ l r => l.size + r.size + 1
  | _ => 1
def nm12 : List Str := ["a", "m", "count", "xx", "zyx", "ends", "handsome", "rivers", "vw", "wavemor", "nows", "ow"]
def sg3 : List Str := [⟨#[43]⟩, ⟨#[45]⟩, ⟨#[42]⟩]
def Tr.gd : Tr → Prop
  | .name x => x ∈ nm12
  | .num n => 0 ≤ n ∧ n < 1000000
  | .bin o l r => o ∈ sg3 ∧ l.gd ∧ r.gd
  | _ => True
theorem nm_ok : ∀ x ∈ nm12, PyData.strOk x = true ∧ x.length ≤ 8 := by decide +kernel
theorem sg_ok : ∀ x ∈ sg3, PyData.strOk x = true ∧ x.length = 1 := by decide +kernel
theorem tr_dg {t : Tr} (h : t.gd) : DG (t.depth + 1) t.toD := by
  induction t with
  | name x => exact dg_tup (n := 0) (all_cons (dg_str (by decide +kernel)) (all_cons (dg_str (nm_ok x h).1) all_nil)) (by simp)
  | num n => exact dg_tup (n := 0) (all_cons (dg_str (by decide +kernel)) (all_cons dg_int all_nil)) (by simp)
  | now => exact dg_tup (n := 0) (all_cons (dg_str (by decide +kernel)) all_nil) (by simp)
  | own => exact dg_tup (n := 0) (all_cons (dg_str (by decide +kernel)) all_nil) (by simp)
  | bin o l r ih1 ih2 => exact dg_tup (n := max l.depth r.depth + 1) (all_cons (dg_str (sg_ok o h.1).1) (all_cons (dg_mono (ih1 h.2.1) (by omega)) (all_cons (dg_mono (ih2 h.2.2) (by omega)) all_nil))) (by simp)
section
variable {P : Program} {w : World} {K : PySem.W.Frag} {mg : Str → Option Value} {base : Heap}
def spNm : Sp := fun vs H Q _ => ∃ m : Int, vs = [.int m] ∧ ∀ x H', x ∈ nm12 → Same H H' → Q (.str x) H'
theorem ok_nm (D : DefAt K mg "_law_name" s__law_name ["number"]) : OkD P w K mg base 1 "_law_name" ["number"] spNm := by
  refine D.ok sc__law_name (fun vs H Q E h => ?_) (fun f cdv A outer s H vs Q E hr h => ?_)
  · obtain ⟨n, rfl, _⟩ := h; rfl
  obtain ⟨m, rfl, q⟩ := h
  refine ⟨_, (pss_cons (ps_set (i := 1) sc__law_name.nd rfl (Or.inl rfl) (pe_lstG (pa_c pe_str (pa_c pe_str (pa_c pe_str (pa_c pe_str (pa_c pe_str (pa_c pe_str (pa_c pe_str (pa_c pe_str (pa_c pe_str (pa_c pe_str (pa_c pe_str (pa_c pe_str pa_nil))))))))))))))
  (pss_one (ps_ret (pe_ix ix_g (pv 1) (pe_op op_mod (pv 0) pe_int) (fun _ _ => rfl))))), ?_⟩
  walk_at "r2"
  refine ⟨by decide, fun p H1 hp g1 h1 => ?_⟩
  obtain ⟨v, hv, hm, _⟩ := atI_in (xs := nm12.map V.str) (i := m % 12) (by omega) (by show m % 12 < 12; omega)
  obtain ⟨x, hx, rfl⟩ := List.mem_map.mp hm
  walk_at "r2"
  exact ⟨_, hv, q x H1 hx g1⟩
def spLf (K : PySem.W.Frag) : Sp := fun vs H Q _ => ∃ m : Int, vs = [.int m] ∧ 0 ≤ m ∧ ∀ r H' t, Same H H' → Rp K (kp em H H') r (Tr.toD t) → t.gd → t.depth = 0 → t.size = 1 → Q r H'
theorem ok_lf (D : DefAt K mg "_law_leaf" s__law_leaf ["number"]) (G__law_name : OkD P w K mg base 1 "_law_name" ["number"] spNm) : OkD P w K mg base 2 "_law_leaf" ["number"] (spLf K) := by
  refine D.ok sc__law_leaf (fun vs H Q E h => ?_) (fun f cdv A outer s H vs Q E hr h => ?_)
  · obtain ⟨n, rfl, _⟩ := h; rfl
  obtain ⟨m, rfl, h0, q⟩ := h
  refine ⟨_, (pss_cons (ps_set (i := 1) sc__law_leaf.nd rfl (Or.inl rfl) (pe_op op_mod (pv 0) pe_int))
  (pss_cons (ps_if (pt_cmpR op_lt (pv 1) pe_int (nomark _))
  (pss_one (ps_ret (pe_tupG (pa_c pe_str (pa_c (pe_def G__law_name hr rfl (pa_c (pe_op op_fdiv (pv 0) pe_int) pa_nil)) pa_nil)))))
  pss_nil)
  (pss_cons (ps_if (pt_cmpR op_lt (pv 1) pe_int (nomark _))
  (pss_one (ps_ret (pe_tupG (pa_c pe_str (pa_c (pe_op op_mod (pe_op op_fdiv (pv 0) pe_int) (pe_ix ix_g (pe_lstG (pa_c pe_int (pa_c pe_int pa_nil))) (pe_op op_mod (pe_op op_fdiv (pv 0) pe_int) pe_int) (fun _ _ => rfl))) pa_nil)))))
  pss_nil)
  (pss_one (ps_ret (pe_ix ix_g (pe_lstG (pa_c (pe_tupG (pa_c pe_str pa_nil)) (pa_c (pe_tupG (pa_c pe_str pa_nil)) pa_nil))) (pe_op op_sub (pv 1) pe_int) (fun _ _ => rfl))))))), ?_⟩
  walk_at "r2"
  refine ite2 (fun c => ?_) (fun c => ?_)
  · walk_at "r2"
    refine ⟨_, rfl, fun x H1 hx g1 => ?_⟩
    walk_at "r2"
    intro p H2 hp g2 h2
    exact q _ _ (.name x) (g1.trans g2) (.tup (kp_new (g1.free hp) h2) (.cons (.str _) (.cons (.str _) .nil))) hx rfl rfl
  walk_at "r2"
  refine ite2 (fun c => ?_) (fun c => ?_)
  · walk_at "r2"
    intro p H1 hp g1 h1
    obtain ⟨x, hx, hm, _⟩ := atI_in (xs := [V.int 10, V.int 1000000]) (i := m / 80 % 2) (by omega) (by simp only [List.length_cons, List.length_nil]; omega)
    obtain ⟨n, rfl, hn, hn2⟩ : ∃ n : Int, x = V.int n ∧ 0 < n ∧ n ≤ 1000000 := by
      simp only [List.mem_cons, List.not_mem_nil, or_false] at hm
      rcases hm with rfl | rfl
      · exact ⟨_, rfl, by decide, by decide⟩
      · exact ⟨_, rfl, by decide, by decide⟩
    walk_at "r2"
    intro r H2 hr g2 h2
    have e1 := Int.emod_nonneg (m / 8) (Int.ne_of_gt hn)
    have e2 := Int.emod_lt_of_pos (m / 8) hn
    exact q _ _ (.num (m / 8 % n)) (g1.trans g2) (.tup (kp_new (g1.free hr) h2) (.cons (.str _) (.cons (.int _) .nil))) ⟨e1, Int.lt_of_lt_of_le e2 hn2⟩ rfl rfl
  · walk_at "r2"
    intro p H1 hp g1 h1
    walk_at "r2"
    intro r H2 hr g2 h2
    walk_at "r2"
    intro l H3 hl g3 h3
    have i01 : m % 8 - 6 = 0 ∨ m % 8 - 6 = 1 := by omega
    rcases i01 with e | e <;> walk_at "r2"
    · exact q _ _ .now ((g1.trans g2).trans g3) (.tup (kp_new hp (g3 _ _ (g2 _ _ h1))) (.cons (.str _) .nil)) True.intro rfl rfl
    · exact q _ _ .own ((g1.trans g2).trans g3) (.tup (kp_new (g1.free hr) (g3 _ _ h2)) (.cons (.str _) .nil)) True.intro rfl rfl
theorem signs : (Str.ofString "+-*").cps.toList = [43, 45, 42] := by decide +kernel
theorem signs_sz : (Str.ofString "+-*").length ≤ sizeLine := Nat.le_of_lt (small1000 (by decide +kernel))
def B : Nat → Int | 0 => 2402 | n + 1 => (B n - 2) / 2
theorem B_le (n : Nat) : B n ≤ 2402 := by
  induction n with
  | zero => exact Int.le_refl _
  | succ n ih => show (B n - 2) / 2 ≤ 2402; omega
theorem sg_of {x : Nat} (h : x ∈ [43, 45, 42]) : (⟨#[x]⟩ : Str) ∈ sg3 := by
  simp only [List.mem_cons, List.not_mem_nil, or_false] at h
  rcases h with rfl | rfl | rfl <;> simp [sg3]
def spTree (K : PySem.W.Frag) (n : Nat) : Sp := fun vs H Q _ => ∃ c k d : Int, vs = [.int c, .int k, .int d] ∧ 0 ≤ k ∧ 0 ≤ d ∧ d < n ∧ k ≤ B n ∧ ∀ r H' t, Same H H' → Rp K (kp em H H') r (Tr.toD t) → t.gd → t.depth < n → t.size < 2 ^ n → Q r H'
theorem ok_tree (D : DefAt K mg "_law_tree" s__law_tree ["cell", "k", "deep"]) (G__law_stir : OkD P w K mg base 1 "_law_stir" ["cell", "k"] spStir) (G__law_leaf : OkD P w K mg base 2 "_law_leaf" ["number"] (spLf K)) :
    ∀ n : Nat, OkD P w K mg base (n + 2) "_law_tree" ["cell", "k", "deep"] (spTree K n) := by
  intro n
  induction n with
  | zero => exact D.never _ fun vs H Q E h => by obtain ⟨_, _, _, _, _, h1, h2, _⟩ := h; omega
  | succ n G__law_tree =>
    refine D.ok sc__law_tree (fun vs H Q E h => ?_) (fun f cdv A outer s H vs Q E hr h => ?_)
    · obtain ⟨_, _, _, rfl, _⟩ := h; rfl
    obtain ⟨c, k, d, rfl, hk, hd0, hd1, hk2, q⟩ := h
    refine ⟨_, (pss_cons (ps_set (i := 3) sc__law_tree.nd rfl (Or.inl rfl) (pe_def G__law_stir hr rfl (pa_c (pv 0) (pa_c (pv 1) pa_nil))))
  (pss_cons (ps_if (PW.pt (pw_or (pt_cmpR op_eq (pv 2) pe_int (nomark _)) (pw_or1 (pt_cmpR op_eq (pe_op op_mod (pv 3) pe_int) pe_int (nomark _)))))
  (pss_one (ps_ret (pe_def G__law_leaf hr rfl (pa_c (pe_op op_fdiv (pv 3) pe_int) pa_nil))))
  pss_nil)
  (pss_cons (ps_set (i := 4) sc__law_tree.nd rfl (Or.inl rfl) (pe_ix ix_str pe_str (pe_op op_mod (pe_op op_fdiv (pv 3) pe_int) pe_int) (fun _ _ => rfl)))
  (pss_one (ps_ret (pe_tupG (pa_c (pv 4) (pa_c (pe_def G__law_tree hr rfl (pa_c (pv 0) (pa_c (pe_op op_add (pe_op op_mul pe_int (pv 1)) pe_int) (pa_c (pe_op op_sub (pv 2) pe_int) pa_nil)))) (pa_c (pe_def G__law_tree hr rfl (pa_c (pv 0) (pa_c (pe_op op_add (pe_op op_mul pe_int (pv 1)) pe_int) (pa_c (pe_op op_sub (pv 2) pe_int) pa_nil)))) pa_nil))))))))), ?_⟩
    have hk2' : k ≤ (B n - 2) / 2 := hk2
    have hb := B_le n
    have hp2 : (2 : Nat) ^ (n + 1) = 2 ^ n + 2 ^ n := by rw [Nat.pow_succ]; omega
    have hp1 : 0 < (2 : Nat) ^ n := Nat.pow_pos (by decide)
    have hd1' : d < n + 1 := by omega
    clear hd1
    walk_at "r2"
    refine ⟨c, k, rfl, hk, by omega, fun m e0 m0 m1 => ?_⟩
    clear e0
    have leaf : spLf K [V.int (m / 3)] H Q E0 := ⟨_, rfl, by omega, fun r H' t g e gd dp sz => q r H' t g e gd (by omega) (by omega)⟩
    walk_at "r2"
    refine ite2 (fun c0 => ?_) (fun c0 => ?_)
    · walk_at "r2"
    walk_at "r2"
    refine ite2 (fun c1 => ?_) (fun c1 => ?_)
    · walk_at "r2"
    clear leaf
    obtain ⟨x, hx, hm, _⟩ := atI_in (xs := [43, 45, 42]) (i := m / 3 % 3) (by omega) (by simp only [List.length_cons, List.length_nil]; omega)
    have ho := sg_of hm
    have sz := signs_sz
    have sg := signs
    walk_at "r2"
    refine ⟨c, 2 * k + 1, d - 1, rfl, by omega, by omega, by omega, by omega, fun r1 H1 t1 g1 e1 gd1 dp1 sz1 => ?_⟩
    refine ⟨c, 2 * k + 2, d - 1, rfl, by omega, by omega, by omega, by omega, fun r2 H2 t2 g2 e2 gd2 dp2 sz2 => ?_⟩
    intro p H3 hp g3 h3
    exact q _ _ (.bin ⟨#[x]⟩ t1 t2) ((g1.trans g2).trans g3) (.tup (kp_new (g1.free (g2.free hp)) h3) (.cons (.str _) (.cons (e1.mono (kp_mono (Same.refl _) (g2.trans g3))) (.cons (e2.mono (kp_mono g1 g3)) .nil)))) ⟨ho, gd1, gd2⟩ (by show max t1.depth t2.depth + 1 < n + 1; omega) (by show t1.size + t2.size + 1 < _; omega)
end
end K14
set_option Elab.async false
set_option linter.all false
set_option maxRecDepth 100000
set_option maxHeartbeats 4000000
namespace K14
open PySem L2
def Tr.hd : Tr → Str
  | .name _ => "name"
  | .num _ => "number"
  | .now => "now"
  | .own => "own"
  | .bin o _ _ => o
theorem rp_hd {K : PySem.W.Frag} {H : Hp} {v : V} {t : Tr} (h : Rp K H v t.toD) : ∃ a xs, v = .ref a ∧ H a = some (.tup (.str t.hd :: xs)) := by
  have : ∃ xs, t.toD = .tuple (.str t.hd :: xs) := by cases t <;> exact ⟨_, rfl⟩
  obtain ⟨xs, e⟩ := this
  rw [e] at h
  cases h with | tup a b => cases b with | cons b c => cases b; exact ⟨_, _, rfl, a⟩
theorem slen (a b : Str) : (a ++ b).length = a.length + b.length := by
  show (a.cps ++ b.cps).size = _
  rw [Array.size_append]; rfl
theorem lp_len : (Str.ofString "(").length = 1 := by decide +kernel
theorem rp_len : (Str.ofString ")").length = 1 := by decide +kernel
theorem num_log {n : Int} (h0 : 0 ≤ n) (h1 : n < 1000000) : n.natAbs.log2 < 1920 := by
  have : n.natAbs < 2 ^ 1920 := Nat.lt_of_lt_of_le (show n.natAbs < 2 ^ 30 by omega) (Nat.pow_le_pow_right (by decide) (by decide))
  by_cases z : n.natAbs = 0
  · rw [z]; decide
  · exact (Nat.log2_lt z).mpr this
theorem num_len {n : Int} (h0 : 0 ≤ n) (h1 : n < 1000000) : (Str.ofString (toString n)).length ≤ 6 := by
  obtain ⟨k, rfl⟩ := Int.eq_ofNat_of_zero_le h0
  have e : (Str.ofString (toString ((k : Nat) : Int))).cps.toList.length = (Str.ofString (toString ((k : Nat) : Int))).length := Array.length_toList
  rw [← e, show (Str.ofString (toString ((k : Nat) : Int))).cps.toList = (Nat.toDigits 10 k).map Char.toNat from PySem.W.KIN.signs_num k, List.length_map]
  exact PySem.toDigits_len_pow (by decide) (by decide) (by omega)
def Tot (H0 : Hp) (σ : St) (t : TT) : Prop := ∀ H, Same H0 H → ∀ Q : Bool → Hp → Prop, (∀ b H', Same H H' → Q b H') → t σ H Q
theorem tot_and {H0 : Hp} {σ : St} {t u : TT} (a : Tot H0 σ t) (b : Tot H0 σ u) : Tot H0 σ (tAnd t u) := fun H g Q q => a H g _ fun c H1 g1 => by
  cases c
  · exact q false H1 g1
  · exact b H1 (g.trans g1) Q fun d H2 g2 => q d H2 (g1.trans g2)
theorem tot_or {H0 : Hp} {σ : St} {t u : TT} (a : Tot H0 σ t) (b : Tot H0 σ u) : Tot H0 σ (tOr t u) := fun H g Q q => a H g _ fun c H1 g1 => by
  cases c
  · exact b H1 (g.trans g1) Q fun d H2 g2 => q d H2 (g1.trans g2)
  · exact q true H1 g1
theorem if_any {tc : TT} {tb u : TS} {D' : Ends} {σ : St} {H : Hp} (htc : Tot H σ tc) (h1 : ∀ H', Same H H' → tb D' σ H') (h2 : ∀ H', Same H H' → u D' σ H') : tIfS tc tb u D' σ H := htc H (Same.refl _) _ fun b H' g => by
  cases b
  · exact h2 H' g
  · exact h1 H' g
theorem tot_in {H0 : Hp} {σ : St} {a p : Addr} {xs ys : List V} {j : Int} {x w1 w2 : Str} (s0 : σ[0]? = some (some (.ref a))) (ha : H0 a = some (.tup xs)) (hj : atI xs j = some (.ref p)) (hp : H0 p = some (.tup ys)) (hx : atI ys 0 = some (.str x)) :
    Tot H0 σ (tTest (tOp (rInG false) (tOp rIxG (tOp rIxG (tVar 0) (tC (.int j))) (tC (.int 0))) (tLstG (tCons (tC (.str w1)) (tCons (tC (.str w2)) tNil))))) := fun H g Q q => by
  have a1 := g _ _ ha
  have p1 := g _ _ hp
  walk_at "r2"
  intro p3 H3 hp3 g3 h3
  have a2 := g3 _ _ a1
  have p2 := g3 _ _ p1
  walk_at "r2"
theorem tot_eq1 {H0 : Hp} {σ : St} {a : Addr} {xs : List V} {x w1 : Str} (s0 : σ[0]? = some (some (.ref a))) (ha : H0 a = some (.tup xs)) (hx : atI xs 0 = some (.str x)) : Tot H0 σ (tTest (tOp rEq (tOp rIxG (tVar 0) (tC (.int 0))) (tC (.str w1)))) := fun H g Q q => by
  have a1 := g _ _ ha
  walk_at "r2"
  exact q _ H (Same.refl _)
theorem tot_eq2 {H0 : Hp} {σ : St} {a p : Addr} {xs ys : List V} {j : Int} {x w1 : Str} (s0 : σ[0]? = some (some (.ref a))) (ha : H0 a = some (.tup xs)) (hj : atI xs j = some (.ref p)) (hp : H0 p = some (.tup ys)) (hx : atI ys 0 = some (.str x)) :
    Tot H0 σ (tTest (tOp rEq (tOp rIxG (tOp rIxG (tVar 0) (tC (.int j))) (tC (.int 0))) (tC (.str w1)))) := fun H g Q q => by
  have a1 := g _ _ ha
  have p1 := g _ _ hp
  walk_at "r2"
  exact q _ H (Same.refl _)
theorem tot_mod {H0 : Hp} {σ : St} {m : Int} {k : Int} (hk : 0 < k) (s1 : σ[1]? = some (some (.int m))) : Tot H0 σ (tTest (tOp rEq (tOp (rI (fun x j => 0 < j) fun i j => V.int (i % j)) (tVar 1) (tC (.int k))) (tC (.int 1)))) := fun H g Q q => by
  walk_at "r2"
  exact q _ H (Same.refl _)
section
variable {P : Program} {w : World} {K : PySem.W.Frag} {mg : Str → Option Value} {base : Heap}
def spWd (K : PySem.W.Frag) (n : Nat) : Sp := fun vs H Q _ => ∃ (v : V) (t : Tr) (m : Int), vs = [v, .int m] ∧ Rp K H v t.toD ∧ t.depth < n ∧ t.gd ∧ t.size ≤ 100 ∧ ∀ (w : Str) H', w.length ≤ 13 * t.size → Same H H' → Q (.str w) H'
theorem ok_worded (D : DefAt K mg "_law_worded" s__law_worded ["tree", "more"]) (hlen : mg "len" = none) (hstr : mg "str" = none) : ∀ n : Nat, OkD P w K mg base (n + 1) "_law_worded" ["tree", "more"] (spWd K n) := by
  intro n
  induction n with
  | zero => exact D.never _ fun vs H Q E h => by obtain ⟨_, _, _, _, _, h1, _⟩ := h; omega
  | succ n G__law_worded =>
    refine D.ok sc__law_worded (fun vs H Q E h => ?_) (fun f cdv A outer s H vs Q E hr h => ?_)
    · obtain ⟨_, _, _, rfl, _⟩ := h; rfl
    obtain ⟨v, t, m, rfl, rp, dp, gd, sz, q⟩ := h
    refine ⟨_, (pss_cons (ps_if (pt_cmpR op_eq (pe_cB call_lenG rfl hlen PySem.boot_len (pa_c (pv 0) pa_nil)) pe_int (nomark _))
  (pss_one (ps_ret (pe_ix ix_g (pv 0) pe_int (fun _ _ => rfl))))
  pss_nil)
  (pss_cons (ps_if (pt_cmpR op_eq (pe_cB call_lenG rfl hlen PySem.boot_len (pa_c (pv 0) pa_nil)) pe_int (nomark _))
  (pss_one (ps_ret (pe_cTy call_strG rfl hstr (by decide +kernel) (pa_c (pe_ix ix_g (pv 0) pe_int (fun _ _ => rfl)) pa_nil))))
  pss_nil)
  (pss_cons (ps_set (i := 2) sc__law_worded.nd rfl (Or.inl rfl) (pe_def G__law_worded hr rfl (pa_c (pe_ix ix_g (pv 0) pe_int (fun _ _ => rfl)) (pa_c (pe_op op_fdiv (pv 1) pe_int) pa_nil))))
  (pss_cons (ps_set (i := 3) sc__law_worded.nd rfl (Or.inl rfl) (pe_def G__law_worded hr rfl (pa_c (pe_ix ix_g (pv 0) pe_int (fun _ _ => rfl)) (pa_c (pe_op op_fdiv (pv 1) pe_int) pa_nil))))
  (pss_cons (ps_up (ps_if (PW.pt (pw_or (PW.pt (pw_and (pt_cmpR op_eq (pe_ix ix_g (pv 0) pe_int (fun _ _ => rfl)) pe_str (nomark _)) (pw_and1 (pt_cmpR op_inG (pe_ix ix_g (pe_ix ix_g (pv 0) pe_int (fun _ _ => rfl)) pe_int (fun _ _ => rfl)) (pe_lstG (pa_c pe_str (pa_c pe_str pa_nil))) (by with_unfolding_all rfl))))) (pw_or1 (pt_cmpR op_eq (pe_op op_mod (pv 1) pe_int) pe_int (nomark _)))))
  (pss_one (ps_set (i := 2) sc__law_worded.nd rfl (Or.inl rfl) (pe_op op_add_str (pe_op op_add_str pe_str (pv 2)) pe_str)))
  pss_nil))
  (pss_cons (ps_up (ps_if (PW.pt (pw_or (pt_cmpR op_inG (pe_ix ix_g (pe_ix ix_g (pv 0) pe_int (fun _ _ => rfl)) pe_int (fun _ _ => rfl)) (pe_lstG (pa_c pe_str (pa_c pe_str pa_nil))) (by with_unfolding_all rfl)) (pw_or (PW.pt (pw_and (pt_cmpR op_eq (pe_ix ix_g (pv 0) pe_int (fun _ _ => rfl)) pe_str (nomark _)) (pw_and1 (pt_cmpR op_eq (pe_ix ix_g (pe_ix ix_g (pv 0) pe_int (fun _ _ => rfl)) pe_int (fun _ _ => rfl)) pe_str (nomark _))))) (pw_or1 (pt_cmpR op_eq (pe_op op_mod (pv 1) pe_int) pe_int (nomark _))))))
  (pss_one (ps_set (i := 3) sc__law_worded.nd rfl (Or.inl rfl) (pe_op op_add_str (pe_op op_add_str pe_str (pv 3)) pe_str)))
  pss_nil))
  (pss_one (ps_ret (pe_op op_add_str (pe_op op_add_str (pv 2) (pe_ix ix_g (pv 0) pe_int (fun _ _ => rfl))) (pv 3)))))))))), ?_⟩
    have big : 100000 ≤ sizeLine := by unfold sizeLine; decide
    cases t with
    | name x =>
      obtain ⟨a, x1, x2, rfl, ha, h1, h2⟩ := Rp.tup2 rp
      cases h1.str_inv
      cases h2.str_inv
      walk_at "r2"
      rw [if_neg (by decide)]
      walk_at "r2"
      rw [if_pos (by decide)]
      walk_at "r2"
      exact q x H (by have := (nm_ok x gd).2; show x.length ≤ 13 * 1; omega) (Same.refl _)
    | num k =>
      obtain ⟨a, x1, x2, rfl, ha, h1, h2⟩ := Rp.tup2 rp
      cases h1.str_inv
      cases h2.int_inv
      obtain ⟨k0, k1⟩ := gd
      walk_at "r2"
      rw [if_neg (by decide)]
      walk_at "r2"
      rw [if_pos (by decide)]
      walk_at "r2"
      exact ⟨num_log k0 k1, q _ H (by have := num_len k0 k1; show _ ≤ 13 * 1; omega) (Same.refl _)⟩
    | now =>
      obtain ⟨a, x1, rfl, ha, h1⟩ := Rp.tup1 rp
      cases h1.str_inv
      walk_at "r2"
      rw [if_pos (by decide)]
      walk_at "r2"
      exact q _ H (by decide +kernel) (Same.refl _)
    | own =>
      obtain ⟨a, x1, rfl, ha, h1⟩ := Rp.tup1 rp
      cases h1.str_inv
      walk_at "r2"
      rw [if_pos (by decide)]
      walk_at "r2"
      exact q _ H (by decide +kernel) (Same.refl _)
    | bin o l r =>
      obtain ⟨a, x1, x2, x3, rfl, ha, h1, h2, h3⟩ := Rp.tup3 rp
      cases h1.str_inv
      have sz' : l.size + r.size + 1 ≤ 100 := sz
      have dp' : max l.depth r.depth + 1 < n + 1 := dp
      walk_at "r2"
      rw [if_neg (by decide)]
      walk_at "r2"
      rw [if_neg (by decide)]
      walk_at "r2"
      refine ⟨_, l, m / 2, rfl, h2, by omega, gd.2.1, by omega, fun wl H1 W1 g1 => ?_⟩
      have ha1 := g1 _ _ ha
      clear ha
      walk_at "r2"
      refine ⟨_, r, m / 3, rfl, h3.mono g1, by omega, gd.2.2, by omega, fun wr H2 W2 g2 => ?_⟩
      have ha2 := g2 _ _ ha1
      have g12 := g1.trans g2
      have rl := h2.mono g12
      have rr := h3.mono g12
      clear h2 h3 ha1 g1 g2 rp
      obtain ⟨pl, xsl, rfl, hl⟩ := rp_hd rl
      obtain ⟨pr, xsr, rfl, hr'⟩ := rp_hd rr
      have lo := (sg_ok o gd.1).2
      clear rl rr gd dp sz
      have a0 : atI [V.str o, V.ref pl, V.ref pr] 0 = some (.str o) := atI_0
      have a1 : atI [V.str o, V.ref pl, V.ref pr] 1 = some (.ref pl) := atI_1
      have a2 : atI [V.str o, V.ref pl, V.ref pr] 2 = some (.ref pr) := atI_2
      refine seq_ms (σ := [some (.ref a), some (.int m), some (.str wl), some (.str wr)]) (fun σ' H' => ∃ L : Str, L.length ≤ 13 * l.size + 2 ∧ Same H2 H' ∧ σ' = [some (.ref a), some (.int m), some (.str L), some (.str wr)]) (fun D' eD => if_any (tot_or (tot_and (tot_eq1 rfl ha2 a0) (tot_in rfl ha2 a1 hl atI_0)) (tot_mod (by decide) rfl)) (fun H' g => ?_) fun H' g => ?_) ?_
      · clear ha2 hl hr'
        have e1 := lp_len
        have e2 := rp_len
        walk_at "r2"
        refine ⟨by omega, ?_⟩
        walk_at "r2"
        rw [slen, e1]
        refine ⟨by omega, ?_⟩
        rw [eD]
        exact ⟨_, by rw [slen, slen, e1, e2]; omega, g, rfl⟩
      · rw [tNext, eD]
        exact ⟨wl, by omega, g, rfl⟩
      · rintro σ' H3 ⟨L, WL, g3, rfl⟩
        have ha3 := g3 _ _ ha2
        have hr3 := g3 _ _ hr'
        clear ha2 hl hr'
        refine seq_ms (fun σ' H' => ∃ R : Str, R.length ≤ 13 * r.size + 2 ∧ Same H3 H' ∧ σ' = [some (.ref a), some (.int m), some (.str L), some (.str R)]) (fun D' eD => if_any (tot_or (tot_in rfl ha3 a2 hr3 atI_0) (tot_or (tot_and (tot_eq1 rfl ha3 a0) (tot_eq2 rfl ha3 a2 hr3 atI_0)) (tot_mod (by decide) rfl))) (fun H' g => ?_) fun H' g => ?_) ?_
        · clear ha3 hr3
          have e1 := lp_len
          have e2 := rp_len
          walk_at "r2"
          refine ⟨by omega, ?_⟩
          walk_at "r2"
          rw [slen, e1]
          refine ⟨by omega, ?_⟩
          rw [eD]
          exact ⟨_, by rw [slen, slen, e1, e2]; omega, g, rfl⟩
        · rw [tNext, eD]
          exact ⟨wr, by omega, g, rfl⟩
        · rintro σ' H4 ⟨R, WR, g4, rfl⟩
          have ha4 := g4 _ _ ha3
          clear ha3 hr3
          walk_at "r2"
          refine ⟨by omega, ?_⟩
          walk_at "r2"
          rw [slen, lo]
          refine ⟨by omega, q _ H4 ?_ (g12.trans (g3.trans g4))⟩
          rw [slen, slen, lo]
          show _ ≤ 13 * (l.size + r.size + 1)
          omega
end
end K14
set_option Elab.async false
set_option linter.all false
set_option maxRecDepth 100000
set_option maxHeartbeats 4000000
namespace K14
open PySem L2
section
variable {P : Program} {w : World} {K : PySem.W.Frag} {mg : Str → Option Value} {base : Heap}
def spDe : Sp := fun vs H Q _ => ∃ x : Str, vs = [.str x] ∧ x.length ≤ 5000 ∧ ∀ m : Int, Q (.int m) H
theorem ok_de (D : DefAt K mg "_law_deepest" s__law_deepest ["word"]) (hint : mg "int" = none) (hmax : mg "max" = none) : OkD P w K mg base 1 "_law_deepest" ["word"] spDe := by
  refine D.ok sc__law_deepest (fun vs H Q E h => ?_) (fun f cdv A outer s H vs Q E hr h => ?_)
  · obtain ⟨x, rfl, _⟩ := h; rfl
  obtain ⟨x, rfl, lx, q⟩ := h
  refine ⟨_, (pss_cons (ps_set (i := 1) sc__law_deepest.nd rfl (Or.inl rfl) pe_int)
  (pss_cons (ps_set (i := 2) sc__law_deepest.nd rfl (Or.inl rfl) pe_int)
  (pss_cons (ps_for PassesOwn.never rfl (pi_str (pv 0)) (pg_name (i := 3) sc__law_deepest.nd rfl (Or.inl rfl))
  (pss_cons (ps_set (i := 1) sc__law_deepest.nd rfl (Or.inl rfl) (pe_op op_sub (pe_op op_add (pv 1) (pe_cTy call_int1 rfl hint (by decide +kernel) (pa_c (pe_cmpR op_eq (pv 3) pe_str (nomark _)) pa_nil))) (pe_cTy call_int1 rfl hint (by decide +kernel) (pa_c (pe_cmpR op_eq (pv 3) pe_str (nomark _)) pa_nil))))
  (pss_one (ps_set (i := 2) sc__law_deepest.nd rfl (Or.inl rfl) (pe_cB (call_max2 rfl) rfl hmax (by decide +kernel) (pa_c (pv 2) (pa_c (pv 1) pa_nil)))))))
  (pss_one (ps_ret (pv 2)))))), ?_⟩
  walk_at "r2"
  refine tfor_str x (fun R h => ?_) (fun _ σ H' => H' = H ∧ ∃ a b v3, σ = [some (.str x), some (.int a), some (.int b), v3]) ⟨rfl, _, _, _, rfl⟩ ?_ ?_
  · walk_at "r2"
  · rintro l ch r σ H1 _ ⟨rfl, a, b, v3, rfl⟩
    walk_at "r2"
  · rintro σ H1 ⟨rfl, a, b, v3, rfl⟩
    walk_at "r2"
def ExI (H0 : Hp) (c k : Int) (r : V) (i : Nat) (σ : St) (H : Hp) : Prop := ∃ v3 v4, Same H0 H ∧ σ = [some (.int c), some (.int k), some r, v3, v4]
def spEx (K : PySem.W.Frag) : Sp := fun vs H Q _ => ∃ c k : Int, vs = [.int c, .int k] ∧ 0 ≤ k ∧ k ≤ 100 ∧ ∀ (p : Addr) (H' : Hp) (x : Str) (tv : V) (t : Tr), H p = none → Same H H' → H' p = some (.lst [.str x, tv]) → x.length ≤ 60 → Rp K (kp em H H') tv t.toD → t.gd → t.depth ≤ 3 → Q (.ref p) H'
theorem ok_ex (D : DefAt K mg "_law_expr" s__law_expr ["cell", "k"]) (hlen : mg "len" = none) (G__law_stir : OkD P w K mg base 1 "_law_stir" ["cell", "k"] spStir) (G__law_tree : OkD P w K mg base 6 "_law_tree" ["cell", "k", "deep"] (spTree K 4)) (G__law_worded : OkD P w K mg base 5 "_law_worded" ["tree", "more"] (spWd K 4)) (G__law_deepest : OkD P w K mg base 1 "_law_deepest" ["word"] spDe) : OkD P w K mg base 7 "_law_expr" ["cell", "k"] (spEx K) := by
  refine D.ok sc__law_expr (fun vs H Q E h => ?_) (fun f cdv A outer s H vs Q E hr h => ?_)
  · obtain ⟨_, _, rfl, _⟩ := h; rfl
  obtain ⟨c, k, rfl, k0, k1, q⟩ := h
  refine ⟨_, (pss_cons (ps_set (i := 2) sc__law_expr.nd rfl (Or.inl rfl) (pe_def G__law_tree hr rfl (pa_c (pv 0) (pa_c (pv 1) (pa_c (pe_op op_mod (pe_def G__law_stir hr rfl (pa_c (pv 0) (pa_c (pe_op op_add (pv 1) pe_int) pa_nil))) pe_int) pa_nil)))))
  (pss_cons (ps_for PassesOwn.never rfl (pi_list (pe_lstG (pa_c (pe_def G__law_stir hr rfl (pa_c (pv 0) (pa_c (pe_op op_add (pv 1) pe_int) pa_nil))) (pa_c pe_int pa_nil)))) (pg_name (i := 3) sc__law_expr.nd rfl (Or.inl rfl))
  (pss_cons (ps_set (i := 4) sc__law_expr.nd rfl (Or.inl rfl) (pe_def G__law_worded hr rfl (pa_c (pv 2) (pa_c (pv 3) pa_nil))))
  (pss_one (ps_if (PW.pt (pw_and (pt_cmpR op_le (pe_cB call_len_str rfl hlen PySem.boot_len (pa_c (pv 4) pa_nil)) pe_int (nomark _)) (pw_and1 (pt_cmpR op_lt (pe_def G__law_deepest hr rfl (pa_c (pv 4) pa_nil)) pe_int (nomark _)))))
  (pss_one (ps_ret (pe_lstG (pa_c (pv 4) (pa_c (pv 2) pa_nil)))))
  pss_nil))))
  (pss_one (ps_ret (pe_lstG (pa_c pe_str (pa_c (pe_tupG (pa_c pe_str (pa_c (pe_tupG (pa_c pe_str (pa_c (pe_tupG (pa_c pe_str (pa_c pe_str pa_nil))) (pa_c (pe_tupG (pa_c pe_str (pa_c pe_str pa_nil))) pa_nil)))) (pa_c (pe_tupG (pa_c pe_str (pa_c pe_int pa_nil))) pa_nil)))) pa_nil))))))), ?_⟩
  have big : 100000 ≤ sizeLine := by unfold sizeLine; decide
  have b4 : (100 : Int) ≤ B 4 := by decide
  walk_at "r2"
  refine ⟨_, _, rfl, by omega, by omega, fun m e0 m0 m1 => ?_⟩
  clear e0
  walk_at "r2"
  refine ⟨c, k, m % 4, rfl, k0, by omega, by omega, by omega, fun r H1 t g1 rt gd dp sz => ?_⟩
  walk_at "r2"
  refine tfor_in ?_
  simp only [iList]
  walk_at "r2"
  refine ⟨_, _, rfl, by omega, by omega, fun m' e0 m0' m1' => ?_⟩
  clear e0
  walk_at "r2"
  intro lp H2 hlp g2 h2
  have g12 := g1.trans g2
  refine ⟨_, rfl, ⟨_, SqL.of h2⟩, for_list (xs := [V.int m', V.int 0]) (ExI H2 c k r) ⟨_, _, Same.refl _, rfl⟩ (fun i σ H3 _ z => ?_) (fun i x σ H3 hx z => ?_) fun σ H3 z => ?_⟩
  · obtain ⟨_, _, z, _⟩ := z
    exact SqL.of (z _ _ h2)
  · obtain ⟨v3, v4, g3, rfl⟩ := z
    obtain ⟨mm, rfl⟩ : ∃ mm : Int, x = .int mm := by
      rcases i with _ | _ | i
      · cases hx; exact ⟨_, rfl⟩
      · cases hx; exact ⟨_, rfl⟩
      · simp at hx
    have r3 := (rt.mono kp_le).mono (g2.trans g3)
    walk_at "r2"
    refine ⟨_, t, mm, rfl, r3, dp, gd, by omega, fun wd H4 lw g4 => ?_⟩
    walk_at "r2"
    refine ⟨by omega, ?_⟩
    walk_at "r2"
    refine ite2 (fun c1 => ?_) fun c1 => ?_
    · walk_at "r2"
      refine ⟨_, rfl, by omega, fun dm => ?_⟩
      walk_at "r2"
      refine ite2 (fun c2 => ?_) fun c2 => ?_
      · walk_at "r2"
        intro p5 H5 hp5 g5 h5
        exact q p5 H5 wd r t (g12.free (g3.free (g4.free hp5))) (g12.trans (g3.trans (g4.trans g5))) h5 (by omega) (rt.mono (kp_mono (Same.refl _) (g2.trans (g3.trans (g4.trans g5))))) gd (by omega)
      · exact ⟨_, _, g3.trans g4, rfl⟩
    · exact ⟨_, _, g3.trans g4, rfl⟩
  · obtain ⟨v3, v4, g3, rfl⟩ := z
    walk_at "r2"
    intro p4 H4 hp4 g4 h4
    walk_at "r2"
    intro p5 H5 hp5 g5 h5
    walk_at "r2"
    intro p6 H6 hp6 g6 h6
    walk_at "r2"
    intro p7 H7 hp7 g7 h7
    walk_at "r2"
    intro p8 H8 hp8 g8 h8
    walk_at "r2"
    intro p9 H9 hp9 g9 h9
    have gg := g12.trans g3
    have n4 := gg.free hp4
    have n5 := gg.free (g4.free hp5)
    have n6 := gg.free (g4.free (g5.free hp6))
    have n7 := gg.free (g4.free (g5.free (g6.free hp7)))
    have n8 := gg.free (g4.free (g5.free (g6.free (g7.free hp8))))
    refine q p9 H9 _ (.ref p8) (.bin (Str.ofString "-") (.bin (Str.ofString "*") (.name "m") (.name "m")) (.num 1)) (gg.free (g4.free (g5.free (g6.free (g7.free (g8.free hp9)))))) (gg.trans (g4.trans (g5.trans (g6.trans (g7.trans (g8.trans g9)))))) h9 (by decide +kernel) ?_ ⟨by decide +kernel, ⟨by decide +kernel, by show _ ∈ nm12; decide +kernel, by show _ ∈ nm12; decide +kernel⟩, by decide, by decide⟩ (by decide)
    exact .tup (kp_new n8 (g9 _ _ h8)) (.cons (.str _) (.cons (.tup (kp_new n6 (g9 _ _ (g8 _ _ (g7 _ _ h6)))) (.cons (.str _) (.cons (.tup (kp_new n4 (g9 _ _ (g8 _ _ (g7 _ _ (g6 _ _ (g5 _ _ h4)))))) (.cons (.str _) (.cons (.str _) .nil))) (.cons (.tup (kp_new n5 (g9 _ _ (g8 _ _ (g7 _ _ (g6 _ _ h5))))) (.cons (.str _) (.cons (.str _) .nil))) .nil)))) (.cons (.tup (kp_new n7 (g9 _ _ (g8 _ _ h7))) (.cons (.str _) (.cons (.int _) .nil))) .nil)))
end
end K14
set_option Elab.async false
set_option linter.all false
set_option maxRecDepth 100000
set_option maxHeartbeats 4000000
namespace K14
open PySem L2
def noN : List Str := ["tool", "store", "row", "hand", "end", "wait", "take", "give", "put", "get", "let", "draw", "say", "start", "if", "else", "while", "stop", "now", "own"]
theorem if_val {tc : TT} {tb u : TS} {D' : Ends} {σ : St} {H : Hp} (b : Bool) (htc : ∀ Q : Bool → Hp → Prop, (∀ H', Same H H' → Q b H') → tc σ H Q) (h1 : b = true → ∀ H', Same H H' → tb D' σ H') (h2 : b = false → ∀ H', Same H H' → u D' σ H') : tIfS tc tb u D' σ H := htc _ fun H' g => by
  cases b
  · exact h2 rfl H' g
  · exact h1 rfl H' g
section
variable {P : Program} {w : World} {K : PySem.W.Frag} {mg : Str → Option Value} {base : Heap}
def spBar : Sp := fun vs H Q _ => vs = [] ∧ ∀ p H', Same H H' → H' p = some (.lst (noN.map V.str)) → Q (.ref p) H'
theorem ok_barred (D : DefAt K mg "_law_barred" s__law_barred []) : OkD P w K mg base 1 "_law_barred" [] spBar := by
  refine D.ok sc__law_barred (fun vs H Q E h => ?_) (fun f cdv A outer s H vs Q E hr h => ?_)
  · rw [h.1]; rfl
  obtain ⟨rfl, q⟩ := h
  refine ⟨_, (pss_cons (ps_set (i := 0) sc__law_barred.nd rfl (Or.inl rfl) (pe_lstG (pa_c pe_str (pa_c pe_str (pa_c pe_str (pa_c pe_str (pa_c pe_str (pa_c pe_str (pa_c pe_str (pa_c pe_str (pa_c pe_str (pa_c pe_str (pa_c pe_str (pa_c pe_str (pa_c pe_str (pa_c pe_str pa_nil))))))))))))))))
  (pss_one (ps_ret (pe_op op_catG (pv 0) (pe_lstG (pa_c pe_str (pa_c pe_str (pa_c pe_str (pa_c pe_str (pa_c pe_str (pa_c pe_str pa_nil))))))))))), ?_⟩
  walk_at "r2"
  refine ⟨by decide +kernel, ?_⟩
  intro p H1 hp g1 h1
  walk_at "r2"
  intro p2 H2 hp2 g2 h2
  have h12 := g2 _ _ h1
  clear h1
  walk_at "r2"
  exact ⟨by unfold sizeLine; decide, fun p3 H3 hp3 g3 h3 => q p3 H3 (g1.trans (g2.trans g3)) h3⟩
def spCa : Sp := fun vs H Q _ => ∃ (p : Addr) (l : List Int), vs = [.ref p, .int 0] ∧ H p = some (.lst (l.map V.int)) ∧ ∀ m : Int, Q (.int m) H
def letS : Str := "abcdefghijklmnopqrstuvwxyz"
def ltr (i : Int) : Str := ⟨#[97 + i.toNat]⟩
theorem ltr_all : ∀ i : Fin 26, (Str.ofString "abcdefghijklmnopqrstuvwxyz").cps.toList[i.val]? = some (97 + i.val) := by decide +kernel
theorem ltr_at {i : Int} (h0 : 0 ≤ i) (h1 : i < 26) : atI (Str.ofString "abcdefghijklmnopqrstuvwxyz").cps.toList i = some (97 + i.toNat) := by
  have := ltr_all ⟨i.toNat, by omega⟩
  have e := atI_nat (xs := (Str.ofString "abcdefghijklmnopqrstuvwxyz").cps.toList) (j := i.toNat) this
  rw [Int.toNat_of_nonneg h0] at e
  exact e
theorem sl_len (a : Str) (lo hi : Option Int) : (PySem.Txt.slice a lo hi).length ≤ a.length := by
  unfold PySem.Txt.slice
  split
  · exact Nat.le_refl _
  · show (List.toArray _).size ≤ _
    rw [List.size_toArray]
    exact Nat.le_trans (List.length_filterMap_le ..) (PyProof.Rows.indices_len_le _ _ _)
theorem slice_ok {y : Str} {l u : Option Int} (h : PyData.strOk y = true) : PyData.strOk (PySem.Txt.slice y l u) = true := by
  unfold PySem.Txt.slice
  split
  · exact h
  · unfold PyData.strOk at h ⊢
    rw [← Array.all_toList, List.all_eq_true] at h ⊢
    intro c hc
    simp only [List.toList_toArray] at hc
    obtain ⟨i, _, hi⟩ := List.mem_filterMap.mp hc
    refine h c ?_
    rw [Array.getElem?_eq_some_iff] at hi
    obtain ⟨hlt, rfl⟩ := hi
    exact Array.mem_toList_iff.mpr (Array.getElem_mem hlt)
def szF (hd k : Int) : Nat := (1 + stirF hd k % 8).toNat
def stL (hd k : Int) (n : Nat) : List Str := (List.range n).map fun j : Nat => ltr (stirF hd (k + 1 + (j : Int)) % 26)
theorem stL_w (hd k : Int) (n : Nat) (h : n ≤ 8) : ((stL hd k n).map (·.length)).sum + (stL hd k n).length ≤ 1048576 := by
  have l : (stL hd k n).length = n := by unfold stL; rw [List.length_map, List.length_range]
  have s : ((stL hd k n).map (·.length)).sum = n := by
    unfold stL
    rw [List.map_map]
    induction n with
    | zero => rfl
    | succ n ih => rw [List.range_succ, List.map_append, List.sum_append, ih (by omega) (by unfold stL; rw [List.length_map, List.length_range])]; rfl
  omega
theorem szF_le (hd k : Int) : szF hd k ≤ 8 := by unfold szF; omega
def stemF (hd k : Int) : Str := Txt.join (Str.ofString "") (stL hd k (szF hd k))
theorem stemF_len (hd k : Int) : (stemF hd k).length ≤ 8 := by
  unfold stemF
  rw [PySem.W.KT.join_ones _ (fun a h => by unfold stL at h; obtain ⟨j, _, rfl⟩ := List.mem_map.mp h; rfl)]
  unfold stL
  rw [List.length_map, List.length_range]
  exact szF_le hd k
def StP (hd k : Int) (i : Nat) (ys : List V) (σ1 : St) (H' : Hp) : Prop := ys = (stL hd k i).map V.str ∧ ∃ v0, σ1 = [v0, some (.int hd), some (.int k), some (.str "abcdefghijklmnopqrstuvwxyz")]
def w0F (stem : Str) (sz : Nat) (m : Int) : Str := Txt.slice stem none (some (m % (sz : Int))) ++ ltr (m / 8 % 26) ++ Txt.slice stem (some (m % (sz : Int) + 1)) none
def w1F (stem : Str) (sz : Nat) (m : Int) : Str := if m / 208 % 4 = 0 then Txt.slice stem none (some (m % (sz : Int) + 1)) else w0F stem sz m
def zz9 : List Str := (List.range 9).map fun n : Nat => Str.ofString "zz" ++ ltr (n : Int)
def zzF2 (l zs : List Str) : List Str := zs.filter fun x => !decide (x ∈ l)
def zzF (l : List Str) : List Str := zz9.filter fun x => !decide (x ∈ l)
def w2F (l : List Str) (x : Str) (m : Int) : Str := if x ∈ l ∨ x ∈ noN then (zzF l).getD (m / 832 % 2).toNat x else x
theorem zz_nd : ∀ x, zz9.count x ≤ 1 := List.nodup_iff_count.mp (by decide +kernel)
theorem cnt_or (x : Str) (l zs : List Str) : zs.countP (fun z => decide (z ∈ x :: l)) ≤ zs.count x + zs.countP (fun z => decide (z ∈ l)) := by
  induction zs with
  | nil => exact Nat.le_refl _
  | cons z zs ih =>
    rw [List.countP_cons, List.countP_cons, List.count_cons]
    by_cases c1 : z = x
    · simp [c1]; simp at ih; omega
    · by_cases c2 : z ∈ l
      · simp [c1, c2]; simp at ih; omega
      · simp [c1, c2]; simp at ih; omega
theorem cnt_in (l : List Str) : zz9.countP (fun z => decide (z ∈ l)) ≤ l.length := by
  induction l with
  | nil => simp
  | cons x l ih => have := cnt_or x l zz9; have := zz_nd x; rw [List.length_cons]; omega
theorem zz_len {l : List Str} (h : l.length ≤ 7) : 2 ≤ (zzF l).length := by
  have a := cnt_in l
  have b := List.length_eq_countP_add_countP (fun z => decide (z ∈ l)) (l := zz9)
  have c : zz9.length = 9 := by decide +kernel
  unfold zzF
  rw [← List.countP_eq_length_filter]
  have d : zz9.countP (fun x => !decide (x ∈ l)) = zz9.countP (fun a => decide ¬ (decide (a ∈ l)) = true) := by congr 1; funext a; simp
  rw [d]
  omega
def namesF (hd k : Int) : Nat → List Str
  | 0 => []
  | j + 1 => namesF hd k j ++ [w2F (namesF hd k j) (w1F (stemF hd k) (szF hd k) (stirF hd (k + 9 + (j : Int)))) (stirF hd (k + 9 + (j : Int)))]
theorem namesF_len (hd k : Int) (n : Nat) : (namesF hd k n).length = n := by
  induction n with
  | zero => rfl
  | succ n ih => show (_ ++ [_]).length = _; rw [List.length_append, ih]; rfl
def NsI (nf : Nat → List Str) (H0 : Hp) (fp : Addr) (σ0 : St) (i : Nat) (σ : St) (H : Hp) : Prop := ∃ v7 v8 v9 v10, Same H0 H ∧ H fp = some (.lst ((nf i).map V.str)) ∧ σ = σ0 ++ [v7, v8, v9, v10]
def ZzP (i : Nat) (ys : List V) (σ1 : St) (H' : Hp) : Prop := ys = (zz9.take i).map V.str ∧ ∃ v0, σ1 = [v0, some (.str "abcdefghijklmnopqrstuvwxyz")]
def ZfP (l : List Str) (fp : Addr) (i : Nat) (ys : List V) (σ1 : St) (H' : Hp) : Prop := ys = (zzF2 l (zz9.take i)).map V.str ∧ ∃ v0, σ1 = [v0, some (.ref fp)]
def spNs (f : Int → Int → Nat → List Str) : Sp := fun vs H Q _ => ∃ (hd k : Int) (n : Nat), vs = [.int hd, .int k, .int n] ∧ 0 ≤ k ∧ k ≤ 900 ∧ n ≤ 8 ∧ ∀ (p : Addr) (H' : Hp), H p = none → Same H H' → H' p = some (.lst ((f hd k n).map V.str)) → Q (.ref p) H'
theorem ok_ns (D : DefAt K mg "_law_names" s__law_names ["head", "k", "many"]) (hrange : mg "range" = none) (G__law_stir : OkD P w K mg base 1 "_law_stir" ["cell", "k"] spStir) (G__law_barred : OkD P w K mg base 1 "_law_barred" [] spBar) : OkD P w K mg base 2 "_law_names" ["head", "k", "many"] (spNs namesF) := by
  refine D.ok sc__law_names (fun vs H Q E h => ?_) (fun f cdv A outer s H vs Q E hr h => ?_)
  · obtain ⟨_, _, _, rfl, _⟩ := h; rfl
  obtain ⟨hd, k, n, rfl, k0, k1, n8, q⟩ := h
  refine ⟨_, (pss_cons (ps_set (i := 3) sc__law_names.nd rfl (Or.inr rfl) pe_str)
  (pss_cons (ps_set (i := 4) sc__law_names.nd rfl (Or.inl rfl) (pe_op op_add pe_int (pe_op op_mod (pe_def G__law_stir hr rfl (pa_c (pv 0) (pa_c (pv 1) pa_nil))) pe_int)))
  (pss_cons (ps_set (i := 5) sc__law_names.nd rfl (Or.inl rfl) (pe_join pe_str (pe_compN (comp_scopeN 1 (N := ["j", "head", "k", "letters"]) (cap := [0, 1, 3]) rfl rfl rfl rfl (by decide +kernel) rfl rfl rfl) rfl (pi_range1 rfl hrange (pa_c (pv 4) pa_nil)) (fun _ _ _ _ => (pg_name (i := 0) (show List.Nodup (α := Str) ["j", "head", "k", "letters"] by decide +kernel) rfl (Or.inl (lookup_relabel_local rfl)) (Or.inr (lookup_relabel_local rfl)))) (fun _ _ _ _ => pts_nil) (fun _ _ _ _ => (pe_ix ix_str (pv 3) (pe_op op_mod (pe_def G__law_stir hr rfl (pa_c (pv 1) (pa_c (pe_op op_add (pe_op op_add (pv 2) pe_int) (pv 0)) pa_nil))) pe_int) (fun _ _ => rfl))))))
  (pss_cons (ps_set (i := 6) sc__law_names.nd rfl (Or.inr rfl) (pe_lstG pa_nil))
  (pss_cons (ps_for PassesOwn.never rfl (pi_range1 rfl hrange (pa_c (pv 2) pa_nil)) (pg_name (i := 7) sc__law_names.nd rfl (Or.inl rfl))
  (pss_cons (ps_set (i := 8) sc__law_names.nd rfl (Or.inl rfl) (pe_def G__law_stir hr rfl (pa_c (pv 0) (pa_c (pe_op op_add (pe_op op_add (pv 1) pe_int) (pv 7)) pa_nil))))
  (pss_cons (ps_set (i := 9) sc__law_names.nd rfl (Or.inl rfl) (pe_op op_mod (pv 8) (pv 4)))
  (pss_cons (ps_set (i := 10) sc__law_names.nd rfl (Or.inl rfl) (pe_op op_add_str (pe_op op_add_str (pe_slice sl_str (pv 5) po_none (po_some (pv 9))) (pe_ix ix_str (pv 3) (pe_op op_mod (pe_op op_fdiv (pv 8) pe_int) pe_int) (fun _ _ => rfl))) (pe_slice sl_str (pv 5) (po_some (pe_op op_add (pv 9) pe_int)) po_none)))
  (pss_cons (ps_up (ps_if (pt_cmpR op_eq (pe_op op_mod (pe_op op_fdiv (pv 8) pe_int) pe_int) pe_int (nomark _))
  (pss_one (ps_set (i := 10) sc__law_names.nd rfl (Or.inl rfl) (pe_slice sl_str (pv 5) po_none (po_some (pe_op op_add (pv 9) pe_int)))))
  pss_nil))
  (pss_cons (ps_up (ps_if (PW.pt (pw_or (pt_cmpR op_inG (pv 10) (pv 6) (by with_unfolding_all rfl)) (pw_or1 (pt_cmpR op_inG (pv 10) (pe_def0 G__law_barred hr rfl) (by with_unfolding_all rfl)))))
  (pss_one (ps_set (i := 10) sc__law_names.nd rfl (Or.inl rfl) (pe_ix ix_g (pe_compN (comp_scopeN 1 (N := ["one", "found"]) (cap := [6]) rfl rfl rfl rfl (by decide +kernel) rfl rfl rfl) rfl (pi_list (pe_compN (comp_scopeN 1 (N := ["n", "letters"]) (cap := [3]) rfl rfl rfl rfl (by decide +kernel) rfl rfl rfl) rfl (pi_range1 rfl hrange (pa_c pe_int pa_nil)) (fun _ _ _ _ => (pg_name (i := 0) (show List.Nodup (α := Str) ["n", "letters"] by decide +kernel) rfl (Or.inl (lookup_relabel_local rfl)) (Or.inr (lookup_relabel_local rfl)))) (fun _ _ _ _ => pts_nil) (fun _ _ _ _ => (pe_op op_add_str pe_str (pe_ix ix_str (pv 1) (pv 0) (fun _ _ => rfl)))))) (fun _ _ _ _ => (pg_name (i := 0) (show List.Nodup (α := Str) ["one", "found"] by decide +kernel) rfl (Or.inl (lookup_relabel_local rfl)) (Or.inr (lookup_relabel_local rfl)))) (fun _ _ _ _ => (pts_one (pt_cmpR op_notInG (pv 0) (pv 1) (by with_unfolding_all rfl)))) (fun _ _ _ _ => (pv 0))) (pe_op op_mod (pe_op op_fdiv (pv 8) pe_int) pe_int) (fun _ _ => rfl))))
  pss_nil))
  (pss_one (ps_expr (pe_appG (pv 6) (pv 10))))))))))
  (pss_one (ps_ret (pv 6)))))))), ?_⟩
  have big : 100000 ≤ sizeLine := by unfold sizeLine; decide
  walk_at "r2"
  refine ⟨_, _, rfl, by omega, by omega, fun m e0 m0 m1 => ?_⟩
  obtain ⟨sz, esz, hsz1, hsz8⟩ : ∃ sz : Nat, 1 + m % 8 = (sz : Int) ∧ 1 ≤ sz ∧ sz ≤ 8 := ⟨(1 + m % 8).toNat, by omega, by omega, by omega⟩
  have eS : szF hd k = sz := by unfold szF; rw [← e0, esz]; rfl
  clear e0
  walk_at "r2"
  refine tcomp_in ?_
  simp only [iRng1]
  walk_at "r2"
  refine ⟨by omega, by omega, compJ_range (by omega) (StP hd k) (fun H' _ => ⟨rfl, _, rfl⟩) ?_ ?_⟩
  · rintro D i ys σ1 H1 hi at1 ⟨rfl, v0, rfl⟩
    walk_at "r2"
    refine ⟨_, _, rfl, by omega, by omega, fun m e0 m0 m1 => ?_⟩
    have hl := ltr_at (i := m % 26) (by omega) (by omega)
    have e1 : ltr (stirF hd (k + 1 + i) % 26) = ltr (m % 26) := by rw [← e0]
    clear e0
    walk_at "r2"
    refine ⟨by unfold sizeLine; decide +kernel, _, hl, ?_⟩
    refine at1.put (Same.refl _) fun H5 mu => ⟨?_, _, rfl⟩
    unfold stL
    rw [List.range_succ, List.map_append, List.map_append]
    show _ = _ ++ [V.str (ltr (stirF hd (k + 1 + (i : Int)) % 26))]
    rw [e1]
    rfl
  · rintro D ys σ1 H1 hD g1 hy hle ⟨rfl, _⟩
    walk_at "r2"
    refine ⟨stL hd k sz, rfl, PyProof.Rows.joinOk_of_weight (stL_w hd k sz hsz8) (by decide +kernel), ?_⟩
    obtain ⟨stem, est⟩ : ∃ stem, stemF hd k = stem := ⟨_, rfl⟩
    have e' : Txt.join (Str.ofString "") (stL hd k sz) = stem := by rw [← est]; unfold stemF; rw [eS]
    rw [e']
    clear e'
    have ls := stemF_len hd k
    rw [est] at ls
    clear hy
    walk_at "r2"
    intro fp H2 hfp g2 h2
    have n2 := g1.free hfp
    have g12 := g1.trans g2
    walk_at "r2"
    refine tfor_in ?_
    simp only [iRng1]
    walk_at "r2"
    refine ⟨by omega, by omega, for_range (NsI (namesF hd k) H fp [some (V.int hd), some (V.int k), some (V.int n), some (V.str (Str.ofString "abcdefghijklmnopqrstuvwxyz")), some (V.int sz), some (V.str stem), some (V.ref fp)]) ⟨_, _, _, _, g12, h2, rfl⟩ ?_ ?_⟩
    · intro i σ H3 hi z
      obtain ⟨v7, v8, v9, v10, g3, h3, rfl⟩ := z
      simp only [List.cons_append, List.nil_append]
      clear h2
      walk_at "r2"
      refine ⟨_, _, rfl, by omega, by omega, fun m2 e2 m20 m21 => ?_⟩
      clear m0 m1
      have e2' := e2.symm
      clear e2
      walk_at "r2"
      refine ⟨by omega, ?_⟩
      have hlt := ltr_at (i := m2 / 8 % 26) (by omega) (by omega)
      have ls1 : stem.length ≤ sizeLine := by omega
      have ll1 : (Str.ofString "abcdefghijklmnopqrstuvwxyz").length ≤ sizeLine := by unfold sizeLine; decide +kernel
      walk_at "r2"
      have l1 := sl_len stem none (some (m2 % (sz : Int)))
      have l2 := sl_len stem (some (m2 % (sz : Int) + 1)) none
      refine ⟨by show _ + 1 ≤ sizeLine; omega, ?_⟩
      walk_at "r2"
      rw [slen]
      refine ⟨by show _ + 1 + _ ≤ sizeLine; omega, ?_⟩
      have enf : namesF hd k (i + 1) = namesF hd k i ++ [w2F (namesF hd k i) (w1F stem sz m2) m2] := by
        show _ ++ [_] = _
        rw [est, eS, show k + 9 + (i : Int) = k + 9 + (0 + (i : Int)) by omega, e2']
      refine seq_ms (σ := [some (V.int hd), some (V.int k), some (V.int n), some (V.str (Str.ofString "abcdefghijklmnopqrstuvwxyz")), some (V.int sz), some (V.str stem), some (V.ref fp), some (V.int (0 + (i : Int))), some (V.int m2), some (V.int (m2 % (sz : Int))), some (V.str (w0F stem sz m2))]) (fun σ' H' => H' = H3 ∧ σ' = [some (V.int hd), some (V.int k), some (V.int n), some (V.str (Str.ofString "abcdefghijklmnopqrstuvwxyz")), some (V.int sz), some (V.str stem), some (V.ref fp), some (V.int (0 + (i : Int))), some (V.int m2), some (V.int (m2 % (sz : Int))), some (V.str (w1F stem sz m2))]) (fun D' eD => ?_) ?_
      · unfold w1F at eD
        generalize w0F stem sz m2 = w0 at eD
        walk_at "r2"
        refine ite2 (fun c => ?_) fun c => ?_
        · rw [if_pos c] at eD
          walk_at "r2"
        · rw [if_neg c] at eD
          rw [tNext, eD]
          exact ⟨rfl, rfl⟩
      rintro σ' H4 ⟨rfl, rfl⟩
      generalize w1F stem sz m2 = w1 at enf
      have ln : (namesF hd k i).length ≤ 7 := by rw [namesF_len]; omega
      generalize namesF hd k i = l at enf h3 ln
      refine seq_ms (fun σ' H' => Same H4 H' ∧ σ' = [some (V.int hd), some (V.int k), some (V.int n), some (V.str (Str.ofString "abcdefghijklmnopqrstuvwxyz")), some (V.int sz), some (V.str stem), some (V.ref fp), some (V.int (0 + (i : Int))), some (V.int m2), some (V.int (m2 % (sz : Int))), some (V.str (w2F l w1 m2))]) (fun D' eD => ?_) ?_
      · refine if_val (decide (w1 ∈ l) || decide (w1 ∈ noN)) (fun Q q => ?_) (fun c H5 g5 => ?_) fun c H5 g5 => ?_
        · walk_at "r2"
          refine ⟨all_flat l, decide (w1 ∈ l), congrArg V.bl (inV_strs l), ?_⟩
          by_cases c : w1 ∈ l
          · rw [decide_eq_true c] at q ⊢
            exact q H4 (Same.refl _)
          · rw [decide_eq_false c] at q ⊢
            refine iteF ?_
            walk_at "r2"
            refine ⟨rfl, fun pb H5 g5 h5 => ?_⟩
            walk_at "r2"
            rw [Bool.false_or] at q
            exact ⟨all_flat noN, _, by rw [if_neg (by decide), inV_strs], q H5 g5⟩
        · have c' : w1 ∈ l ∨ w1 ∈ noN := by simpa using c
          unfold w2F at eD
          rw [if_pos c'] at eD
          have h35 := g5 _ _ h3
          clear h3
          walk_at "r2"
          refine tcomp_in ?_
          simp only [iList]
          refine tcomp_in ?_
          simp only [iRng1]
          walk_at "r2"
          refine compJ_range (by decide) ZzP (fun H' _ => ⟨rfl, _, rfl⟩) ?_ ?_
          · rintro D j ys σ1 H6 hj at1 ⟨rfl, v0, rfl⟩
            have hlj := ltr_at (i := (j : Int)) (by omega) (by omega)
            walk_at "r2"
            refine ⟨by unfold sizeLine; show (Str.ofString "zz").length + 1 ≤ _; decide +kernel, ?_⟩
            refine at1.put (Same.refl _) fun H7 mu => ⟨?_, _, rfl⟩
            have e9 : zz9[j]? = some (Str.ofString "zz" ++ ltr (j : Int)) := by unfold zz9; rw [List.getElem?_map, List.getElem?_range hj]; rfl
            rw [take_snoc e9, List.map_append]
            rfl
          · rintro D ys σ1 H6 hD g6 hy hle ⟨rfl, _⟩
            have h36 := g6 _ _ h35
            clear h35
            refine ⟨_, rfl, ⟨_, SqL.of hy⟩, compJ_list hy (by unfold sizeLine; decide +kernel) (ZfP l fp) (fun H' _ => ⟨rfl, _, rfl⟩) ?_ ?_⟩
            · rintro D j v ys σ1 H7 hx at1 ⟨rfl, v0, rfl⟩
              rw [List.getElem?_map] at hx
              obtain ⟨z, hz, rfl⟩ := Option.map_eq_some_iff.mp hx
              have h37 := at1.same _ _ h36
              clear h36 hy
              walk_at "r2"
              have hz' : zz9[j]? = some z := hz
              refine ⟨all_flat l, !decide (z ∈ l), by rw [if_pos rfl, inV_strs], ?_⟩
              by_cases cz : z ∈ l
              · rw [decide_eq_true cz]
                refine iteF ?_
                refine at1.skip (Same.refl _) ⟨?_, _, rfl⟩
                unfold zzF2
                rw [take_snoc hz', List.filter_append, List.filter_cons_of_neg (by simpa using cz)]; simp
              · rw [decide_eq_false cz]
                refine iteT ?_
                walk_at "r2"
                refine at1.put (Same.refl _) fun H8 mu => ⟨?_, _, rfl⟩
                unfold zzF2
                rw [take_snoc hz', List.filter_append, List.map_append, List.filter_cons_of_pos (by simpa using cz)]; rfl
            · rintro D ys σ1 H7 hD7 g7 hy7 hle7 ⟨rfl, _⟩
              walk_at "r2"
              have zl := zz_len ln
              have ez : zzF2 l (List.take (List.map V.str (List.take 9 zz9)).length zz9) = zzF l := rfl
              rw [ez]
              obtain ⟨zv, hzv, _, hzn⟩ := atI_in (xs := (zzF l).map V.str) (i := m2 / 832 % 2) (by omega) (by rw [List.length_map]; omega)
              rw [List.getElem?_map] at hzn
              obtain ⟨z, hz, rfl⟩ := Option.map_eq_some_iff.mp hzn
              refine ⟨_, hzv, ?_⟩
              have eg : (zzF l).getD (m2 / 832 % 2).toNat w1 = z := by rw [List.getD_eq_getElem?_getD, hz]; rfl
              rw [eg] at eD
              rw [eD]
              exact ⟨g5.trans (g6.trans g7), rfl⟩
        · have c' : ¬ (w1 ∈ l ∨ w1 ∈ noN) := by simpa using c
          rw [tNext, eD]
          unfold w2F
          rw [if_neg c']
          exact ⟨g5, rfl⟩
      rintro σ' H5 ⟨g5, rfl⟩
      have h5 := g5 _ _ h3
      clear h3
      walk_at "r2"
      refine ⟨by rw [List.length_map]; omega, fun H6 mu => ?_⟩
      refine ⟨_, _, _, _, mu.same (g3.trans g5) n2, ?_, rfl⟩
      show H6 fp = some (.lst ((namesF hd k (i + 1)).map V.str))
      rw [enf, List.map_append]
      exact mu.at_
    · intro σ H3 z
      obtain ⟨v7, v8, v9, v10, g3, h3, rfl⟩ := z
      simp only [List.cons_append, List.nil_append]
      clear h2
      walk_at "r2"
      exact q fp H3 n2 g3 h3
end
end K14
set_option Elab.async false
set_option linter.all false
set_option maxRecDepth 100000
set_option maxHeartbeats 4000000
namespace K14
open PySem L2
structure Nok (x : Str) : Prop where
  ok : PyData.strOk x = true
  len : x.length ≤ 20
theorem ok_app {a b : Str} (ha : PyData.strOk a = true) (hb : PyData.strOk b = true) : PyData.strOk (a ++ b) = true := by
  unfold PyData.strOk at ha hb ⊢
  show (a.cps ++ b.cps).all _ = true
  rw [Array.all_append, ha, hb]; rfl
theorem ltr_ok {i : Int} (h : i < 26) : PyData.strOk (ltr i) = true := by
  unfold PyData.strOk ltr
  rw [← Array.all_toList]
  show (decide (97 + i.toNat < 1114112) && true) = true
  rw [decide_eq_true (by omega)]; rfl
theorem zz_ok : ∀ x ∈ zz9, PyData.strOk x = true ∧ x.length ≤ 20 := by decide +kernel
theorem join_ok {s : Str} (hs : PyData.strOk s = true) {l : List Str} (h : ∀ x ∈ l, PyData.strOk x = true) : PyData.strOk (Str.join s l) = true := by
  induction l with
  | nil => exact (by decide +kernel : PyData.strOk Str.empty = true)
  | cons x l ih =>
    have hx := h x (List.mem_cons_self ..)
    cases l with
    | nil => exact hx
    | cons y l => exact ok_app (ok_app hx hs) (ih fun z hz => h z (List.mem_cons_of_mem _ hz))
theorem stem_ok (hd k : Int) : PyData.strOk (stemF hd k) = true := by
  unfold stemF
  show PyData.strOk (Builtin.Str.glued (PySem.Str.ofString "") _) = true
  rw [StrLaws.glued_eq_join]
  have al : ∀ x ∈ stL hd k (szF hd k), PyData.strOk x = true := fun x h => by
    unfold stL at h
    obtain ⟨j, _, rfl⟩ := List.mem_map.mp h
    exact ltr_ok (by omega)
  exact join_ok (by decide +kernel) al
theorem w1_ok {stem : Str} {sz : Nat} {m : Int} (h : PyData.strOk stem = true) (hl : stem.length ≤ 8) : Nok (w1F stem sz m) := by
  unfold w1F
  split
  · exact ⟨slice_ok h, Nat.le_trans (sl_len ..) (by omega)⟩
  · unfold w0F
    refine ⟨ok_app (ok_app (slice_ok h) (ltr_ok (by omega))) (slice_ok h), ?_⟩
    have a := sl_len stem none (some (m % (sz : Int)))
    have b := sl_len stem (some (m % (sz : Int) + 1)) none
    rw [slen, slen]
    show _ + 1 + _ ≤ 20
    omega
theorem w2_ok {l : List Str} {x : Str} {m : Int} (ln : l.length ≤ 7) (h : Nok x) : Nok (w2F l x m) ∧ w2F l x m ∉ l := by
  unfold w2F
  split
  · have zl := zz_len ln
    have hi : (m / 832 % 2).toNat < (zzF l).length := by omega
    have e : (zzF l).getD (m / 832 % 2).toNat x = (zzF l)[(m / 832 % 2).toNat]'hi := by rw [List.getD_eq_getElem?_getD, List.getElem?_eq_getElem hi]; rfl
    rw [e]
    have mm := List.getElem_mem hi
    obtain ⟨a, b⟩ := List.mem_filter.mp mm
    exact ⟨⟨(zz_ok _ a).1, (zz_ok _ a).2⟩, by simpa using b⟩
  · rename_i c
    exact ⟨h, fun z => c (.inl z)⟩
theorem names_ok (hd k : Int) (n : Nat) (h : n ≤ 8) : (∀ x ∈ namesF hd k n, Nok x) ∧ (namesF hd k n).Nodup := by
  induction n with
  | zero => exact ⟨fun x h => absurd h List.not_mem_nil, List.nodup_nil⟩
  | succ n ih =>
    obtain ⟨a, b⟩ := ih (by omega)
    obtain ⟨c, d⟩ := w2_ok (l := namesF hd k n) (m := stirF hd (k + 9 + (n : Int))) (by rw [namesF_len]; omega) (w1_ok (sz := szF hd k) (m := stirF hd (k + 9 + (n : Int))) (stem_ok hd k) (stemF_len hd k))
    refine ⟨fun x hx => ?_, ?_⟩
    · rcases List.mem_append.mp hx with hx | hx
      · exact a x hx
      · rw [List.mem_singleton.mp hx]; exact c
    · show (_ ++ [_]).Nodup
      rw [List.nodup_append]
      exact ⟨b, by simp, fun x hx y hy => by rw [List.mem_singleton.mp hy]; exact fun z => d (z ▸ hx)⟩
end K14
set_option Elab.async false
set_option linter.all false
set_option maxRecDepth 100000
set_option maxHeartbeats 4000000
namespace K14
open PySem L2
section
variable {P : Program} {w : World} {K : PySem.W.Frag} {mg : Str → Option Value} {base : Heap}
theorem kp_hide {H Ha Hb H5 : Hp} {u : Addr} (g : Same H Ha) (g' : Same Hb H5) (hu : Hb u = none) : Same (kp em Ha Hb) (hide u (kp em H H5)) := fun a x e => hide_of (fun z => by have := (kp_inv e).2; rw [z, hu] at this; cases this) (kp_mono g g' _ _ e)
theorem kp_hide2 {H Ha Hb H5 : Hp} {u v : Addr} (g : Same H Ha) (g' : Same Hb H5) (hu : Hb u = none) (hv : Hb v = none) : Same (kp em Ha Hb) (hide u (hide v (kp em H H5))) := fun a x e => hide_of (fun z => by have := (kp_inv e).2; rw [z, hu] at this; cases this) (kp_hide g g' hv _ _ e)
def Th3 (K : PySem.W.Frag) (F : Hp) (sg a b : V) : Prop := (∃ d, Rp K F sg d ∧ DG 5 d) ∧ (∃ d, Rp K F a d ∧ DG 5 d) ∧ ∃ d, Rp K F b d ∧ DG 5 d
def spOp (K : PySem.W.Frag) : Sp := fun vs H Q _ => ∃ c k : Int, vs = [.int c, .int k] ∧ ∀ (p t : Addr) (H' : Hp) (x : Str) (wd : Str) (sg a b : V) (bs : List V), Same H H' → H' p = some (.lst [.str x, .ref t]) → H p = none → H t = none → H' t = some (.tup (.str wd :: .int k :: sg :: a :: b :: bs)) →
  ((wd = Str.ofString "while" ∧ ∃ u, bs = [.ref u] ∧ H u = none ∧ H' u = some (.lst []) ∧ Th3 K (hide u (kp em H H')) sg a b) ∨ (wd = Str.ofString "if" ∧ ∃ u v, bs = [.ref u, .ref v] ∧ u ≠ v ∧ H u = none ∧ H v = none ∧ H' u = some (.lst []) ∧ H' v = some (.lst []) ∧ Th3 K (hide u (hide v (kp em H H'))) sg a b)) → Q (.ref p) H'
theorem ok_op (D : DefAt K mg "_law_opener" s__law_opener ["cell", "k"]) (G__law_stir : OkD P w K mg base 1 "_law_stir" ["cell", "k"] spStir) (G__law_expr : OkD P w K mg base 7 "_law_expr" ["cell", "k"] (spEx K)) : OkD P w K mg base 8 "_law_opener" ["cell", "k"] (spOp K) := by
  refine D.ok sc__law_opener (fun vs H Q E h => ?_) (fun f cdv A outer s H vs Q E hr h => ?_)
  · obtain ⟨_, _, rfl, _⟩ := h; rfl
  obtain ⟨c, k, rfl, q⟩ := h
  have big : 100000 ≤ sizeLine := by unfold sizeLine; decide
  refine ⟨_, (pss_cons (ps_set (i := 2) sc__law_opener.nd rfl (Or.inl rfl) (pe_def G__law_expr hr rfl (pa_c (pv 0) (pa_c pe_int pa_nil))))
  (pss_cons (ps_set (i := 3) sc__law_opener.nd rfl (Or.inl rfl) (pe_def G__law_expr hr rfl (pa_c (pv 0) (pa_c pe_int pa_nil))))
  (pss_cons (ps_set (i := 4) sc__law_opener.nd rfl (Or.inl rfl) (pe_ix ix_str pe_str (pe_op op_mod (pe_def G__law_stir hr rfl (pa_c (pv 0) (pa_c pe_int pa_nil))) pe_int) (fun _ _ => rfl)))
  (pss_cons (ps_if (pt_cmpR op_eq (pe_op op_mod (pe_op op_fdiv (pe_def G__law_stir hr rfl (pa_c (pv 0) (pa_c pe_int pa_nil))) pe_int) pe_int) pe_int (nomark _))
  (pss_one (ps_ret (pe_lstG (pa_c (pe_op op_add_str (pe_op op_add_str (pe_op op_add_str (pe_op op_add_str (pe_op op_add_str pe_str (pe_ix ix_g (pv 2) pe_int (fun _ _ => rfl))) pe_str) (pv 4)) pe_str) (pe_ix ix_g (pv 3) pe_int (fun _ _ => rfl))) (pa_c (pe_tupG (pa_c pe_str (pa_c (pv 1) (pa_c (pv 4) (pa_c (pe_ix ix_g (pv 2) pe_int (fun _ _ => rfl)) (pa_c (pe_ix ix_g (pv 3) pe_int (fun _ _ => rfl)) (pa_c (pe_lstG pa_nil) pa_nil))))))) pa_nil)))))
  pss_nil)
  (pss_one (ps_ret (pe_lstG (pa_c (pe_op op_add_str (pe_op op_add_str (pe_op op_add_str (pe_op op_add_str (pe_op op_add_str pe_str (pe_ix ix_g (pv 2) pe_int (fun _ _ => rfl))) pe_str) (pv 4)) pe_str) (pe_ix ix_g (pv 3) pe_int (fun _ _ => rfl))) (pa_c (pe_tupG (pa_c pe_str (pa_c (pv 1) (pa_c (pv 4) (pa_c (pe_ix ix_g (pv 2) pe_int (fun _ _ => rfl)) (pa_c (pe_ix ix_g (pv 3) pe_int (fun _ _ => rfl)) (pa_c (pe_lstG pa_nil) (pa_c (pe_lstG pa_nil) pa_nil)))))))) pa_nil))))))))), ?_⟩
  walk_at "r2"
  refine ⟨c, 3, rfl, by decide, by decide, fun p1 H1 x1 v1 t1 hp1 g1 h1 l1 r1 gd1 d1 => ?_⟩
  walk_at "r2"
  refine ⟨c, 30, rfl, by decide, by decide, fun p2 H2 x2 v2 t2 hp2 g2 h2 l2 r2 gd2 d2 => ?_⟩
  have h12 := g2 _ _ h1
  clear h1
  walk_at "r2"
  refine ⟨c, 2, rfl, by decide, by decide, fun m e0 m0 m1 => ?_⟩
  clear e0
  have l2 : (Str.ofString "<=").cps.toList.length = 2 := by decide +kernel
  obtain ⟨sg, hsg, msg, _⟩ := atI_in (xs := (Str.ofString "<=").cps.toList) (i := m % 2) (by omega) (by omega)
  have lsz : (Str.ofString "<=").length ≤ sizeLine := by unfold sizeLine; decide +kernel
  have sgo : PyData.strOk ⟨#[sg]⟩ = true := by
    have : ∀ s ∈ (Str.ofString "<=").cps.toList, PyData.strOk ⟨#[s]⟩ = true := by decide +kernel
    exact this sg msg
  have q1 : (Str.ofString "while ").length = 6 := by decide +kernel
  have q2 : (Str.ofString " ").length = 1 := by decide +kernel
  have q3 : (Str.ofString "if ").length = 3 := by decide +kernel
  have sl := slen
  have q4 : ∀ s : Nat, (⟨#[s]⟩ : Str).length = 1 := fun _ => rfl
  clear l2
  walk_at "r2"
  refine ⟨c, 2, rfl, by decide, by decide, fun m' e0 m0' m1' => ?_⟩
  clear e0
  walk_at "r2"
  refine ite2 (fun c1 => ?_) fun c1 => ?_
  · walk_at "r2"
    refine ⟨by omega, ?_⟩
    walk_at "r2"
    refine ⟨by omega, ?_⟩
    walk_at "r2"
    refine ⟨by omega, ?_⟩
    walk_at "r2"
    refine ⟨by omega, ?_⟩
    walk_at "r2"
    refine ⟨by omega, ?_⟩
    walk_at "r2"
    intro u H3 hu g3 h3
    walk_at "r2"
    intro t H4 ht g4 h4
    walk_at "r2"
    intro p5 H5 hp5 g5 h5
    have g25 := g3.trans (g4.trans g5)
    have g15 := g2.trans g25
    have g12 := g1.trans g2
    exact q p5 t H5 _ _ _ _ _ _ (g1.trans g15) h5 (g12.free (g3.free (g4.free hp5))) (g12.free (g3.free ht)) (g5 _ _ h4) (.inl ⟨rfl, u, rfl, g12.free hu, g5 _ _ (g4 _ _ h3), ⟨_, .str _, dg_str sgo⟩, ⟨_, r1.mono (kp_hide (Same.refl _) g15 (g2.free hu)), dg_mono (tr_dg gd1) (by omega)⟩, ⟨_, r2.mono (kp_hide g1 g25 hu), dg_mono (tr_dg gd2) (by omega)⟩⟩)
  · walk_at "r2"
    refine ⟨by omega, ?_⟩
    walk_at "r2"
    refine ⟨by omega, ?_⟩
    walk_at "r2"
    refine ⟨by omega, ?_⟩
    walk_at "r2"
    refine ⟨by omega, ?_⟩
    walk_at "r2"
    refine ⟨by omega, ?_⟩
    walk_at "r2"
    intro u H3 hu g3 h3
    walk_at "r2"
    intro v H3' hv g3' h3'
    walk_at "r2"
    refine ⟨by omega, fun t H4 ht g4 h4 => ?_⟩
    walk_at "r2"
    intro p5 H5 hp5 g5 h5
    have g25 := g3.trans (g3'.trans (g4.trans g5))
    have g15 := g2.trans g25
    have g12 := g1.trans g2
    have nuv : u ≠ v := fun z => by rw [z] at h3; rw [h3] at hv; cases hv
    exact q p5 t H5 _ _ _ _ _ _ (g1.trans g15) h5 (g12.free (g3.free (g3'.free (g4.free hp5)))) (g12.free (g3.free (g3'.free ht))) (g5 _ _ h4) (.inr ⟨rfl, u, v, rfl, nuv, g12.free hu, g12.free (g3.free hv), g5 _ _ (g4 _ _ (g3' _ _ h3)), g5 _ _ (g4 _ _ h3'), ⟨_, .str _, dg_str sgo⟩, ⟨_, r1.mono (kp_hide2 (Same.refl _) g15 (g2.free hu) (g2.free (g3.free hv))), dg_mono (tr_dg gd1) (by omega)⟩, ⟨_, r2.mono (kp_hide2 g1 g25 hu (g3.free hv)), dg_mono (tr_dg gd2) (by omega)⟩⟩)
end
end K14
set_option Elab.async false
set_option linter.all false
set_option maxRecDepth 100000
set_option maxHeartbeats 4000000
namespace K14
open PySem L2
section
variable {P : Program} {w : World} {K : PySem.W.Frag} {mg : Str → Option Value} {base : Heap}
def exD (e : Str × Tr) : PyData := .list [.str e.1, e.2.toD]
def SoP (K : PySem.W.Frag) (H : Hp) (c : Int) (D : Addr) (i : Nat) (ys : List V) (σ1 : St) (H' : Hp) : Prop := ∃ es : List (Str × Tr), RpL K (hide D (kp em H H')) ys (es.map exD) ∧ (∀ e ∈ es, e.1.length ≤ 60 ∧ DG 5 e.2.toD) ∧ es.length = i ∧ ∃ v0, σ1 = [v0, some (.int c)]
theorem ex_of {H : Hp} {v : V} {e : Str × Tr} (r : Rp K H v (exD e)) : ∃ p tv, v = .ref p ∧ H p = some (.lst [.str e.1, tv]) ∧ Rp K H tv e.2.toD := by
  unfold exD at r
  cases r with | lst a b => cases b with | cons b1 b => cases b with | cons b2 b => cases b; cases b1; exact ⟨_, _, rfl, a, b2⟩
def L0P (es : List (Str × Tr)) (i : Nat) (ys : List V) (σ1 : St) (H' : Hp) : Prop := ys = ((es.take i).map (·.1)).map V.str ∧ ∃ v0, σ1 = [v0]
theorem compJ_l0 {H : Hp} {o : Addr} {ys : List V} {es : List (Str × Tr)} {Q : VK} (ho : H o = some (.lst ys)) (r : RpL K H ys (es.map exD)) (hl : es.length ≤ 1000) (q : ∀ D H', H D = none → Same H H' → H' D = some (.lst ((es.map (·.1)).map V.str)) → Q (.ref D) H') : CompJ (Itl K o) (gName 0) tYes (tOp rIxG (tVar 0) (tC (V.int 0))) [none] H Q := by
  have big : 100000 ≤ sizeLine := by unfold sizeLine; decide
  have ll := r.len
  rw [List.length_map] at ll
  refine compJ_list ho (by omega) (L0P es) (fun H' _ => ⟨rfl, _, rfl⟩) ?_ ?_
  · rintro D i x ys' σ1 H1 hx at1 ⟨rfl, v0, rfl⟩
    obtain ⟨d, hd, rd⟩ := r.get hx
    rw [List.getElem?_map] at hd
    obtain ⟨e, he, rfl⟩ := Option.map_eq_some_iff.mp hd
    obtain ⟨p, tv, rfl, hp, _⟩ := ex_of rd
    have hp1 := at1.same _ _ hp
    clear ho ll
    walk_at "r2"
    refine at1.put (Same.refl _) fun H5 mu => ⟨?_, _, rfl⟩
    rw [take_snoc he, List.map_append, List.map_append]; rfl
  · rintro D ys' σ1 H1 hD k1 hy hle ⟨rfl, _⟩
    rw [List.take_of_length_le (by omega)] at hy
    exact q D H1 hD k1 hy
def L1P (K : PySem.W.Frag) (H : Hp) (es : List (Str × Tr)) (i : Nat) (ys : List V) (σ1 : St) (H' : Hp) : Prop := RpL K H ys ((es.take i).map fun e => e.2.toD) ∧ ∃ v0, σ1 = [v0]
theorem compJ_l1 {H HB : Hp} {o : Addr} {ys : List V} {es : List (Str × Tr)} {Q : VK} (g : Same HB H) (ho : H o = some (.lst ys)) (r : RpL K HB ys (es.map exD)) (hl : es.length ≤ 1000) (q : ∀ D H' vs, H D = none → Same H H' → H' D = some (.lst vs) → RpL K HB vs (es.map fun e => e.2.toD) → Q (.ref D) H') : CompJ (Itl K o) (gName 0) tYes (tOp rIxG (tVar 0) (tC (V.int 1))) [none] H Q := by
  have big : 100000 ≤ sizeLine := by unfold sizeLine; decide
  have ll := r.len
  rw [List.length_map] at ll
  refine compJ_list ho (by omega) (L1P K HB es) (fun H' _ => ⟨.nil, _, rfl⟩) ?_ ?_
  · rintro D i x ys' σ1 H1 hx at1 ⟨ry, v0, rfl⟩
    obtain ⟨d, hd, rd⟩ := r.get hx
    rw [List.getElem?_map] at hd
    obtain ⟨e, he, rfl⟩ := Option.map_eq_some_iff.mp hd
    obtain ⟨p, tv, rfl, hp, rtv⟩ := ex_of rd
    have hp1 := at1.same _ _ (g _ _ hp)
    clear ho ll
    walk_at "r2"
    refine at1.put (Same.refl _) fun H5 mu => ⟨?_, _, rfl⟩
    rw [take_snoc he, List.map_append]
    exact RpL.app (.cons rtv .nil) ry
  · rintro D ys' σ1 H1 hD k1 hy hle ⟨ry, _⟩
    rw [List.take_of_length_le (by omega)] at ry
    exact q D H1 ys' hD k1 hy ry
theorem ex_w {es : List (Str × Tr)} (ge : ∀ e ∈ es, e.1.length ≤ 60 ∧ DG 5 e.2.toD) : ((es.map (·.1)).map (·.length)).sum ≤ 60 * es.length := by
  induction es with
  | nil => exact Nat.le_refl _
  | cons e es ih =>
    have a := (ge e (List.mem_cons_self ..)).1
    have b := ih fun x hx => ge x (List.mem_cons_of_mem _ hx)
    rw [List.map_cons, List.map_cons, List.sum_cons, List.length_cons]
    omega
def spPl (K : PySem.W.Frag) : Sp := fun vs H Q _ => ∃ c k : Int, vs = [.int c, .int k] ∧ 0 ≤ k ∧ k ≤ 100 ∧ ∀ (p t : Addr) (H' : Hp) (x : Str) (s : Sm), H p = none → Same H H' → H' p = some (.lst [.str x, .ref t]) → Rp K (kp em H H') (.ref t) (smD s) → SmOk s 0 → Short s → orS s = [s] → kS s = k → Q (.ref p) H'
theorem ok_pl (D : DefAt K mg "_law_plain" s__law_plain ["cell", "k"]) (hrange : mg "range" = none) (G__law_stir : OkD P w K mg base 1 "_law_stir" ["cell", "k"] spStir) (G__law_name : OkD P w K mg base 1 "_law_name" ["number"] spNm) (G__law_expr : OkD P w K mg base 7 "_law_expr" ["cell", "k"] (spEx K)) : OkD P w K mg base 8 "_law_plain" ["cell", "k"] (spPl K) := by
  refine D.ok sc__law_plain (fun vs H Q E h => ?_) (fun f cdv A outer s H vs Q E hr h => ?_)
  · obtain ⟨_, _, rfl, _⟩ := h; rfl
  obtain ⟨c, k, rfl, k0, k1, q⟩ := h
  have big : 100000 ≤ sizeLine := by unfold sizeLine; decide
  refine ⟨_, (pss_cons (ps_set (i := 2) sc__law_plain.nd rfl (Or.inl rfl) (pe_def G__law_stir hr rfl (pa_c (pv 0) (pa_c pe_int pa_nil))))
  (pss_cons (ps_asg (pe_def G__law_expr hr rfl (pa_c (pv 0) (pa_c pe_int pa_nil))) (pg_lstG 2 rfl (pgs_cons (pg_name (i := 3) sc__law_plain.nd rfl (Or.inl rfl)) (pgs_cons (pg_name (i := 4) sc__law_plain.nd rfl (Or.inl rfl)) pgs_nil))))
  (pss_cons (ps_set (i := 5) sc__law_plain.nd rfl (Or.inl rfl) (pe_def G__law_name hr rfl (pa_c (pe_op op_fdiv (pv 2) pe_int) pa_nil)))
  (pss_cons (ps_set (i := 6) sc__law_plain.nd rfl (Or.inl rfl) (pe_op op_mod (pv 2) pe_int))
  (pss_cons (ps_if (pt_cmpR op_lt (pv 6) pe_int (nomark _))
  (pss_cons (ps_set (i := 7) sc__law_plain.nd rfl (Or.inl rfl) (pe_ix ix_g (pe_lstG (pa_c pe_str (pa_c pe_str (pa_c pe_str (pa_c pe_str (pa_c pe_str pa_nil)))))) (pv 6) (fun _ _ => rfl)))
  (pss_one (ps_ret (pe_lstG (pa_c (pe_op op_add_str (pe_op op_add_str (pe_op op_add_str (pe_op op_add_str (pv 7) pe_str) (pv 5)) pe_str) (pv 3)) (pa_c (pe_tupG (pa_c (pv 7) (pa_c (pv 1) (pa_c (pv 5) (pa_c (pv 4) pa_nil))))) pa_nil))))))
  pss_nil)
  (pss_cons (ps_if (pt_cmpR op_eq (pv 6) pe_int (nomark _))
  (pss_one (ps_ret (pe_lstG (pa_c (pe_op op_add_str pe_str (pv 3)) (pa_c (pe_tupG (pa_c pe_str (pa_c (pv 1) (pa_c (pv 4) pa_nil)))) pa_nil)))))
  pss_nil)
  (pss_cons (ps_if (pt_cmpR op_eq (pv 6) pe_int (nomark _))
  (pss_cons (ps_set (i := 8) sc__law_plain.nd rfl (Or.inl rfl) (pe_def G__law_name hr rfl (pa_c (pe_op op_fdiv (pv 2) pe_int) pa_nil)))
  (pss_one (ps_ret (pe_lstG (pa_c (pe_op op_add_str (pe_op op_add_str (pe_op op_add_str pe_str (pv 5)) pe_str) (pv 8)) (pa_c (pe_tupG (pa_c pe_str (pa_c (pv 1) (pa_c (pv 5) (pa_c (pv 8) pa_nil))))) pa_nil))))))
  pss_nil)
  (pss_cons (ps_if (pt_cmpR op_eq (pv 6) pe_int (nomark _))
  (pss_one (ps_ret (pe_lstG (pa_c (pe_op op_add_str (pe_op op_add_str (pe_op op_add_str pe_str (pv 5)) pe_str) (pv 3)) (pa_c (pe_tupG (pa_c pe_str (pa_c (pv 1) (pa_c (pv 5) (pa_c (pv 4) pa_nil))))) pa_nil)))))
  pss_nil)
  (pss_cons (ps_if (pt_cmpR op_eq (pv 6) pe_int (nomark _))
  (pss_one (ps_ret (pe_lstG (pa_c pe_str (pa_c (pe_tupG (pa_c pe_str (pa_c (pv 1) pa_nil))) pa_nil)))))
  pss_nil)
  (pss_cons (ps_setCN (i := 9) sc__law_plain.nd rfl (Or.inl rfl) (comp_scopeN 1 (N := ["j", "cell"]) (cap := [0]) rfl rfl rfl rfl (by decide +kernel) rfl rfl rfl) rfl (pi_range1 rfl hrange (pa_c (pe_op op_mod (pe_op op_fdiv (pv 2) pe_int) pe_int) pa_nil)) (fun _ _ _ _ => (pg_name (i := 0) (show List.Nodup (α := Str) ["j", "cell"] by decide +kernel) rfl (Or.inl (lookup_relabel_local rfl)) (Or.inr (lookup_relabel_local rfl)))) (fun _ _ _ _ => pts_nil) (fun _ _ _ _ => (pe_def G__law_expr hr rfl (pa_c (pv 1) (pa_c (pe_op op_add pe_int (pe_op op_mul pe_int (pv 0))) pa_nil)))))
  (pss_one (ps_ret (pe_lstG (pa_c (pe_join pe_str (pe_op op_catG (pe_lstG (pa_c pe_str (pa_c (pv 5) pa_nil))) (pe_compN (comp_scopeN 1 (N := ["one"]) (cap := []) rfl rfl rfl rfl (by decide +kernel) rfl rfl rfl) rfl (pi_list (pv 9)) (fun _ _ _ _ => (pg_name (i := 0) (show List.Nodup (α := Str) ["one"] by decide +kernel) rfl (Or.inl (lookup_relabel_local rfl)) (Or.inr (lookup_relabel_local rfl)))) (fun _ _ _ _ => pts_nil) (fun _ _ _ _ => (pe_ix ix_g (pv 0) pe_int (fun _ _ => rfl)))))) (pa_c (pe_tupG (pa_c pe_str (pa_c (pv 1) (pa_c (pv 5) (pa_c (pe_compN (comp_scopeN 1 (N := ["one"]) (cap := []) rfl rfl rfl rfl (by decide +kernel) rfl rfl rfl) rfl (pi_list (pv 9)) (fun _ _ _ _ => (pg_name (i := 0) (show List.Nodup (α := Str) ["one"] by decide +kernel) rfl (Or.inl (lookup_relabel_local rfl)) (Or.inr (lookup_relabel_local rfl)))) (fun _ _ _ _ => pts_nil) (fun _ _ _ _ => (pe_ix ix_g (pv 0) pe_int (fun _ _ => rfl)))) pa_nil))))) pa_nil))))))))))))))), ?_⟩
  walk_at "r2"
  refine ⟨c, 1, rfl, by decide, by decide, fun m e0 m0 m1 => ?_⟩
  clear e0
  walk_at "r2"
  refine ⟨c, 3, rfl, by decide, by decide, fun p1 H1 x1 v1 t1 hp1 g1 h1 l1 r1 gd1 d1 => ?_⟩
  have tg1 : DG 5 t1.toD := dg_mono (tr_dg gd1) (by omega)
  walk_at "r2"
  refine ⟨_, rfl, fun nm H2 mn g2 => ?_⟩
  obtain ⟨no, nl⟩ := nm_ok nm mn
  have g12 := g1.trans g2
  clear h1
  have sl := slen
  have q2 : (Str.ofString " ").length = 1 := by decide +kernel
  walk_at "r2"
  refine ite2 (fun c1 => ?_) fun c1 => ?_
  · walk_at "r2"
    intro p3 H3 hp3 g3 h3
    obtain ⟨dv, hdv, mdv, _⟩ := atI_in (xs := [V.str (Str.ofString "take"), V.str (Str.ofString "give"), V.str (Str.ofString "put"), V.str (Str.ofString "get"), V.str (Str.ofString "let")]) (i := m % 11) (by omega) (by simp only [List.length_cons, List.length_nil]; omega)
    obtain ⟨dw, mdw, rfl⟩ : ∃ dw, dw ∈ tkW ++ (ptW ++ [Str.ofString "let"]) ∧ dv = .str dw := by
      simp only [List.mem_cons, List.not_mem_nil, or_false] at mdv
      rcases mdv with rfl | rfl | rfl | rfl | rfl <;> exact ⟨_, by with_unfolding_all decide, rfl⟩
    have dl : dw.length ≤ 4 := by
      have : ∀ x ∈ tkW ++ (ptW ++ [Str.ofString "let"]), x.length ≤ 4 := by decide +kernel
      exact this dw mdw
    walk_at "r2"
    refine ⟨by omega, ?_⟩
    walk_at "r2"
    refine ⟨by omega, ?_⟩
    walk_at "r2"
    refine ⟨by omega, ?_⟩
    walk_at "r2"
    refine ⟨by omega, ?_⟩
    walk_at "r2"
    intro t H4 ht g4 h4
    walk_at "r2"
    intro p5 H5 hp5 g5 h5
    have g35 := g3.trans (g4.trans g5)
    have rt5 : kp em H H5 t = some (.tup [.str dw, .int k, .str nm, v1]) := kp_new (g12.free (g3.free ht)) (g5 _ _ h4)
    have rv5 := r1.mono (kp_mono (Same.refl _) (g2.trans g35))
    rcases List.mem_append.mp mdw with z | z
    · exact q p5 t H5 _ (.nm dw k nm t1.toD) (g12.free (g3.free (g4.free hp5))) (g12.trans g35) h5 (by unfold smD; exact .tup rt5 (.cons (.str _) (.cons (.int _) (.cons (.str _) (.cons rv5 .nil))))) (by simp only [SmOk]; exact ⟨.inl z, no, tg1, k0, k1⟩) trivial rfl rfl
    rcases List.mem_append.mp z with z | z
    · exact q p5 t H5 _ (.nm dw k nm t1.toD) (g12.free (g3.free (g4.free hp5))) (g12.trans g35) h5 (by unfold smD; exact .tup rt5 (.cons (.str _) (.cons (.int _) (.cons (.str _) (.cons rv5 .nil))))) (by simp only [SmOk]; exact ⟨.inr z, no, tg1, k0, k1⟩) trivial rfl rfl
    · exact q p5 t H5 _ (.pl dw k [.str nm, t1.toD]) (g12.free (g3.free (g4.free hp5))) (g12.trans g35) h5 (by unfold smD; exact .tup rt5 (.cons (.str _) (.cons (.int _) (.cons (.str _) (.cons rv5 .nil))))) (by simp only [SmOk]; exact ⟨by rw [List.mem_singleton.mp z]; decide +kernel, all_cons (dg_str no) (all_cons tg1 all_nil), by simp, k0, k1⟩) trivial rfl rfl
  walk_at "r2"
  refine ite2 (fun c2 => ?_) fun c2 => ?_
  · have q3 : (Str.ofString "wait ").length = 5 := by decide +kernel
    walk_at "r2"
    refine ⟨by omega, ?_⟩
    walk_at "r2"
    intro t H4 ht g4 h4
    walk_at "r2"
    intro p5 H5 hp5 g5 h5
    have g35 := g4.trans g5
    have rv5 := r1.mono (kp_mono (Same.refl _) (g2.trans g35))
    exact q p5 t H5 _ (.pl (Str.ofString "wait") k [t1.toD]) (g12.free (g4.free hp5)) (g12.trans g35) h5 (by unfold smD; exact .tup (kp_new (g12.free ht) (g5 _ _ h4)) (.cons (.str _) (.cons (.int _) (.cons rv5 .nil)))) (by simp only [SmOk]; exact ⟨by decide +kernel, all_cons tg1 all_nil, by simp, k0, k1⟩) trivial rfl rfl
  walk_at "r2"
  refine ite2 (fun c3 => ?_) fun c3 => ?_
  · walk_at "r2"
    refine ⟨_, rfl, fun nm2 H3 mn2 g3 => ?_⟩
    obtain ⟨no2, nl2⟩ := nm_ok nm2 mn2
    have q3 : (Str.ofString "draw ").length = 5 := by decide +kernel
    walk_at "r2"
    refine ⟨by omega, ?_⟩
    walk_at "r2"
    refine ⟨by omega, ?_⟩
    walk_at "r2"
    refine ⟨by omega, ?_⟩
    walk_at "r2"
    intro t H4 ht g4 h4
    walk_at "r2"
    intro p5 H5 hp5 g5 h5
    have g35 := g3.trans (g4.trans g5)
    exact q p5 t H5 _ (.dr k nm nm2) (g12.free (g3.free (g4.free hp5))) (g12.trans g35) h5 (by unfold smD; exact .tup (kp_new (g12.free (g3.free ht)) (g5 _ _ h4)) (.cons (.str _) (.cons (.int _) (.cons (.str _) (.cons (.str _) .nil))))) (by simp only [SmOk]; exact ⟨no, no2, k0, k1⟩) trivial rfl rfl
  walk_at "r2"
  refine ite2 (fun c4 => ?_) fun c4 => ?_
  · have q3 : (Str.ofString "say ").length = 4 := by decide +kernel
    walk_at "r2"
    refine ⟨by omega, ?_⟩
    walk_at "r2"
    refine ⟨by omega, ?_⟩
    walk_at "r2"
    refine ⟨by omega, ?_⟩
    walk_at "r2"
    intro t H4 ht g4 h4
    walk_at "r2"
    intro p5 H5 hp5 g5 h5
    have g35 := g4.trans g5
    have rv5 := r1.mono (kp_mono (Same.refl _) (g2.trans g35))
    exact q p5 t H5 _ (.pl (Str.ofString "say") k [.str nm, t1.toD]) (g12.free (g4.free hp5)) (g12.trans g35) h5 (by unfold smD; exact .tup (kp_new (g12.free ht) (g5 _ _ h4)) (.cons (.str _) (.cons (.int _) (.cons (.str _) (.cons rv5 .nil))))) (by simp only [SmOk]; exact ⟨by decide +kernel, all_cons (dg_str no) (all_cons tg1 all_nil), by simp, k0, k1⟩) trivial rfl rfl
  walk_at "r2"
  refine ite2 (fun c5 => ?_) fun c5 => ?_
  · walk_at "r2"
    intro t H4 ht g4 h4
    walk_at "r2"
    intro p5 H5 hp5 g5 h5
    exact q p5 t H5 _ (.pl (Str.ofString "stop") k []) (g12.free (g4.free hp5)) (g12.trans (g4.trans g5)) h5 (by unfold smD; exact .tup (kp_new (g12.free ht) (g5 _ _ h4)) (.cons (.str _) (.cons (.int _) .nil))) (by simp only [SmOk]; exact ⟨by decide +kernel, all_nil, by simp, k0, k1⟩) trivial rfl rfl
  walk_at "r2"
  obtain ⟨nn, enn, hn⟩ : ∃ nn : Nat, m / 200 % 4 = (nn : Int) ∧ nn ≤ 3 := ⟨(m / 200 % 4).toNat, by omega, by omega⟩
  refine tcomp_in ?_
  simp only [iRng1]
  walk_at "r2"
  refine ⟨by omega, by omega, compJD_range (by omega) (SoP K H2 c) (fun D H' _ _ _ => ⟨[], .nil, fun e h => absurd h List.not_mem_nil, rfl, _, rfl⟩) ?_ ?_⟩
  · intro D j ys σ1 H3 hj at1 z
    obtain ⟨es, ry, ge, le, v0, rfl⟩ := z
    walk_at "r2"
    refine ⟨_, _, rfl, by omega, by omega, fun p4 H4 x4 tv t4 hp4 g4 h4 l4 r4 gd4 d4 => ?_⟩
    refine at1.put g4 fun H5 mu => ⟨es ++ [(x4, t4)], ?_, fun e he => ?_, by rw [List.length_append, le]; rfl, _, rfl⟩
    · rw [List.map_append]
      have rr : Rp K (kp em H3 H4) (.ref p4) (exD (x4, t4)) := .lst (kp_new hp4 h4) (.cons (.str _) (.cons r4 .nil))
      exact RpL.app (.cons (rr.mono (kp_item at1.same rfl at1.lst mu)) .nil) (ry.mono (kp_own g4 mu))
    · rcases List.mem_append.mp he with z | z
      · exact ge e z
      · rw [List.mem_singleton.mp z]; exact ⟨l4, dg_mono (tr_dg gd4) (by show t4.depth + 1 ≤ 5; omega)⟩
  · intro D ys σ1 H3 hD g3 hy hle z
    obtain ⟨es, ry, ge, le, v0, rfl⟩ := z
    have ry3 := ry.mono hide_le
    have le3 : es.length ≤ 3 := by omega
    clear le ry
    walk_at "r2"
    intro p4 H4 hp4 g4 h4
    have hy4 := g4 _ _ hy
    clear hy
    walk_at "r2"
    refine tcomp_in ?_
    simp only [iList]
    walk_at "r2"
    refine ⟨⟨_, SqL.of hy4⟩, compJ_l0 hy4 (ry3.mono fun a u e => g4 _ _ (kp_le a u e)) (by omega) fun D5 H5 hD5 g5 h5 => ?_⟩
    have hy5 := g5 _ _ hy4
    have h45 := g5 _ _ h4
    clear hy4 h4
    walk_at "r2"
    refine ⟨by rw [List.length_map, List.length_map]; omega, fun p6 H6 hp6 g6 h6 => ?_⟩
    have hy6 := g6 _ _ hy5
    clear hy5 h45
    have wj : JoinOk (Str.ofString " ") (Str.ofString "start" :: nm :: es.map (·.1)) = true := by
      refine PyProof.Rows.joinOk_of_weight ?_ (by decide +kernel)
      have e5 : (Str.ofString "start").length = 5 := by decide +kernel
      have := ex_w ge
      rw [List.map_cons, List.map_cons, List.sum_cons, List.sum_cons, List.length_cons, List.length_cons, List.length_map, e5]
      omega
    have h6' : H6 p6 = some (.lst ((Str.ofString "start" :: nm :: es.map (·.1)).map V.str)) := h6
    refine ⟨_, _, _, rfl, rfl, h6', wj, ?_⟩
    clear wj h6 h6'
    walk_at "r2"
    refine tcomp_in ?_
    simp only [iList]
    walk_at "r2"
    have g26 := g3.trans (g4.trans (g5.trans g6))
    refine ⟨⟨_, SqL.of hy6⟩, compJ_l1 (HB := kp em H2 H3) (fun a u e => g6 _ _ (g5 _ _ (g4 _ _ (kp_le a u e)))) hy6 ry3 (by omega) fun D7 H7 vs hD7 g7 h7 r7 => ?_⟩
    walk_at "r2"
    intro t H8 ht g8 h8
    walk_at "r2"
    intro p9 H9 hp9 g9 h9
    have g29 := g26.trans (g7.trans (g8.trans g9))
    have n6 : ∀ {a}, H6 a = none → H a = none := fun h => g12.free (g26.free h)
    have r9 : RpL K (kp em H H9) vs (es.map fun e => e.2.toD) := r7.mono (kp_mono g12 (g4.trans (g5.trans (g6.trans (g7.trans (g8.trans g9))))))
    refine q p9 t H9 _ (.st k nm (es.map fun e => e.2.toD)) (n6 (g7.free (g8.free hp9))) (g12.trans g29) h9 (by unfold smD; exact .tup (kp_new (n6 (g7.free ht)) (g9 _ _ h8)) (.cons (.str _) (.cons (.int _) (.cons (.str _) (.cons (.lst (kp_new (n6 hD7) (g9 _ _ (g8 _ _ h7))) r9) .nil))))) ?_ (by show _ ≤ 4; rw [List.length_map]; omega) rfl rfl
    simp only [SmOk]
    exact ⟨no, map_dg fun e he => (ge e he).2, by rw [List.length_map]; omega, k0, k1⟩
end
end K14
set_option Elab.async false
set_option linter.all false
set_option maxRecDepth 100000
set_option maxHeartbeats 4000000
namespace K14
open PySem L2
section
variable {P : Program} {w : World} {K : PySem.W.Frag} {mg : Str → Option Value} {base : Heap}
def GnP (hd k m : Int) (i : Nat) (ys : List V) (σ1 : St) (H' : Hp) : Prop := ∃ ns : List Int, ys = ns.map V.int ∧ (∀ n ∈ ns, 0 ≤ n ∧ n < 1000000) ∧ ns.length = i ∧ ∃ v0, σ1 = [v0, some (.int hd), some (.int k), some (.int m)]
def GsP (i : Nat) (ys : List V) (σ1 : St) (H' : Hp) : Prop := ∃ ws : List Str, ys = ws.map V.str ∧ (∀ x ∈ ws, x.length ≤ 6) ∧ ws.length = i ∧ ∃ v0, σ1 = [v0]
theorem ws_w {ws : List Str} (h : ∀ x ∈ ws, x.length ≤ 6) : (ws.map (·.length)).sum ≤ 6 * ws.length := by
  induction ws with
  | nil => exact Nat.le_refl _
  | cons e es ih =>
    have a := h e (List.mem_cons_self ..)
    have b := ih fun x hx => h x (List.mem_cons_of_mem _ hx)
    rw [List.map_cons, List.sum_cons, List.length_cons]
    omega
theorem ints_rpl {K : PySem.W.Frag} {H : Hp} (l : List Int) : RpL K H (l.map V.int) (l.map .int) := by
  induction l with
  | nil => exact .nil
  | cons x l ih => exact .cons (.int _) ih
def spGo (K : PySem.W.Frag) : Sp := fun vs H Q _ => ∃ (hd k : Int) (nm : Str), vs = [.int hd, .int k, .str nm] ∧ 0 ≤ k ∧ k ≤ 5 ∧ Nok nm ∧ ∀ (p t : Addr) (H' : Hp) (x : Str) (pl : Nat) (r : List PyData), H p = none → Same H H' → H' p = some (.lst [.str x, .int pl, .ref t]) → pl < 3 → Rp K (kp em H H') (.ref t) (oneD (nm, r)) → DG 5 (oneD (nm, r)) → Q (.ref p) H'
theorem ok_go (D : DefAt K mg "_law_good" s__law_good ["head", "k", "name"]) (hrange : mg "range" = none) (hstr : mg "str" = none) (G__law_stir : OkD P w K mg base 1 "_law_stir" ["cell", "k"] spStir) : OkD P w K mg base 2 "_law_good" ["head", "k", "name"] (spGo K) := by
  refine D.ok sc__law_good (fun vs H Q E h => ?_) (fun f cdv A outer s H vs Q E hr h => ?_)
  · obtain ⟨_, _, _, rfl, _⟩ := h; rfl
  obtain ⟨hd, k, nm, rfl, k0, k1, ⟨no, nl⟩, q⟩ := h
  have big : 100000 ≤ sizeLine := by unfold sizeLine; decide
  refine ⟨_, (pss_cons (ps_set (i := 3) sc__law_good.nd rfl (Or.inr rfl) (pe_def G__law_stir hr rfl (pa_c (pv 0) (pa_c (pe_op op_add pe_int (pv 1)) pa_nil))))
  (pss_cons (ps_set (i := 4) sc__law_good.nd rfl (Or.inl rfl) (pe_def G__law_stir hr rfl (pa_c (pv 0) (pa_c (pe_op op_add pe_int (pv 1)) pa_nil))))
  (pss_cons (ps_if (pt_cmpR op_eq (pe_op op_mod (pv 3) pe_int) pe_int (nomark _))
  (pss_cons (ps_set (i := 5) sc__law_good.nd rfl (Or.inl rfl) (pe_op op_add pe_int (pe_op op_mod (pv 4) pe_int)))
  (pss_one (ps_ret (pe_lstG (pa_c (pe_op op_add_str (pe_op op_add_str (pe_op op_add_str pe_str (pv 2)) pe_str) (pe_cTy call_str_int rfl hstr (by decide +kernel) (pa_c (pv 5) pa_nil))) (pa_c pe_int (pa_c (pe_tupG (pa_c (pv 2) (pa_c (pv 5) pa_nil))) pa_nil)))))))
  pss_nil)
  (pss_cons (ps_if (pt_cmpR op_eq (pe_op op_mod (pv 3) pe_int) pe_int (nomark _))
  (pss_cons (ps_set (i := 6) sc__law_good.nd rfl (Or.inl rfl) (pe_ix ix_g (pe_lstG (pa_c pe_int (pa_c pe_int (pa_c (pe_op op_add pe_int (pe_op op_mod (pv 4) pe_int)) (pa_c (pe_op op_add pe_int (pe_op op_mod (pv 4) pe_int)) pa_nil))))) (pe_op op_mod (pe_op op_fdiv (pv 3) pe_int) pe_int) (fun _ _ => rfl)))
  (pss_cons (ps_set (i := 7) sc__law_good.nd rfl (Or.inl rfl) (pe_ix ix_g (pe_lstG (pa_c pe_int (pa_c (pv 6) (pa_c (pe_op op_mod (pe_op op_fdiv (pv 4) pe_int) (pe_op op_add (pv 6) pe_int)) pa_nil)))) (pe_op op_mod (pe_op op_fdiv (pv 3) pe_int) pe_int) (fun _ _ => rfl)))
  (pss_one (ps_ret (pe_lstG (pa_c (pe_op op_add_str (pe_op op_add_str (pe_op op_add_str (pe_op op_add_str (pe_op op_add_str pe_str (pv 2)) pe_str) (pe_cTy call_str_int rfl hstr (by decide +kernel) (pa_c (pv 7) pa_nil))) pe_str) (pe_cTy call_str_int rfl hstr (by decide +kernel) (pa_c (pv 6) pa_nil))) (pa_c pe_int (pa_c (pe_tupG (pa_c (pv 2) (pa_c (pv 7) (pa_c (pv 6) pa_nil)))) pa_nil))))))))
  pss_nil)
  (pss_cons (ps_setCN (i := 8) sc__law_good.nd rfl (Or.inl rfl) (comp_scopeN 1 (N := ["j", "head", "k", "number"]) (cap := [0, 1, 3]) rfl rfl rfl rfl (by decide +kernel) rfl rfl rfl) rfl (pi_range1 rfl hrange (pa_c (pe_op op_add pe_int (pe_op op_mod (pv 4) pe_int)) pa_nil)) (fun _ _ _ _ => (pg_name (i := 0) (show List.Nodup (α := Str) ["j", "head", "k", "number"] by decide +kernel) rfl (Or.inl (lookup_relabel_local rfl)) (Or.inr (lookup_relabel_local rfl)))) (fun _ _ _ _ => pts_nil) (fun _ _ _ _ => (pe_op op_mod (pe_def G__law_stir hr rfl (pa_c (pv 1) (pa_c (pe_op op_add (pe_op op_add pe_int (pe_op op_mul pe_int (pv 2))) (pv 0)) pa_nil))) (pe_ix ix_g (pe_lstG (pa_c pe_int (pa_c pe_int (pa_c pe_int pa_nil)))) (pe_op op_mod (pe_op op_fdiv (pv 3) pe_int) pe_int) (fun _ _ => rfl)))))
  (pss_one (ps_ret (pe_lstG (pa_c (pe_join pe_str (pe_op op_catG (pe_lstG (pa_c pe_str (pa_c (pv 2) pa_nil))) (pe_compN (comp_scopeN 1 (N := ["one"]) (cap := []) rfl rfl rfl rfl (by decide +kernel) rfl rfl rfl) rfl (pi_list (pv 8)) (fun _ _ _ _ => (pg_name (i := 0) (show List.Nodup (α := Str) ["one"] by decide +kernel) rfl (Or.inl (lookup_relabel_local rfl)) (Or.inr (lookup_relabel_local rfl)))) (fun _ _ _ _ => pts_nil) (fun _ _ _ _ => (pe_cTy call_str_int rfl hstr (by decide +kernel) (pa_c (pv 0) pa_nil)))))) (pa_c pe_int (pa_c (pe_tupG (pa_c (pv 2) (pa_c (pv 8) pa_nil))) pa_nil))))))))))), ?_⟩
  walk_at "r2"
  refine ⟨_, _, rfl, by omega, by omega, fun m e0 m0 m1 => ?_⟩
  clear e0
  walk_at "r2"
  refine ⟨_, _, rfl, by omega, by omega, fun far e0 f0 f1 => ?_⟩
  clear e0
  have sl := slen
  walk_at "r2"
  refine ite2 (fun c1 => ?_) fun c1 => ?_
  · have nlg := num_log (n := 1 + far % 9) (by omega) (by omega)
    have nln := num_len (n := 1 + far % 9) (by omega) (by omega)
    have q2 : (Str.ofString " ").length = 1 := by decide +kernel
    have q3 : (Str.ofString "tool ").length = 5 := by decide +kernel
    walk_at "r2"
    refine ⟨by omega, ?_⟩
    walk_at "r2"
    refine ⟨by omega, ?_⟩
    walk_at "r2"
    refine ⟨by omega, ?_⟩
    walk_at "r2"
    intro t H1 ht g1 h1
    walk_at "r2"
    intro p2 H2 hp2 g2 h2
    exact q p2 t H2 _ 0 [.int (1 + far % 9)] (g1.free hp2) (g1.trans g2) h2 (by decide) (.tup (kp_new ht (g2 _ _ h1)) (.cons (.str _) (.cons (.int _) .nil))) (dg_tup (n := 4) (all_cons (dg_str no) (all_cons dg_int all_nil)) (by simp))
  walk_at "r2"
  refine ite2 (fun c2 => ?_) fun c2 => ?_
  · walk_at "r2"
    intro l1 H1 hl1 g1 h1
    obtain ⟨mv, hmv, mmv, _⟩ := atI_in (xs := [V.int 1, V.int 999, V.int (1 + far % 9), V.int (1 + far % 999)]) (i := m / 3 % 4) (by omega) (by simp only [List.length_cons, List.length_nil]; omega)
    obtain ⟨ms, rfl, ms1, ms2⟩ : ∃ ms : Int, mv = .int ms ∧ 1 ≤ ms ∧ ms ≤ 999 := by
      simp only [List.mem_cons, List.not_mem_nil, or_false] at mmv
      rcases mmv with rfl | rfl | rfl | rfl <;> exact ⟨_, rfl, by omega, by omega⟩
    walk_at "r2"
    have fe0 := Int.emod_nonneg (far / 1000) (show ms + 1 ≠ 0 by omega)
    have fe1 := Int.emod_lt_of_pos (far / 1000) (show 0 < ms + 1 by omega)
    refine ⟨by omega, ?_⟩
    walk_at "r2"
    intro l2 H2 hl2 g2 h2
    have h2' : H2 l2 = some (.lst [V.int 0, V.int ms, V.int (far / 1000 % (ms + 1))]) := h2
    clear h2
    generalize far / 1000 % (ms + 1) = fe at fe0 fe1 h2'
    obtain ⟨fv, hfv, mfv, _⟩ := atI_in (xs := [V.int 0, V.int ms, V.int fe]) (i := m / 12 % 3) (by omega) (by simp only [List.length_cons, List.length_nil]; omega)
    obtain ⟨fs, rfl, fs1, fs2⟩ : ∃ fs : Int, fv = .int fs ∧ 0 ≤ fs ∧ fs ≤ 999 := by
      simp only [List.mem_cons, List.not_mem_nil, or_false] at mfv
      rcases mfv with rfl | rfl | rfl <;> exact ⟨_, rfl, by omega, by omega⟩
    have nlg := num_log (n := fs) (by omega) (by omega)
    have nln := num_len (n := fs) (by omega) (by omega)
    have nlg' := num_log (n := ms) (by omega) (by omega)
    have nln' := num_len (n := ms) (by omega) (by omega)
    have q2 : (Str.ofString " ").length = 1 := by decide +kernel
    have q3 : (Str.ofString "store ").length = 6 := by decide +kernel
    walk_at "r2"
    refine ⟨by omega, ?_⟩
    walk_at "r2"
    refine ⟨by omega, ?_⟩
    walk_at "r2"
    refine ⟨by omega, ?_⟩
    walk_at "r2"
    refine ⟨by omega, ?_⟩
    walk_at "r2"
    refine ⟨by omega, ?_⟩
    walk_at "r2"
    intro t H3 ht g3 h3
    walk_at "r2"
    intro p4 H4 hp4 g4 h4
    have g12 := g1.trans g2
    exact q p4 t H4 _ 1 [.int fs, .int ms] (g12.free (g3.free hp4)) (g12.trans (g3.trans g4)) h4 (by decide) (.tup (kp_new (g12.free ht) (g4 _ _ h3)) (.cons (.str _) (.cons (.int _) (.cons (.int _) .nil)))) (dg_tup (n := 4) (all_cons (dg_str no) (all_cons dg_int (all_cons dg_int all_nil))) (by simp))
  walk_at "r2"
  obtain ⟨nn, enn, hn⟩ : ∃ nn : Nat, 1 + far % 20 = (nn : Int) ∧ nn ≤ 20 := ⟨(1 + far % 20).toNat, by omega, by omega⟩
  refine tcomp_in ?_
  simp only [iRng1]
  walk_at "r2"
  refine ⟨by omega, by omega, compJ_range (by omega) (GnP hd k m) (fun H' _ => ⟨[], rfl, fun n h => absurd h List.not_mem_nil, rfl, _, rfl⟩) ?_ ?_⟩
  · rintro D j ys σ1 H1 hj at1 ⟨ns, rfl, hns, ln, v0, rfl⟩
    have hj20 : j < 20 := by omega
    walk_at "r2"
    refine ⟨_, _, rfl, by omega, by omega, fun m' e0 m0' m1' => ?_⟩
    clear e0
    intro l1 H2 hl1 g1 h1
    obtain ⟨cv, hcv, mcv, _⟩ := atI_in (xs := [V.int 10, V.int 1000, V.int 1]) (i := m / 3 % 3) (by omega) (by simp only [List.length_cons, List.length_nil]; omega)
    obtain ⟨cc, rfl, cc1, cc2⟩ : ∃ cc : Int, cv = .int cc ∧ 0 < cc ∧ cc ≤ 1000 := by
      simp only [List.mem_cons, List.not_mem_nil, or_false] at mcv
      rcases mcv with rfl | rfl | rfl <;> exact ⟨_, rfl, by decide, by decide⟩
    have ce0 := Int.emod_nonneg m' (show cc ≠ 0 by omega)
    have ce1 := Int.emod_lt_of_pos m' cc1
    walk_at "r2"
    refine at1.put g1 fun H5 mu => ⟨ns ++ [m' % cc], by rw [List.map_append]; rfl, fun n hn => ?_, by rw [List.length_append, ln]; rfl, _, rfl⟩
    rcases List.mem_append.mp hn with z | z
    · exact hns n z
    · rw [List.mem_singleton.mp z]; exact ⟨ce0, by omega⟩
  · rintro D ys σ1 H1 hD g1 hy hle ⟨ns, rfl, hns, ln, v0, rfl⟩
    have ln20 : ns.length ≤ 20 := by omega
    clear ln
    walk_at "r2"
    intro p4 H4 hp4 g4 h4
    have hy4 := g4 _ _ hy
    clear hy
    walk_at "r2"
    refine tcomp_in ?_
    simp only [iList]
    walk_at "r2"
    refine ⟨⟨_, SqL.of hy4⟩, compJ_list hy4 (by rw [List.length_map]; omega) GsP (fun H' _ => ⟨[], rfl, fun n h => absurd h List.not_mem_nil, rfl, _, rfl⟩) ?_ ?_⟩
    · rintro D5 j v ys σ1 H5 hx at1 ⟨ws, rfl, hws, lw, v0, rfl⟩
      rw [List.getElem?_map] at hx
      obtain ⟨n, hn', rfl⟩ := Option.map_eq_some_iff.mp hx
      obtain ⟨n0, n1⟩ := hns n (List.mem_of_getElem? hn')
      have nlg := num_log n0 n1
      have nln := num_len n0 n1
      clear hy4 h4
      walk_at "r2"
      refine at1.put (Same.refl _) fun H6 mu => ⟨ws ++ [Str.ofString (toString n)], by rw [List.map_append]; rfl, fun x hx => ?_, by rw [List.length_append, lw]; rfl, _, rfl⟩
      rcases List.mem_append.mp hx with z | z
      · exact hws x z
      · rw [List.mem_singleton.mp z]; exact nln
    · rintro D5 ys σ1 H5 hD5 g5 hy5 _ ⟨ws, rfl, hws, lw, v0, rfl⟩
      have lw20 : ws.length ≤ 20 := by rw [lw, List.length_map]; omega
      have h45 := g5 _ _ h4
      have hyD := g5 _ _ hy4
      clear lw h4 hy4
      refine ⟨_, rfl, _, _, h45, hy5, by rw [List.length_map]; show 2 + _ ≤ sizeLine; omega, fun p6 H6 hp6 g6 h6 => ?_⟩
      have hyD6 := g6 _ _ hyD
      have wj : JoinOk (Str.ofString " ") (Str.ofString "row" :: nm :: ws) = true := by
        refine PyProof.Rows.joinOk_of_weight ?_ (by decide +kernel)
        have e5 : (Str.ofString "row").length = 3 := by decide +kernel
        have := ws_w hws
        rw [List.map_cons, List.map_cons, List.sum_cons, List.sum_cons, List.length_cons, List.length_cons, e5]
        omega
      have h6' : H6 p6 = some (.lst ((Str.ofString "row" :: nm :: ws).map V.str)) := h6
      clear h6 h45 hy5 hyD
      walk_at "r2"
      refine ⟨Str.ofString "row" :: nm :: ws, rfl, wj, ?_⟩
      clear wj h6'
      walk_at "r2"
      intro t H7 ht g7 h7
      walk_at "r2"
      intro p8 H8 hp8 g8 h8
      have g16 := g1.trans (g4.trans (g5.trans g6))
      have g68 := g7.trans g8
      refine q p8 t H8 _ 2 [.list (ns.map .int)] (g16.free (g7.free hp8)) (g16.trans g68) h8 (by decide) (.tup (kp_new (g16.free ht) (g8 _ _ h7)) (.cons (.str _) (.cons (.lst (kp_new hD (g68 _ _ hyD6)) (ints_rpl ns)) .nil))) ?_
      exact dg_tup (n := 4) (all_cons (dg_str no) (all_cons (dg_lst (n := 3) (map_dg fun x hx => dg_int) (by rw [List.length_map]; omega)) all_nil)) (by simp)
end
end K14
set_option Elab.async false
set_option linter.all false
set_option maxRecDepth 100000
set_option maxHeartbeats 4000000
namespace K14
open PySem L2
def out (M : List Addr) (H : Hp) : Hp := fun a => if a ∈ M then none else H a
theorem out_of {M : List Addr} {H : Hp} {a : Addr} {u : HO} (n : a ∉ M) (h : H a = some u) : out M H a = some u := by unfold out; rw [if_neg n]; exact h
theorem out_inv {M : List Addr} {H : Hp} {a : Addr} {u : HO} (h : out M H a = some u) : a ∉ M ∧ H a = some u := by
  unfold out at h
  by_cases e : a ∈ M
  · rw [if_pos e] at h; cases h
  · rw [if_neg e] at h; exact ⟨e, h⟩
theorem out_le {M : List Addr} {H : Hp} : Same (out M H) H := fun a u h => (out_inv h).2
theorem out_same {M : List Addr} {H H' : Hp} (g : Same H H') : Same (out M H) (out M H') := fun a u h => out_of (out_inv h).1 (g _ _ (out_inv h).2)
theorem out_mu {M : List Addr} {H H' : Hp} {m : Addr} {o : HO} (hm : m ∈ M) (mu : Mu H m o H') : Same (out M H) (out M H') := fun a u h => by
  obtain ⟨n, h⟩ := out_inv h
  exact out_of n (mu.old h fun z => n (z ▸ hm))
theorem out_kp {M : List Addr} {H H' : Hp} (hM : ∀ m ∈ M, ∃ o, H m = some o) : Same (kp em H H') (out M H') := fun a u h => by
  obtain ⟨h, h2⟩ := kp_inv h
  refine out_of (fun z => ?_) h2
  obtain ⟨o, ho⟩ := hM a z
  rcases h with ⟨_, h⟩ | h
  · cases h
  · rw [ho] at h; cases h
theorem out_less {M M' : List Addr} {H : Hp} (h : ∀ m ∈ M', m ∈ M) : Same (out M H) (out M' H) := fun a u e => out_of (fun z => (out_inv e).1 (h a z)) (out_inv e).2
end K14
set_option Elab.async false
set_option linter.all false
set_option maxRecDepth 100000
set_option maxHeartbeats 4000000
namespace K14
open PySem L2
section
variable {P : Program} {w : World} {K : PySem.W.Frag} {mg : Str → Option Value} {base : Heap}
def GG (hd : Int) (o : Str × List PyData) : Prop := DG 5 (oneD o) ∧ o.1 ∈ namesF hd 400 5
structure GoS (K : PySem.W.Frag) (hd : Int) (H F : Hp) (rw a b c : Addr) (i : Nat) (H' : Hp) : Prop where
  same : Same F H'
  ex : ∃ (rs ta sa ra : List V) (t s r : List (Str × List PyData)), H' rw = some (.lst rs) ∧ rs.length = i ∧ H' a = some (.lst ta) ∧ H' b = some (.lst sa) ∧ H' c = some (.lst ra) ∧
    RpL K (out [rw, a, b, c] (kp em H H')) ta (t.map oneD) ∧ RpL K (out [rw, a, b, c] (kp em H H')) sa (s.map oneD) ∧ RpL K (out [rw, a, b, c] (kp em H H')) ra (r.map oneD) ∧ (∀ o ∈ t ++ (s ++ r), GG hd o) ∧ t.length + s.length + r.length = i
def GoI (K : PySem.W.Frag) (hd : Int) (H F : Hp) (rw a b c : Addr) (σ0 : St) (i : Nat) (σ : St) (H' : Hp) : Prop := GoS K hd H F rw a b c i H' ∧ ∃ v4 v5 v6 v7 v8, σ = σ0 ++ [v4, v5, v6, v7, v8]
def spGd (K : PySem.W.Frag) : Sp := fun vs H Q _ => ∃ hd : Int, vs = [.int hd] ∧ ∀ (p rw pt : Addr) (H' : Hp) (rs : List V) (t s r : List (Str × List PyData)), Same H H' → H p = none → H' p = some (.lst [.ref rw, .ref pt]) → H rw = none → H' rw = some (.lst rs) → rs.length ≤ 5 →
  Rp K (hide rw (kp em H H')) (.ref pt) (.tuple [.list (t.map oneD), .list (s.map oneD), .list (r.map oneD)]) → (∀ o ∈ t ++ (s ++ r), GG hd o) → t.length + s.length + r.length ≤ 5 → Q (.ref p) H'
theorem ok_gd (D : DefAt K mg "_law_goods" s__law_goods ["head"]) (hrange : mg "range" = none) (hlen : mg "len" = none) (G__law_stir : OkD P w K mg base 1 "_law_stir" ["cell", "k"] spStir) (G__law_names : OkD P w K mg base 2 "_law_names" ["head", "k", "many"] (spNs namesF)) (G__law_good : OkD P w K mg base 2 "_law_good" ["head", "k", "name"] (spGo K)) : OkD P w K mg base 3 "_law_goods" ["head"] (spGd K) := by
  refine D.ok sc__law_goods (fun vs H Q E h => ?_) (fun f cdv A outer s H vs Q E hr h => ?_)
  · obtain ⟨_, rfl, _⟩ := h; rfl
  obtain ⟨hd, rfl, q⟩ := h
  have big : 100000 ≤ sizeLine := by unfold sizeLine; decide
  refine ⟨_, (pss_cons (ps_set (i := 1) sc__law_goods.nd rfl (Or.inl rfl) (pe_lstG pa_nil))
  (pss_cons (ps_set (i := 2) sc__law_goods.nd rfl (Or.inl rfl) (pe_tupG (pa_c (pe_lstG pa_nil) (pa_c (pe_lstG pa_nil) (pa_c (pe_lstG pa_nil) pa_nil)))))
  (pss_cons (ps_set (i := 3) sc__law_goods.nd rfl (Or.inl rfl) (pe_def G__law_names hr rfl (pa_c (pv 0) (pa_c pe_int (pa_c pe_int pa_nil)))))
  (pss_cons (ps_for PassesOwn.never rfl (pi_range1 rfl hrange (pa_c (pe_op op_mod (pe_def G__law_stir hr rfl (pa_c (pv 0) (pa_c pe_int pa_nil))) pe_int) pa_nil)) (pg_name (i := 4) sc__law_goods.nd rfl (Or.inl rfl))
  (pss_cons (ps_set (i := 5) sc__law_goods.nd rfl (Or.inl rfl) (pe_ix ix_g (pv 3) (pe_op op_add (pe_cB call_lenG rfl hlen PySem.boot_len (pa_c (pe_ix ix_g (pv 2) pe_int (fun _ _ => rfl)) pa_nil)) (pe_cB call_lenG rfl hlen PySem.boot_len (pa_c (pe_ix ix_g (pv 2) pe_int (fun _ _ => rfl)) pa_nil))) (fun _ _ => rfl)))
  (pss_cons (ps_up (ps_if (pt_cmpR op_eq (pe_op op_mod (pe_def G__law_stir hr rfl (pa_c (pv 0) (pa_c (pe_op op_add pe_int (pv 4)) pa_nil))) pe_int) pe_int (nomark _))
  (pss_one (ps_set (i := 5) sc__law_goods.nd rfl (Or.inl rfl) (pe_ix ix_g (pv 3) (pe_op op_mod (pe_op op_add (pe_def G__law_stir hr rfl (pa_c (pv 0) (pa_c pe_int pa_nil))) (pe_cB call_lenG rfl hlen PySem.boot_len (pa_c (pe_ix ix_g (pv 2) pe_int (fun _ _ => rfl)) pa_nil))) pe_int) (fun _ _ => rfl))))
  pss_nil))
  (pss_cons (ps_asg (pe_def G__law_good hr rfl (pa_c (pv 0) (pa_c (pv 4) (pa_c (pv 5) pa_nil)))) (pg_lstG 3 rfl (pgs_cons (pg_name (i := 6) sc__law_goods.nd rfl (Or.inl rfl)) (pgs_cons (pg_name (i := 7) sc__law_goods.nd rfl (Or.inl rfl)) (pgs_cons (pg_name (i := 8) sc__law_goods.nd rfl (Or.inl rfl)) pgs_nil)))))
  (pss_cons (ps_expr (pe_appG (pv 1) (pv 6)))
  (pss_one (ps_expr (pe_appG (pe_ix ix_g (pv 2) (pv 7) (fun _ _ => rfl)) (pv 8)))))))))
  (pss_one (ps_ret (pe_lstG (pa_c (pv 1) (pa_c (pv 2) pa_nil))))))))), ?_⟩
  walk_at "r2"
  intro rw H1 hrw g1 h1
  walk_at "r2"
  intro a H2 ha g2 h2
  walk_at "r2"
  intro b H3 hb g3 h3
  walk_at "r2"
  intro c H4 hc g4 h4
  walk_at "r2"
  intro pt H5 hpt g5 h5
  walk_at "r2"
  refine ⟨hd, 400, 5, rfl, by decide, by decide, by decide, fun nl H6 hnl g6 h6 => ?_⟩
  walk_at "r2"
  refine tfor_in ?_
  simp only [iRng1]
  walk_at "r2"
  refine ⟨_, _, rfl, by decide, by decide, fun m e0 m0 m1 => ?_⟩
  clear e0
  obtain ⟨nn, enn, hn⟩ : ∃ nn : Nat, m % 6 = (nn : Int) ∧ nn ≤ 5 := ⟨(m % 6).toNat, by omega, by omega⟩
  walk_at "r2"
  have z1 := g6 _ _ (g5 _ _ (g4 _ _ (g3 _ _ (g2 _ _ h1))))
  have z2 := g6 _ _ (g5 _ _ (g4 _ _ (g3 _ _ h2)))
  have z3 := g6 _ _ (g5 _ _ (g4 _ _ h3))
  have z4 := g6 _ _ (g5 _ _ h4)
  have z5 := g6 _ _ h5
  have n12 : rw ≠ a := fun z => by rw [z] at h1; rw [h1] at ha; cases ha
  have n13 : rw ≠ b := fun z => by rw [z] at h1; rw [g2 _ _ h1] at hb; cases hb
  have n14 : rw ≠ c := fun z => by rw [z] at h1; rw [g3 _ _ (g2 _ _ h1)] at hc; cases hc
  have n23 : a ≠ b := fun z => by rw [z] at h2; rw [h2] at hb; cases hb
  have n24 : a ≠ c := fun z => by rw [z] at h2; rw [g3 _ _ h2] at hc; cases hc
  have n34 : b ≠ c := fun z => by rw [z] at h3; rw [h3] at hc; cases hc
  have npt : pt ∉ [rw, a, b, c] := fun z => by
    simp only [List.mem_cons, List.not_mem_nil, or_false] at z
    rcases z with rfl | rfl | rfl | rfl <;> simp_all
  have nnl : nl ∉ [rw, a, b, c] := fun z => by
    simp only [List.mem_cons, List.not_mem_nil, or_false] at z
    have : H6 nl ≠ none := by rw [h6]; simp
    rcases z with rfl | rfl | rfl | rfl
    · rw [g5 _ _ (g4 _ _ (g3 _ _ (g2 _ _ h1)))] at hnl; cases hnl
    · rw [g5 _ _ (g4 _ _ (g3 _ _ h2))] at hnl; cases hnl
    · rw [g5 _ _ (g4 _ _ h3)] at hnl; cases hnl
    · rw [g5 _ _ h4] at hnl; cases hnl
  have aH := g1.free ha
  have bH := g1.free (g2.free hb)
  have cH := g1.free (g2.free (g3.free hc))
  have ptH := g1.free (g2.free (g3.free (g4.free hpt)))
  have g06 := g1.trans (g2.trans (g3.trans (g4.trans (g5.trans g6))))
  obtain ⟨F, hF⟩ : ∃ F, F = out [rw, a, b, c] H6 := ⟨_, rfl⟩
  have sF : Same F H6 := by rw [hF]; exact out_le
  have hpF : F pt = some (.tup [.ref a, .ref b, .ref c]) := by rw [hF]; exact out_of npt z5
  have hnF : F nl = some (.lst ((namesF hd 400 5).map V.str)) := by rw [hF]; exact out_of nnl h6
  have sHF : Same H F := fun x u e => by
    rw [hF]
    refine out_of (fun z => ?_) (g06 _ _ e)
    simp only [List.mem_cons, List.not_mem_nil, or_false] at z
    rcases z with rfl | rfl | rfl | rfl
    · rw [hrw] at e; cases e
    · rw [aH] at e; cases e
    · rw [bH] at e; cases e
    · rw [cH] at e; cases e
  have nF : ∀ x u, F x = some u → x ∉ [rw, a, b, c] := fun x u e => by rw [hF] at e; exact (out_inv e).1
  clear h1 h2 h3 h4 h5 h6 hF
  refine ⟨by omega, by omega, for_range (GoI K hd H F rw a b c [some (V.int hd), some (V.ref rw), some (V.ref pt), some (V.ref nl)]) ⟨⟨sF, [], [], [], [], [], [], [], z1, rfl, z2, z3, z4, .nil, .nil, .nil, fun o h => absurd h (by simp), rfl⟩, _, _, _, _, _, rfl⟩ ?_ ?_⟩
  · intro i σ H7 hi z
    obtain ⟨⟨g7, rs, ta, sa, ra, t, s, r, y1, lr, y2, y3, y4, r2, r3, r4, dg, ls⟩, v4, v5, v6, v7, v8, rfl⟩ := z
    have y5 := g7 _ _ hpF
    have y6 := g7 _ _ hnF
    have lta := r2.len
    have lsa := r3.len
    have lra := r4.len
    rw [List.length_map] at lta lsa lra
    have pick5 : ∀ j : Int, 0 ≤ j → j < 5 → ∃ nm, atI ((namesF hd 400 5).map V.str) j = some (.str nm) ∧ Nok nm ∧ nm ∈ namesF hd 400 5 := fun j j0 j5 => by
      obtain ⟨v, hv, mv, _⟩ := atI_in (xs := (namesF hd 400 5).map V.str) (i := j) j0 (by rw [List.length_map, namesF_len]; exact j5)
      obtain ⟨nm, mn, rfl⟩ := List.mem_map.mp mv
      exact ⟨nm, hv, (names_ok hd 400 5 (by decide)).1 nm mn, mn⟩
    obtain ⟨nm, hnm, nmk⟩ := pick5 ((ta.length : Int) + (sa.length : Int)) (by omega) (by omega)
    simp only [List.cons_append, List.nil_append]
    refine gn_eq rfl ?_
    have c2 : ta.length + sa.length ≤ 4 := by omega
    clear lta lsa
    walk_at "r2"
    refine ⟨fun σ' H' => H' = H7 ∧ ∃ nm, (Nok nm ∧ nm ∈ namesF hd 400 5) ∧ σ' = [some (V.int hd), some (V.ref rw), some (V.ref pt), some (V.ref nl), some (V.int (0 + (i : Int))), some (V.str nm), v6, v7, v8], ?_, ?_⟩
    · refine ⟨_, _, rfl, by omega, by omega, fun m2 e0 m20 m21 => ?_⟩
      clear e0
      walk_at "r2"
      refine ite2 (fun c1 => ?_) fun c1 => ?_
      · walk_at "r2"
        refine ⟨_, _, rfl, by decide, by decide, fun m3 e0 m30 m31 => ?_⟩
        clear e0
        obtain ⟨nm2, hnm2, nmk2⟩ := pick5 ((m3 + (ra.length : Int)) % 5) (by omega) (by omega)
        clear lra
        walk_at "r2"
        exact ⟨_, nmk2.1, nmk2.2, rfl⟩
      · exact ⟨rfl, nm, nmk, rfl⟩
    rintro σ' H8 ⟨rfl, nm, nmk, rfl⟩
    clear hnm
    walk_at "r2"
    refine ⟨hd, _, nm, rfl, by omega, by omega, nmk.1, fun p9 t9 H9 x9 pl r9 hp9 g9 h9 pl3 rt9 dg9 => ?_⟩
    have y1' := g9 _ _ y1
    have y5' := g9 _ _ y5
    walk_at "r2"
    refine ⟨by omega, fun H10 mu10 => ?_⟩
    have w5 := mu10.old y5' (fun z => npt (by rw [z]; simp))
    have w2 := mu10.old (g9 _ _ y2) (Ne.symm n12)
    have w3 := mu10.old (g9 _ _ y3) (Ne.symm n13)
    have w4 := mu10.old (g9 _ _ y4) (Ne.symm n14)
    have w1 := mu10.at_
    have h8H : ∀ {x}, H8 x = none → H x = none := fun h => sHF.free (g7.free h)
    have st : ∀ {X : Addr} {o : HO} {H11 : Hp}, X ∈ [rw, a, b, c] → Mu H10 X o H11 → Same (out [rw, a, b, c] (kp em H H8)) (out [rw, a, b, c] (kp em H H11)) := fun hX mu x u e => by
      obtain ⟨n, e⟩ := out_inv e
      obtain ⟨e1, e2⟩ := kp_inv e
      refine out_of n (kp_new (by rcases e1 with ⟨_, z⟩ | z; cases z; exact z) ?_)
      exact mu.old (mu10.old (g9 _ _ e2) fun z => n (by rw [z]; simp)) fun z => n (by rw [z]; exact hX)
    have nt : ∀ {X : Addr} {o : HO} {H11 : Hp}, X ∈ [rw, a, b, c] → Mu H10 X o H11 → Same (kp em H8 H9) (out [rw, a, b, c] (kp em H H11)) := fun hX mu x u e => by
      obtain ⟨e1, e2⟩ := kp_inv e
      have e1 : H8 x = none := by rcases e1 with ⟨_, z⟩ | z; cases z; exact z
      have n : x ∉ [rw, a, b, c] := fun z => by
        simp only [List.mem_cons, List.not_mem_nil, or_false] at z
        rcases z with rfl | rfl | rfl | rfl
        · rw [y1] at e1; cases e1
        · rw [y2] at e1; cases e1
        · rw [y3] at e1; cases e1
        · rw [y4] at e1; cases e1
      refine out_of n (kp_new (h8H e1) ?_)
      exact mu.old (mu10.old e2 fun z => n (by rw [z]; simp)) fun z => n (by rw [z]; exact hX)
    have sF11 : ∀ {X : Addr} {o : HO} {H11 : Hp}, X ∈ [rw, a, b, c] → Mu H10 X o H11 → Same F H11 := fun hX mu x u e => by
      have n := nF x u e
      exact mu.old (mu10.old (g9 _ _ (g7 _ _ e)) fun z => n (by rw [z]; simp)) fun z => n (by rw [z]; exact hX)
    clear y1' y5' h9
    have one9 : ∀ {X : Addr} {o : HO} {H11 : Hp}, X ∈ [rw, a, b, c] → Mu H10 X o H11 → RpL K (out [rw, a, b, c] (kp em H H11)) [.ref t9] ([(nm, r9)].map oneD) := fun hX mu => .cons (rt9.mono (nt hX mu)) .nil
    have dgm : ∀ {x y z : List (Str × List PyData)}, (∀ o, o ∈ x ++ (y ++ z) → o ∈ t ++ (s ++ r) ∨ o = (nm, r9)) → ∀ o ∈ x ++ (y ++ z), GG hd o := fun h o ho => by
      rcases h o ho with z | rfl
      · exact dg o z
      · exact ⟨dg9, nmk.2⟩
    obtain rfl | rfl | rfl : pl = 0 ∨ pl = 1 ∨ pl = 2 := by omega
    · walk_at "r2"
      refine ⟨_, atI_nat (j := 0) rfl, _, _, rfl, w2, ?_⟩
      walk_at "r2"
      refine ⟨by omega, fun H11 mu => ?_⟩
      have hX : a ∈ [rw, a, b, c] := by simp
      exact ⟨⟨sF11 hX mu, rs ++ [.str x9], ta ++ [.ref t9], sa, ra, t ++ [(nm, r9)], s, r, mu.old w1 n12, by rw [List.length_append, lr]; rfl, mu.at_, mu.old w3 (Ne.symm n23), mu.old w4 (Ne.symm n24), (by rw [List.map_append]; exact RpL.app (one9 hX mu) (r2.mono (st hX mu))), r3.mono (st hX mu), r4.mono (st hX mu), (dgm fun o ho => by simp only [List.mem_append, List.mem_singleton] at ho ⊢; grind), by simp; omega⟩, _, _, _, _, _, rfl⟩
    · walk_at "r2"
      refine ⟨_, atI_nat (j := 1) rfl, _, _, rfl, w3, ?_⟩
      walk_at "r2"
      refine ⟨by omega, fun H11 mu => ?_⟩
      have hX : b ∈ [rw, a, b, c] := by simp
      exact ⟨⟨sF11 hX mu, rs ++ [.str x9], ta, sa ++ [.ref t9], ra, t, s ++ [(nm, r9)], r, mu.old w1 n13, by rw [List.length_append, lr]; rfl, mu.old w2 n23, mu.at_, mu.old w4 (Ne.symm n34), r2.mono (st hX mu), (by rw [List.map_append]; exact RpL.app (one9 hX mu) (r3.mono (st hX mu))), r4.mono (st hX mu), (dgm fun o ho => by simp only [List.mem_append, List.mem_singleton] at ho ⊢; grind), by simp; omega⟩, _, _, _, _, _, rfl⟩
    · walk_at "r2"
      refine ⟨_, atI_nat (j := 2) rfl, _, _, rfl, w4, ?_⟩
      walk_at "r2"
      refine ⟨by omega, fun H11 mu => ?_⟩
      have hX : c ∈ [rw, a, b, c] := by simp
      exact ⟨⟨sF11 hX mu, rs ++ [.str x9], ta, sa, ra ++ [.ref t9], t, s, r ++ [(nm, r9)], mu.old w1 n14, by rw [List.length_append, lr]; rfl, mu.old w2 n24, mu.old w3 n34, mu.at_, r2.mono (st hX mu), r3.mono (st hX mu), (by rw [List.map_append]; exact RpL.app (one9 hX mu) (r4.mono (st hX mu))), (dgm fun o ho => by simp only [List.mem_append, List.mem_singleton] at ho ⊢; grind), by simp; omega⟩, _, _, _, _, _, rfl⟩
  · intro σ H7 z
    obtain ⟨⟨g7, rs, ta, sa, ra, t, s, r, y1, lr, y2, y3, y4, r2, r3, r4, dg, ls⟩, v4, v5, v6, v7, v8, rfl⟩ := z
    have y5 := g7 _ _ hpF
    simp only [List.cons_append, List.nil_append]
    walk_at "r2"
    intro p8 H8 hp8 g8 h8
    have up : Same (out [rw, a, b, c] (kp em H H7)) (hide rw (kp em H H8)) := fun x u e => by
      obtain ⟨n, e⟩ := out_inv e
      exact hide_of (fun z => n (by rw [z]; simp)) (kp_mono (Same.refl _) g8 x u e)
    have nw' : ∀ {x u}, H x = none → x ≠ rw → H7 x = some u → hide rw (kp em H H8) x = some u := fun h1 h2 h3 => hide_of h2 (kp_new h1 (g8 _ _ h3))
    have ptn : pt ≠ rw := fun z => npt (by rw [z]; simp)
    exact q p8 rw pt H8 rs t s r (sHF.trans (g7.trans g8)) (sHF.free (g7.free hp8)) h8 hrw (g8 _ _ y1) (by omega) (.tup (nw' ptH ptn y5) (.cons (.lst (nw' aH (Ne.symm n12) y2) (r2.mono up)) (.cons (.lst (nw' bH (Ne.symm n13) y3) (r3.mono up)) (.cons (.lst (nw' cH (Ne.symm n14) y4) (r4.mono up)) .nil)))) dg (by omega)
end
end K14
set_option Elab.async false
set_option linter.all false
set_option maxRecDepth 100000
set_option maxHeartbeats 4000000
namespace K14
open PySem L2
inductive Hg
  | ha (x : Str) (ns : List Str) (nl : Addr)
  | wh (k : Int) (vs va vb : V) (sg a b : PyData)
  | th (k : Int) (vs va vb : V) (sg a b : PyData) (e : Addr)
  | el (k : Int) (vs va vb : V) (sg a b : PyData) (u : Addr) (us : List V) (ds : List Sm)
structure Fm where
  c : Addr
  xs : List V
  dn : List Sm
  t : Addr
  o : Addr
  h : Hg
def Hg.es : Hg → List Addr
  | .th _ _ _ _ _ _ _ e => [e]
  | _ => []
def Hg.nm : Hg → List Str
  | .ha x _ _ => [x]
  | _ => []
def Hg.ds : Hg → List Sm
  | .el _ _ _ _ _ _ _ _ _ ds => ds
  | _ => []
def Hg.ks : Hg → List Int
  | .ha _ _ _ => []
  | .wh k _ _ _ _ _ _ => [k]
  | .th k _ _ _ _ _ _ _ => [k]
  | .el k _ _ _ _ _ _ _ _ _ => [k]
def ksL (l : List Sm) : List Int := (l.flatMap orS).map kS
def ksF (f : Fm) : List Int := f.h.ks ++ ksL (f.dn ++ f.h.ds)
def ksA (hd : List Hd) (fs : List Fm) : List Int := (hd.flatMap fun h => (orB h.2.2).map kS) ++ fs.flatMap ksF
def KsOk (l : List Int) (kb : Int) : Prop := l.Nodup ∧ ∀ k ∈ l, k ≤ kb
theorem KsOk.perm {l l' : List Int} {kb : Int} (h : KsOk l kb) (p : l'.Perm l) : KsOk l' kb := ⟨p.nodup_iff.mpr h.1, fun k hk => h.2 k (p.mem_iff.mp hk)⟩
theorem KsOk.add {l : List Int} {kb k : Int} (h : KsOk l kb) (lt : kb < k) : KsOk (k :: l) k := ⟨List.nodup_cons.mpr ⟨fun m => by have := h.2 k m; omega, h.1⟩, fun x hx => by
  rcases List.mem_cons.mp hx with e | m
  · omega
  · have := h.2 x m; omega⟩
theorem KsOk.mono {l : List Int} {kb k : Int} (h : KsOk l kb) (le : kb ≤ k) : KsOk l k := ⟨h.1, fun x m => Int.le_trans (h.2 x m) le⟩
theorem ksL_app (a b : List Sm) : ksL (a ++ b) = ksL a ++ ksL b := by unfold ksL; rw [List.flatMap_append, List.map_append]
def keys : List Fm → List Addr
  | [] => []
  | f :: fs => f.c :: (f.h.es ++ keys fs)
def Cls (H : Hp) : List Fm → List V → Prop
  | [], _ => True
  | f :: fs, hv => H f.c = some (.lst (f.xs ++ hv)) ∧ (∀ e ∈ f.h.es, H e = some (.lst [])) ∧ Cls H fs [.ref f.t]
def topT : List Fm → List V → List V
  | [], hv => hv
  | f :: fs, _ => topT fs [.ref f.t]
def nmO (fs : List Fm) : List Str := fs.flatMap fun f => f.h.nm
def wW : Hg → Str
  | .ha _ _ _ => Str.ofString "hand"
  | .wh _ _ _ _ _ _ _ => Str.ofString "while"
  | .th _ _ _ _ _ _ _ _ => Str.ofString "if"
  | .el _ _ _ _ _ _ _ _ _ _ => Str.ofString "else"
structure Three (K : PySem.W.Frag) (F : Hp) (vs va vb : V) (sg a b : PyData) : Prop where
  rs : Rp K F vs sg
  ra : Rp K F va a
  rb : Rp K F vb b
  gs : DG 5 sg
  ga : DG 5 a
  gb : DG 5 b
def HgOk (K : PySem.W.Frag) (F : Hp) (c t : Addr) : Hg → Prop
  | .ha x ns nl => F t = some (.tup [.str x, .ref nl, .ref c]) ∧ F nl = some (.lst (ns.map V.str))
  | .wh k vs va vb sg a b => F t = some (.tup [.str (Str.ofString "while"), .int k, vs, va, vb, .ref c]) ∧ Three K F vs va vb sg a b
  | .th k vs va vb sg a b e => F t = some (.tup [.str (Str.ofString "if"), .int k, vs, va, vb, .ref c, .ref e]) ∧ Three K F vs va vb sg a b
  | .el k vs va vb sg a b u us ds => F t = some (.tup [.str (Str.ofString "if"), .int k, vs, va, vb, .ref u, .ref c]) ∧ Three K F vs va vb sg a b ∧ F u = some (.lst us) ∧ RpL K F us (ds.map smD)
def GoodS (n : Nat) (s : Sm) : Prop := SmOk s n ∧ ∀ t ∈ orS s, Short t
structure Nms1 (x : Str) (ns : List Str) : Prop where
  ok : Nok x
  al : ∀ y ∈ ns, PyData.strOk y = true
  len : ns.length ≤ 3
structure FmOk (K : PySem.W.Frag) (F : Hp) (n : Nat) (f : Fm) : Prop where
  xs : RpL K F f.xs (f.dn.map smD)
  o : F f.o = some (.lst (.str (wW f.h) :: .ref f.c :: f.h.es.map V.ref))
  h : HgOk K F f.c f.t f.h
  g : ∀ s ∈ f.dn ++ f.h.ds, GoodS n s
  n : ∀ x ns nl, f.h = .ha x ns nl → Nms1 x ns
def Hg.isHa : Hg → Prop
  | .ha _ _ _ => True
  | _ => False
def Fms (K : PySem.W.Frag) (F : Hp) : List Fm → Prop
  | [] => True
  | f :: fs => FmOk K F (6 - fs.length) f ∧ (f.h.isHa ↔ fs = []) ∧ Fms K F fs
def cntF (f : Fm) : Nat := ((f.dn ++ f.h.ds).flatMap orS).length + 1
def cnts (fs : List Fm) : Nat := (fs.map cntF).sum
def frz (rw hs op : Addr) (fs : List Fm) (H : Hp) : Hp := out (rw :: hs :: op :: keys fs) H
theorem Three.mono {K : PySem.W.Frag} {F G : Hp} {vs va vb : V} {sg a b : PyData} (h : Three K F vs va vb sg a b) (g : Same F G) : Three K G vs va vb sg a b := ⟨h.rs.mono g, h.ra.mono g, h.rb.mono g, h.gs, h.ga, h.gb⟩
theorem HgOk.mono {K : PySem.W.Frag} {F G : Hp} {c t : Addr} {h : Hg} (x : HgOk K F c t h) (g : Same F G) : HgOk K G c t h := by
  cases h with
  | ha => exact ⟨g _ _ x.1, g _ _ x.2⟩
  | wh => exact ⟨g _ _ x.1, x.2.mono g⟩
  | th => exact ⟨g _ _ x.1, x.2.mono g⟩
  | el => exact ⟨g _ _ x.1, x.2.1.mono g, g _ _ x.2.2.1, x.2.2.2.mono g⟩
theorem FmOk.mono {K : PySem.W.Frag} {F G : Hp} {n : Nat} {f : Fm} (x : FmOk K F n f) (g : Same F G) : FmOk K G n f := ⟨x.xs.mono g, g _ _ x.o, x.h.mono g, x.g, x.n⟩
theorem Fms.mono {K : PySem.W.Frag} {F G : Hp} (g : Same F G) : ∀ {fs : List Fm}, Fms K F fs → Fms K G fs
  | [], _ => trivial
  | _ :: _, h => ⟨h.1.mono g, h.2.1, Fms.mono g h.2.2⟩
def mkS : Hg → List Sm → Sm
  | .wh k _ _ _ sg a b, l => .wh k sg a b (ofL l)
  | .th k _ _ _ sg a b _, l => .fi k sg a b (ofL l) .nil
  | .el k _ _ _ sg a b _ _ ds, l => .fi k sg a b (ofL ds) (ofL l)
  | .ha _ _ _, l => .wh 0 (.int 0) (.int 0) (.int 0) (ofL l)
theorem bdD_ofL (l : List Sm) : bdD (ofL l) = l.map smD := by rw [bdD_toL, toL_ofL]
theorem orB_ofL (l : List Sm) : orB (ofL l) = l.flatMap orS := by rw [orB_toL, toL_ofL]
theorem ok_ofL {n : Nat} {l : List Sm} (h : ∀ s ∈ l, SmOk s n) : BdOk (ofL l) n := by rw [ok_toL, toL_ofL]; exact h
theorem rp_mkS {K : PySem.W.Frag} {F : Hp} {c t : Addr} {h : Hg} {xs : List V} {l : List Sm} (x : HgOk K F c t h) (nh : ¬ h.isHa) (hc : F c = some (.lst xs)) (r : RpL K F xs (l.map smD)) (he : ∀ e ∈ h.es, F e = some (.lst [])) : Rp K F (.ref t) (smD (mkS h l)) := by
  have rc : Rp K F (.ref c) (.list (bdD (ofL l))) := .lst hc (by rw [bdD_ofL]; exact r)
  cases h with
  | ha => exact absurd trivial nh
  | wh => unfold mkS smD; exact .tup x.1 (.cons (.str _) (.cons (.int _) (.cons x.2.rs (.cons x.2.ra (.cons x.2.rb (.cons rc .nil))))))
  | th k vs va vb sg a b e => unfold mkS smD; exact .tup x.1 (.cons (.str _) (.cons (.int _) (.cons x.2.rs (.cons x.2.ra (.cons x.2.rb (.cons rc (.cons (.lst (he e (List.mem_singleton.mpr rfl)) (by unfold bdD; exact .nil)) .nil)))))))
  | el k vs va vb sg a b u us ds => unfold mkS smD; exact .tup x.1 (.cons (.str _) (.cons (.int _) (.cons x.2.1.rs (.cons x.2.1.ra (.cons x.2.1.rb (.cons (.lst x.2.2.1 (by rw [bdD_ofL]; exact x.2.2.2)) (.cons rc .nil)))))))
theorem or_mkS (h : Hg) (l : List Sm) : (orS (mkS h l)).length = ((l ++ h.ds).flatMap orS).length + 1 := by
  cases h <;> simp only [mkS, orS, Hg.ds, List.length_cons, orB_ofL, List.append_nil, orB, List.length_append, List.flatMap_append]
  omega
theorem ks_mkS {h : Hg} (nh : ¬ h.isHa) (l : List Sm) : (ksL [mkS h l]).Perm (h.ks ++ ksL (l ++ h.ds)) := by
  unfold ksL
  rw [List.flatMap_cons, List.flatMap_nil, List.append_nil]
  cases h with
  | ha => exact absurd trivial nh
  | wh => simp only [mkS, orS, Hg.ds, Hg.ks, List.append_nil, orB_ofL, List.map_cons, kS]; exact List.Perm.refl _
  | th => simp only [mkS, orS, Hg.ds, Hg.ks, List.append_nil, orB_ofL, List.map_cons, kS, orB]; exact List.Perm.refl _
  | el k vs va vb sg a b u us ds =>
    simp only [mkS, orS, Hg.ds, Hg.ks, orB_ofL, List.map_cons, kS, List.flatMap_append, List.map_append]
    exact List.Perm.cons _ List.perm_append_comm
theorem ok_mkS {K : PySem.W.Frag} {F : Hp} {c t : Addr} {h : Hg} {l : List Sm} {n : Nat} (x : HgOk K F c t h) (nh : ¬ h.isHa) (g : ∀ s ∈ l ++ h.ds, GoodS n s) : GoodS (n + 1) (mkS h l) := by
  have g1 : ∀ s ∈ l, GoodS n s := fun s hs => g s (List.mem_append_left _ hs)
  have sl : ∀ t ∈ orB (ofL l), Short t := fun t ht => by
    rw [orB_ofL] at ht
    obtain ⟨s, hs, ht⟩ := List.mem_flatMap.mp ht
    exact (g1 s hs).2 t ht
  cases h with
  | ha => exact absurd trivial nh
  | wh =>
    refine ⟨?_, fun t ht => ?_⟩
    · unfold mkS SmOk; exact ⟨x.2.gs, x.2.ga, x.2.gb, n, rfl, ok_ofL fun s hs => (g1 s hs).1⟩
    · unfold mkS orS at ht
      rcases List.mem_cons.mp ht with rfl | ht
      · trivial
      · exact sl t ht
  | th =>
    refine ⟨?_, fun t ht => ?_⟩
    · unfold mkS SmOk; exact ⟨x.2.gs, x.2.ga, x.2.gb, n, rfl, ok_ofL fun s hs => (g1 s hs).1, by unfold BdOk; trivial⟩
    · unfold mkS orS at ht
      rcases List.mem_cons.mp ht with rfl | ht
      · trivial
      · rcases List.mem_append.mp ht with ht | ht
        · exact sl t ht
        · unfold orB at ht; cases ht
  | el k vs va vb sg a b u us ds =>
    have g2 : ∀ s ∈ ds, GoodS n s := fun s hs => g s (List.mem_append_right _ hs)
    refine ⟨?_, fun t ht => ?_⟩
    · unfold mkS SmOk; exact ⟨x.2.1.gs, x.2.1.ga, x.2.1.gb, n, rfl, ok_ofL fun s hs => (g2 s hs).1, ok_ofL fun s hs => (g1 s hs).1⟩
    · unfold mkS orS at ht
      rcases List.mem_cons.mp ht with rfl | ht
      · trivial
      · rcases List.mem_append.mp ht with ht | ht
        · rw [orB_ofL] at ht
          obtain ⟨s, hs, ht⟩ := List.mem_flatMap.mp ht
          exact (g2 s hs).2 t ht
        · exact sl t ht
theorem rp_ha {K : PySem.W.Frag} {F : Hp} {c t nl : Addr} {x : Str} {ns : List Str} {xs : List V} {l : List Sm} (h : HgOk K F c t (.ha x ns nl)) (hc : F c = some (.lst xs)) (r : RpL K F xs (l.map smD)) : Rp K F (.ref t) (hdD (x, ns, ofL l)) := by
  unfold hdD
  refine .tup h.1 (.cons (.str _) (.cons (.lst h.2 ?_) (.cons (.lst hc (by rw [bdD_ofL]; exact r)) .nil)))
  clear h
  induction ns with
  | nil => exact .nil
  | cons y ns ih => exact .cons (.str _) ih
theorem Cls.of {H H' : Hp} : ∀ {fs : List Fm} {hv : List V}, Cls H fs hv → (∀ a ∈ keys fs, H' a = H a) → Cls H' fs hv
  | [], _, _, _ => trivial
  | f :: fs, hv, h, e => by
    unfold keys at e
    refine ⟨?_, fun x hx => ?_, Cls.of h.2.2 fun a ha => e a (List.mem_cons_of_mem _ (List.mem_append_right _ ha))⟩
    · rw [e f.c (List.mem_cons_self ..)]; exact h.1
    · rw [e x (List.mem_cons_of_mem _ (List.mem_append_left _ hx))]; exact h.2.1 x hx
theorem Cls.at {H : Hp} : ∀ {fs : List Fm} {hv : List V}, Cls H fs hv → ∀ a ∈ keys fs, ∃ vs, H a = some (.lst vs)
  | [], _, _, a, ha => by cases ha
  | f :: fs, hv, h, a, ha => by
    unfold keys at ha
    rcases List.mem_cons.mp ha with rfl | ha
    · exact ⟨_, h.1⟩
    · rcases List.mem_append.mp ha with ha | ha
      · exact ⟨_, h.2.1 a ha⟩
      · exact Cls.at h.2.2 a ha
end K14
set_option Elab.async false
set_option linter.all false
set_option maxRecDepth 100000
set_option maxHeartbeats 4000000
namespace K14
open PySem L2
structure ZI (K : PySem.W.Frag) (Hb H : Hp) (nm : List Str) (rw hs op : Addr) (rv hv : List V) (hd : List Hd) (fs : List Fm) (n : Nat) (kb : Int) : Prop where
  nd : (rw :: hs :: op :: keys fs).Nodup
  rwa : H rw = some (.lst rv)
  hsa : H hs = some (.lst (hv ++ topT fs []))
  opa : H op = some (.lst ((fs.map fun f => V.ref f.o).reverse))
  cla : Cls H fs []
  base : Same Hb (frz rw hs op fs H)
  fm : Fms K (frz rw hs op fs H) fs
  hdc : RpL K (frz rw hs op fs H) hv (hd.map hdD)
  hdg : ∀ h ∈ hd, BdOk h.2.2 6 ∧ Nms1 h.1 h.2.1 ∧ ∀ t ∈ orB h.2.2, Short t
  nms : hd.map (·.1) ++ nmO fs = nm.take (hd.length + (nmO fs).length)
  cnt : (hd.flatMap fun h => orB h.2.2).length + cnts fs ≤ n
  lv : fs.length ≤ 6
  few : hd.length + (nmO fs).length ≤ 8
  ope : fs = [] → hd.length ≤ 7
  ks : KsOk (ksA hd fs) kb
section
variable {K : PySem.W.Frag} {Hb H H' : Hp} {nm : List Str} {rw hs op : Addr} {rv hv : List V} {hd : List Hd} {fs : List Fm} {n : Nat} {kb : Int}
theorem ZI.same (z : ZI K Hb H nm rw hs op rv hv hd fs n kb) (g : Same H H') : ZI K Hb H' nm rw hs op rv hv hd fs n kb := by
  have gf : Same (frz rw hs op fs H) (frz rw hs op fs H') := out_same g
  refine ⟨z.nd, g _ _ z.rwa, g _ _ z.hsa, g _ _ z.opa, Cls.of z.cla fun a ha => ?_, z.base.trans gf, z.fm.mono gf, z.hdc.mono gf, z.hdg, z.nms, z.cnt, z.lv, z.few, z.ope, z.ks⟩
  obtain ⟨vs, e⟩ := z.cla.at a ha
  rw [e, g _ _ e]
theorem ZI.more (z : ZI K Hb H nm rw hs op rv hv hd fs n kb) {m : Nat} (h : n ≤ m) : ZI K Hb H nm rw hs op rv hv hd fs m kb := ⟨z.nd, z.rwa, z.hsa, z.opa, z.cla, z.base, z.fm, z.hdc, z.hdg, z.nms, Nat.le_trans z.cnt h, z.lv, z.few, z.ope, z.ks⟩
theorem ZI.nrh (z : ZI K Hb H nm rw hs op rv hv hd fs n kb) : rw ≠ hs := fun e => (List.nodup_cons.mp z.nd).1 (by rw [e]; exact List.mem_cons_self ..)
theorem ZI.nro (z : ZI K Hb H nm rw hs op rv hv hd fs n kb) : rw ≠ op := fun e => (List.nodup_cons.mp z.nd).1 (by rw [e]; exact List.mem_cons_of_mem _ (List.mem_cons_self ..))
theorem ZI.nho (z : ZI K Hb H nm rw hs op rv hv hd fs n kb) : hs ≠ op := fun e => (List.nodup_cons.mp (List.nodup_cons.mp z.nd).2).1 (by rw [e]; exact List.mem_cons_self ..)
theorem ZI.nrk (z : ZI K Hb H nm rw hs op rv hv hd fs n kb) {a : Addr} (h : a ∈ keys fs) : a ≠ rw := fun e => (List.nodup_cons.mp z.nd).1 (by rw [← e]; exact List.mem_cons_of_mem _ (List.mem_cons_of_mem _ h))
theorem ZI.nhk (z : ZI K Hb H nm rw hs op rv hv hd fs n kb) {a : Addr} (h : a ∈ keys fs) : a ≠ hs := fun e => (List.nodup_cons.mp (List.nodup_cons.mp z.nd).2).1 (by rw [← e]; exact List.mem_cons_of_mem _ h)
theorem ZI.nok (z : ZI K Hb H nm rw hs op rv hv hd fs n kb) {a : Addr} (h : a ∈ keys fs) : a ≠ op := fun e => (List.nodup_cons.mp (List.nodup_cons.mp (List.nodup_cons.mp z.nd).2).2).1 (by rw [← e]; exact h)
theorem ZI.ndk (z : ZI K Hb H nm rw hs op rv hv hd fs n kb) : (keys fs).Nodup := (List.nodup_cons.mp (List.nodup_cons.mp (List.nodup_cons.mp z.nd).2).2).2
theorem ZI.row (z : ZI K Hb H nm rw hs op rv hv hd fs n kb) {rv' : List V} (mu : Mu H rw (.lst rv') H') : ZI K Hb H' nm rw hs op rv' hv hd fs n kb := by
  have gf : Same (frz rw hs op fs H) (frz rw hs op fs H') := out_mu (List.mem_cons_self ..) mu
  exact ⟨z.nd, mu.at_, mu.old z.hsa z.nrh.symm, mu.old z.opa z.nro.symm, Cls.of z.cla fun a ha => mu.else_ a (z.nrk ha), z.base.trans gf, z.fm.mono gf, z.hdc.mono gf, z.hdg, z.nms, z.cnt, z.lv, z.few, z.ope, z.ks⟩
theorem cnts_cons (f : Fm) (fs : List Fm) : cnts (f :: fs) = cntF f + cnts fs := by simp [cnts]
theorem ZI.push {f : Fm} (z : ZI K Hb H nm rw hs op rv hv hd (f :: fs) n kb) {v : V} {s : Sm} (mu : Mu H f.c (.lst (f.xs ++ [v])) H') (r : Rp K (frz rw hs op (f :: fs) H) v (smD s)) (ok : GoodS (6 - fs.length) s) (o1 : orS s = [s]) (hk1 : kb < kS s) :
    ZI K Hb H' nm rw hs op rv hv hd ({ f with xs := f.xs ++ [v], dn := f.dn ++ [s] } :: fs) (n + (orS s).length) (kS s) := by
  have hk : f.c ∈ keys (f :: fs) := by unfold keys; exact List.mem_cons_self ..
  have gf : Same (frz rw hs op (f :: fs) H) (frz rw hs op (f :: fs) H') := out_mu (List.mem_cons_of_mem _ (List.mem_cons_of_mem _ (List.mem_cons_of_mem _ hk))) mu
  have nd := z.ndk
  unfold keys at nd
  have ne : ∀ a ∈ f.h.es ++ keys fs, a ≠ f.c := fun a ha e => (List.nodup_cons.mp nd).1 (e ▸ ha)
  obtain ⟨c1, c2, c3⟩ := z.cla
  obtain ⟨fo, fi, fr⟩ := z.fm
  have ex := z.cnt
  rw [cnts_cons] at ex
  refine ⟨z.nd, mu.old z.rwa (z.nrk hk).symm, mu.old z.hsa (z.nhk hk).symm, mu.old z.opa (z.nok hk).symm, ⟨by rw [mu.at_]; simp, fun e he => mu.old (c2 e he) (ne e (List.mem_append_left _ he)), Cls.of c3 fun a ha => mu.else_ a (ne a (List.mem_append_right _ ha))⟩, z.base.trans gf, ⟨⟨?_, (fo.mono gf).o, (fo.mono gf).h, ?_, fo.n⟩, fi, Fms.mono gf fr⟩, z.hdc.mono gf, z.hdg, z.nms, ?_, z.lv, z.few, (fun e => by cases e), ?_⟩
  rotate_left 3
  · refine (z.ks.add hk1).perm ?_
    rw [List.perm_iff_count]
    intro a
    simp only [ksA, List.flatMap_cons, ksF, ksL, List.flatMap_append, List.map_append, List.flatMap_nil, List.append_nil, o1, List.map_cons, List.map_nil, List.count_append, List.count_cons, List.count_nil]
    omega
  · rw [List.map_append]; exact RpL.app (.cons (r.mono gf) .nil) (fo.xs.mono gf)
  · intro x hx
    rcases List.mem_append.mp hx with hx | hx
    · rcases List.mem_append.mp hx with hx | hx
      · exact fo.g x (List.mem_append_left _ hx)
      · rw [List.mem_singleton.mp hx]; exact ok
    · exact fo.g x (List.mem_append_right _ hx)
  · rw [cnts_cons]
    have : cntF { f with xs := f.xs ++ [v], dn := f.dn ++ [s] } = cntF f + (orS s).length := by
      unfold cntF
      simp only [List.flatMap_append, List.length_append, List.flatMap_cons, List.flatMap_nil, List.append_nil]
      omega
    omega
theorem ZI.els {f : Fm} (z : ZI K Hb H nm rw hs op rv hv hd (f :: fs) n kb) {k : Int} {vs va vb : V} {sg a b : PyData} {e o : Addr} (hh : f.h = .th k vs va vb sg a b e) (ho : H o = some (.lst [.str (Str.ofString "else"), .ref e])) (no : o ∉ rw :: hs :: op :: keys (f :: fs))
    (mu : Mu H op (.lst ((fs.map fun f => V.ref f.o).reverse ++ [.ref o])) H') :
    ZI K Hb H' nm rw hs op rv hv hd (⟨e, [], [], f.t, o, .el k vs va vb sg a b f.c f.xs f.dn⟩ :: fs) n kb := by
  obtain ⟨fo, fi, fr⟩ := z.fm
  have ek : keys (f :: fs) = f.c :: e :: keys fs := by show f.c :: (f.h.es ++ keys fs) = _; rw [hh]; rfl
  have ek' : keys (⟨e, [], [], f.t, o, .el k vs va vb sg a b f.c f.xs f.dn⟩ :: fs) = e :: keys fs := rfl
  have sub : ∀ m ∈ rw :: hs :: op :: (e :: keys fs), m ∈ rw :: hs :: op :: keys (f :: fs) := fun m hm => by
    rw [ek]
    simp only [List.mem_cons] at hm ⊢
    rcases hm with h | h | h | h | h <;> simp [h]
  have g1 : Same (frz rw hs op (f :: fs) H) (frz rw hs op (f :: fs) H') := out_mu (List.mem_cons_of_mem _ (List.mem_cons_of_mem _ (List.mem_cons_self ..))) mu
  have gf : Same (frz rw hs op (f :: fs) H) (frz rw hs op (⟨e, [], [], f.t, o, .el k vs va vb sg a b f.c f.xs f.dn⟩ :: fs) H') := g1.trans (by unfold frz; rw [ek']; exact out_less sub)
  have nd := z.nd
  have hkf : ∀ a ∈ keys fs, a ∈ keys (f :: fs) := fun a ha => by rw [ek]; exact List.mem_cons_of_mem _ (List.mem_cons_of_mem _ ha)
  have hkc : f.c ∈ keys (f :: fs) := by rw [ek]; exact List.mem_cons_self ..
  have hke : e ∈ keys (f :: fs) := by rw [ek]; exact List.mem_cons_of_mem _ (List.mem_cons_self ..)
  obtain ⟨c1, c2, c3⟩ := z.cla
  rw [hh] at c2
  have ndk := z.ndk
  rw [ek] at ndk
  have nfc : f.c ∉ rw :: hs :: op :: (e :: keys fs) := fun h => by
    rcases List.mem_cons.mp h with h | h
    · exact z.nrk hkc h
    · rcases List.mem_cons.mp h with h | h
      · exact z.nhk hkc h
      · rcases List.mem_cons.mp h with h | h
        · exact z.nok hkc h
        · exact (List.nodup_cons.mp ndk).1 h
  have fc : frz rw hs op (⟨e, [], [], f.t, o, .el k vs va vb sg a b f.c f.xs f.dn⟩ :: fs) H' f.c = some (.lst f.xs) := by
    unfold frz
    rw [ek']
    exact out_of nfc (mu.old (by rw [c1, List.append_nil]) (z.nok hkc))
  have fh := fo.h.mono gf
  rw [hh] at fh
  have ex := z.cnt
  rw [cnts_cons] at ex
  have lv := z.lv
  refine ⟨?_, mu.old z.rwa z.nro, mu.old z.hsa z.nho, ?_, ⟨mu.old (c2 e (List.mem_singleton.mpr rfl)) (z.nok hke), (fun _ h => by cases h), Cls.of c3 fun a ha => mu.else_ a (z.nok (hkf a ha))⟩, z.base.trans gf, ⟨⟨.nil, ?_, ⟨fh.1, fh.2, fc, fo.xs.mono gf⟩, ?_, fun _ _ _ h => by cases h⟩, ?_, Fms.mono gf fr⟩, z.hdc.mono gf, z.hdg, ?_, ?_, lv, ?_, (fun e => by cases e), z.ks.perm (by
    rw [List.perm_iff_count]
    intro x
    simp only [ksA, List.flatMap_cons, ksF, hh, Hg.ks, Hg.ds, List.append_nil, List.nil_append])⟩
  · rw [ek']
    rw [ek] at nd
    refine List.Sublist.nodup ?_ nd
    exact .cons₂ _ (.cons₂ _ (.cons₂ _ (.cons _ (List.Sublist.refl _))))
  · rw [mu.at_]; simp
  · unfold frz
    rw [ek']
    exact out_of (fun h => no (sub _ h)) (mu.old ho fun h => no (by have h : o = op := h; rw [h]; exact List.mem_cons_of_mem _ (List.mem_cons_of_mem _ (List.mem_cons_self ..))))
  · intro s hs
    exact fo.g s (List.mem_append_left _ (by simpa [Hg.ds] using hs))
  · rw [hh] at fi
    exact ⟨fun h => absurd h id, fun h => absurd (fi.mpr h) id⟩
  · have := z.nms
    simp only [nmO, List.flatMap_cons, hh, Hg.nm] at this ⊢
    exact this
  · rw [cnts_cons]
    have : cntF ⟨e, [], [], f.t, o, .el k vs va vb sg a b f.c f.xs f.dn⟩ ≤ cntF f := by
      unfold cntF
      simp only [hh, Hg.ds, List.nil_append, List.append_nil]
      exact Nat.le_refl _
    omega
  · have := z.few
    simp only [nmO, List.flatMap_cons, hh, Hg.nm] at this ⊢
    exact this
theorem ZI.pop {f g : Fm} (z : ZI K Hb H nm rw hs op rv hv hd (f :: g :: fs) n kb) (mu : Mu H op (.lst (((g :: fs).map fun f => V.ref f.o).reverse)) H') :
    ZI K Hb H' nm rw hs op rv hv hd ({ g with xs := g.xs ++ [.ref f.t], dn := g.dn ++ [mkS f.h f.dn] } :: fs) n kb := by
  obtain ⟨fo, fi, go, gi, fr⟩ := z.fm
  have nh : ¬ f.h.isHa := fun h => by cases fi.mp h
  obtain ⟨c1, c2, d1, d2, d3⟩ := z.cla
  have hkc : f.c ∈ keys (f :: g :: fs) := by unfold keys; exact List.mem_cons_self ..
  have hkg : ∀ a ∈ keys (g :: fs), a ∈ keys (f :: g :: fs) := fun a ha => by rw [keys]; exact List.mem_cons_of_mem _ (List.mem_append_right _ ha)
  have hke : ∀ a ∈ f.h.es, a ∈ keys (f :: g :: fs) := fun a ha => by rw [keys]; exact List.mem_cons_of_mem _ (List.mem_append_left _ ha)
  have ek : keys ({ g with xs := g.xs ++ [.ref f.t], dn := g.dn ++ [mkS f.h f.dn] } :: fs) = keys (g :: fs) := rfl
  have g1 : Same (frz rw hs op (f :: g :: fs) H) (frz rw hs op (f :: g :: fs) H') := out_mu (List.mem_cons_of_mem _ (List.mem_cons_of_mem _ (List.mem_cons_self ..))) mu
  have gf : Same (frz rw hs op (f :: g :: fs) H) (frz rw hs op ({ g with xs := g.xs ++ [.ref f.t], dn := g.dn ++ [mkS f.h f.dn] } :: fs) H') := g1.trans (by
    unfold frz
    rw [ek]
    refine out_less fun m hm => ?_
    rcases List.mem_cons.mp hm with h | hm
    · rw [h]; exact List.mem_cons_self ..
    · rcases List.mem_cons.mp hm with h | hm
      · rw [h]; exact List.mem_cons_of_mem _ (List.mem_cons_self ..)
      · rcases List.mem_cons.mp hm with h | hm
        · rw [h]; exact List.mem_cons_of_mem _ (List.mem_cons_of_mem _ (List.mem_cons_self ..))
        · exact List.mem_cons_of_mem _ (List.mem_cons_of_mem _ (List.mem_cons_of_mem _ (hkg m hm))))
  have ndk := z.ndk
  rw [keys] at ndk
  obtain ⟨nd1, nd2⟩ := List.nodup_cons.mp ndk
  have nd3 := (List.nodup_append.mp nd2).2.2
  have nin : ∀ a, a ∈ keys (f :: g :: fs) → a ∉ keys (g :: fs) → a ∉ rw :: hs :: op :: keys (g :: fs) := fun a ha hn h => by
    rcases List.mem_cons.mp h with h | h
    · exact z.nrk ha h
    · rcases List.mem_cons.mp h with h | h
      · exact z.nhk ha h
      · rcases List.mem_cons.mp h with h | h
        · exact z.nok ha h
        · exact hn h
  have fc : frz rw hs op ({ g with xs := g.xs ++ [.ref f.t], dn := g.dn ++ [mkS f.h f.dn] } :: fs) H' f.c = some (.lst f.xs) := by
    unfold frz
    rw [ek]
    exact out_of (nin _ hkc fun h => nd1 (List.mem_append_right _ h)) (mu.old (by rw [c1, List.append_nil]) (z.nok hkc))
  have fe : ∀ e ∈ f.h.es, frz rw hs op ({ g with xs := g.xs ++ [.ref f.t], dn := g.dn ++ [mkS f.h f.dn] } :: fs) H' e = some (.lst []) := fun e he => by
    unfold frz
    rw [ek]
    exact out_of (nin _ (hke e he) fun h => nd3 e he e h rfl) (mu.old (c2 e he) (z.nok (hke e he)))
  have lv := z.lv
  rw [List.length_cons, List.length_cons] at lv
  have es : 6 - (g :: fs).length + 1 = 6 - fs.length := by rw [List.length_cons]; omega
  have okS : GoodS (6 - fs.length) (mkS f.h f.dn) := es ▸ ok_mkS fo.h nh fo.g
  have ex := z.cnt
  rw [cnts_cons, cnts_cons] at ex
  refine ⟨?_, mu.old z.rwa z.nro, mu.old z.hsa z.nho, mu.at_, ⟨?_, fun e he => mu.old (d2 e he) (z.nok (hkg e (by rw [keys]; exact List.mem_cons_of_mem _ (List.mem_append_left _ he)))), Cls.of d3 fun a ha => mu.else_ a (z.nok (hkg a (by rw [keys]; exact List.mem_cons_of_mem _ (List.mem_append_right _ ha))))⟩, z.base.trans gf, ⟨⟨?_, (go.mono gf).o, (go.mono gf).h, ?_, go.n⟩, gi, Fms.mono gf fr⟩, z.hdc.mono gf, z.hdg, ?_, ?_, by rw [List.length_cons]; omega, ?_, (fun e => by cases e), z.ks.perm (by
    rw [List.perm_iff_count]
    intro x
    have pm := (List.perm_iff_count.mp (ks_mkS nh f.dn)) x
    simp only [ksA, List.flatMap_cons, ksF, ksL_app, List.count_append] at pm ⊢
    omega)⟩
  · rw [ek]
    have nd := z.nd
    rw [keys] at nd
    refine List.Sublist.nodup ?_ nd
    exact .cons₂ _ (.cons₂ _ (.cons₂ _ (.cons _ (List.sublist_append_right _ _))))
  · rw [List.append_nil]
    exact mu.old d1 (z.nok (hkg g.c (by rw [keys]; exact List.mem_cons_self ..)))
  · rw [List.map_append]
    refine RpL.app (.cons ?_ .nil) (go.xs.mono gf)
    exact rp_mkS (fo.h.mono gf) nh fc (fo.xs.mono gf) fe
  · intro s hs
    rcases List.mem_append.mp hs with hs | hs
    · rcases List.mem_append.mp hs with hs | hs
      · exact go.g s (List.mem_append_left _ hs)
      · rw [List.mem_singleton.mp hs]; exact okS
    · exact go.g s (List.mem_append_right _ hs)
  · have := z.nms
    have e0 : f.h.nm = [] := by cases hf : f.h <;> simp_all [Hg.nm, Hg.isHa]
    simp only [nmO, List.flatMap_cons, e0, List.nil_append] at this ⊢
    exact this
  · rw [cnts_cons]
    have : cntF { g with xs := g.xs ++ [.ref f.t], dn := g.dn ++ [mkS f.h f.dn] } = cntF g + cntF f := by
      have := or_mkS f.h f.dn
      unfold cntF
      simp only [List.flatMap_append, List.length_append, List.flatMap_cons, List.flatMap_nil, List.append_nil] at this ⊢
      omega
    omega
  · have := z.few
    have e0 : f.h.nm = [] := by cases hf : f.h <;> simp_all [Hg.nm, Hg.isHa]
    simp only [nmO, List.flatMap_cons, e0, List.nil_append] at this ⊢
    exact this
end
end K14
set_option Elab.async false
set_option linter.all false
set_option maxRecDepth 100000
set_option maxHeartbeats 4000000
namespace K14
open PySem L2
section
variable {K : PySem.W.Frag} {Hb H H1 H2 H3 H' : Hp} {nm : List Str} {rw hs op : Addr} {rv hv : List V} {hd : List Hd} {fs : List Fm} {n : Nat} {kb : Int}
theorem ZI.old (z : ZI K Hb H nm rw hs op rv hv hd fs n kb) {a : Addr} (h : H a = none) : a ∉ rw :: hs :: op :: keys fs := fun m => by
  rcases List.mem_cons.mp m with e | m
  · rw [e, z.rwa] at h; cases h
  · rcases List.mem_cons.mp m with e | m
    · rw [e, z.hsa] at h; cases h
    · rcases List.mem_cons.mp m with e | m
      · rw [e, z.opa] at h; cases h
      · obtain ⟨vs, e⟩ := z.cla.at a m
        rw [e] at h; cases h
theorem nodup_in {a b c : Addr} {l m : List Addr} (h : (a :: b :: c :: m).Nodup) (hl : l.Nodup) (d : ∀ x ∈ l, x ∉ a :: b :: c :: m) : (a :: b :: c :: (l ++ m)).Nodup := by
  have p : (a :: b :: c :: (l ++ m)).Perm (l ++ (a :: b :: c :: m)) := by
    have e : a :: b :: c :: (l ++ m) = [a, b, c] ++ (l ++ m) := rfl
    have e' : l ++ (a :: b :: c :: m) = l ++ ([a, b, c] ++ m) := rfl
    rw [e, e', ← List.append_assoc, ← List.append_assoc]
    exact List.perm_append_comm.append_right _
  rw [p.nodup_iff]
  exact List.nodup_append.mpr ⟨hl, h, fun x hx y hy e => d x hx (e ▸ hy)⟩
theorem ZI.opn {f g : Fm} (z : ZI K Hb H nm rw hs op rv hv hd (f :: fs) n kb) (lt : fs.length + 1 < 6) (gx : g.xs = []) (gd : g.dn = []) (gh : ¬ g.h.isHa) (gs : g.h.ds = []) {k : Int} (gks : g.h.ks = [k]) (hk1 : kb < k)
    (s01 : Same H H1) (fr : ∀ a ∈ g.c :: g.h.es, H a = none) (nd : (g.c :: g.h.es).Nodup) (em : ∀ a ∈ g.c :: g.h.es, H1 a = some (.lst [])) (gk : HgOk K (frz rw hs op (g :: f :: fs) H1) g.c g.t g.h)
    (mu1 : Mu H1 f.c (.lst (f.xs ++ [.ref g.t])) H2) (s23 : Same H2 H3) (no : H2 g.o = none) (ho : H3 g.o = some (.lst (.str (wW g.h) :: .ref g.c :: g.h.es.map V.ref)))
    (mu2 : Mu H3 op (.lst (((f :: fs).map fun f => V.ref f.o).reverse ++ [.ref g.o])) H') : ZI K Hb H' nm rw hs op rv hv hd (g :: f :: fs) (n + 1) k := by
  have ek : keys (g :: f :: fs) = (g.c :: g.h.es) ++ keys (f :: fs) := rfl
  have hkf : f.c ∈ keys (f :: fs) := List.mem_cons_self ..
  have hk : ∀ a ∈ keys (f :: fs), a ∈ keys (g :: f :: fs) := fun a ha => by rw [ek]; exact List.mem_append_right _ ha
  have iop : op ∈ rw :: hs :: op :: keys (g :: f :: fs) := List.mem_cons_of_mem _ (List.mem_cons_of_mem _ (List.mem_cons_self ..))
  have ifc : f.c ∈ rw :: hs :: op :: keys (g :: f :: fs) := List.mem_cons_of_mem _ (List.mem_cons_of_mem _ (List.mem_cons_of_mem _ (hk _ hkf)))
  have g2 : Same (frz rw hs op (g :: f :: fs) H1) (frz rw hs op (g :: f :: fs) H') := (out_mu ifc mu1).trans ((out_same s23).trans (out_mu iop mu2))
  have g1 : Same (frz rw hs op (f :: fs) H) (frz rw hs op (g :: f :: fs) H1) := fun a u e => by
    obtain ⟨na, e⟩ := out_inv e
    refine out_of (fun m => ?_) (s01 _ _ e)
    have : a ∈ g.c :: g.h.es ∨ a ∈ rw :: hs :: op :: keys (f :: fs) := by
      rw [ek] at m
      rcases List.mem_cons.mp m with q | m
      · exact .inr (by rw [q]; exact List.mem_cons_self ..)
      · rcases List.mem_cons.mp m with q | m
        · exact .inr (by rw [q]; exact List.mem_cons_of_mem _ (List.mem_cons_self ..))
        · rcases List.mem_cons.mp m with q | m
          · exact .inr (by rw [q]; exact List.mem_cons_of_mem _ (List.mem_cons_of_mem _ (List.mem_cons_self ..)))
          · rcases List.mem_append.mp m with m | m
            · exact .inl m
            · exact .inr (List.mem_cons_of_mem _ (List.mem_cons_of_mem _ (List.mem_cons_of_mem _ m)))
    rcases this with m | m
    · rw [fr a m] at e; cases e
    · exact na m
  have gf := g1.trans g2
  have nfc : ∀ a, a ≠ f.c → a ≠ op → ∀ u, H1 a = some u → H' a = some u := fun a x y u e => mu2.old (s23 _ _ (mu1.old e x)) y
  have nin : ∀ a ∈ g.c :: g.h.es, a ∉ rw :: hs :: op :: keys (f :: fs) := fun a ha => z.old (fr a ha)
  have ngf : ∀ a ∈ g.c :: g.h.es, a ≠ f.c := fun a ha e => nin a ha (by rw [e]; exact List.mem_cons_of_mem _ (List.mem_cons_of_mem _ (List.mem_cons_of_mem _ hkf)))
  have ngo : ∀ a ∈ g.c :: g.h.es, a ≠ op := fun a ha e => nin a ha (by rw [e]; exact List.mem_cons_of_mem _ (List.mem_cons_of_mem _ (List.mem_cons_self ..)))
  have z1 := z.same s01
  have ndk := z.ndk
  rw [keys] at ndk
  have ne : ∀ a ∈ f.h.es ++ keys fs, a ≠ f.c := fun a ha e => (List.nodup_cons.mp ndk).1 (e ▸ ha)
  have hke : ∀ a ∈ f.h.es ++ keys fs, a ∈ keys (f :: fs) := fun a ha => by rw [keys]; exact List.mem_cons_of_mem _ ha
  obtain ⟨c1, c2, c3⟩ := z1.cla
  have ex := z.cnt
  refine ⟨by rw [ek]; exact nodup_in z.nd nd nin, nfc _ (z.nrk hkf).symm z.nro _ z1.rwa, nfc _ (z.nhk hkf).symm z.nho _ ?_, by rw [mu2.at_]; simp, ⟨?_, ?_, ?_, ?_, ?_⟩, z.base.trans gf, ⟨⟨?_, ?_, gk.mono g2, ?_, ?_⟩, ?_, Fms.mono gf z.fm⟩, z.hdc.mono gf, z.hdg, ?_, ?_, ?_, ?_, (fun e => by cases e), (z.ks.add hk1).perm (by
    rw [List.perm_iff_count]
    intro x
    simp only [ksA, List.flatMap_cons, ksF, gks, gd, gs, ksL, List.flatMap_nil, List.map_nil, List.append_nil, List.count_append, List.count_cons, List.count_nil]
    omega)⟩
  · exact z1.hsa
  · rw [gx]; exact nfc _ (ngf _ (List.mem_cons_self ..)) (ngo _ (List.mem_cons_self ..)) _ (em _ (List.mem_cons_self ..))
  · exact fun e he => nfc _ (ngf _ (List.mem_cons_of_mem _ he)) (ngo _ (List.mem_cons_of_mem _ he)) _ (em _ (List.mem_cons_of_mem _ he))
  · exact mu2.old (s23 _ _ mu1.at_) (z.nok hkf)
  · exact fun e he => nfc _ (ne _ (List.mem_append_left _ he)) (z.nok (hke _ (List.mem_append_left _ he))) _ (c2 e he)
  · exact Cls.of c3 fun a ha => by
      obtain ⟨vs, e⟩ := c3.at a ha
      rw [e]
      exact nfc _ (ne _ (List.mem_append_right _ ha)) (z.nok (hke _ (List.mem_append_right _ ha))) _ e
  · rw [gx, gd]; exact .nil
  · have nk : ∀ a, H1 a = none → a ∉ rw :: hs :: op :: keys (g :: f :: fs) := fun a ha m => by
      rw [ek] at m
      have : a ∈ g.c :: g.h.es ∨ a ∈ rw :: hs :: op :: keys (f :: fs) := by
        simp only [List.mem_cons, List.mem_append] at m ⊢
        rcases m with q | q | q | (q | q) | q <;> simp [q]
      rcases this with m | m
      · rw [em a m] at ha; cases ha
      · exact z1.old ha m
    have h1 : H1 g.o = none := by
      cases q : H1 g.o with
      | none => rfl
      | some u =>
        by_cases e : g.o = f.c
        · rw [e, mu1.at_] at no; cases no
        · rw [mu1.old q e] at no; cases no
    exact out_of (nk _ h1) (mu2.old ho fun e => by rw [e] at h1; rw [z1.opa] at h1; cases h1)
  · rw [gd, gs]; exact fun s h => by cases h
  · exact fun x ns nl e => absurd (by rw [e]; trivial) gh
  · exact ⟨fun h => absurd h gh, fun h => by cases h⟩
  · have := z.nms
    have e0 : g.h.nm = [] := by cases hf : g.h <;> simp_all [Hg.nm, Hg.isHa]
    simp only [nmO, List.flatMap_cons, e0, List.nil_append] at this ⊢
    exact this
  · rw [cnts_cons]
    have : cntF g = 1 := by unfold cntF; rw [gd, gs]; rfl
    omega
  · rw [List.length_cons, List.length_cons]; omega
  · have := z.few
    have e0 : g.h.nm = [] := by cases hf : g.h <;> simp_all [Hg.nm, Hg.isHa]
    simp only [nmO, List.flatMap_cons, e0, List.nil_append] at this ⊢
    exact this
theorem ZI.hnd {g : Fm} {x : Str} {ns : List Str} {nl : Addr} (z : ZI K Hb H nm rw hs op rv hv hd [] n kb) (gx : g.xs = []) (gd : g.dn = []) (gh : g.h = .ha x ns nl) (hx : nm[hd.length]? = some x) (ok : Nms1 x ns)
    (s01 : Same H H1) (fr : H g.c = none) (em : H1 g.c = some (.lst [])) (gk : HgOk K (frz rw hs op [g] H1) g.c g.t g.h)
    (mu1 : Mu H1 hs (.lst (hv ++ [.ref g.t])) H2) (s23 : Same H2 H3) (no : H2 g.o = none) (ho : H3 g.o = some (.lst [.str (Str.ofString "hand"), .ref g.c]))
    (mu2 : Mu H3 op (.lst [.ref g.o]) H') : ZI K Hb H' nm rw hs op rv hv hd [g] (n + 1) kb := by
  have ek : keys [g] = [g.c] := by unfold keys; rw [gh]; rfl
  have iop : op ∈ rw :: hs :: op :: keys [g] := List.mem_cons_of_mem _ (List.mem_cons_of_mem _ (List.mem_cons_self ..))
  have ihs : hs ∈ rw :: hs :: op :: keys [g] := List.mem_cons_of_mem _ (List.mem_cons_self ..)
  have g2 : Same (frz rw hs op [g] H1) (frz rw hs op [g] H') := (out_mu ihs mu1).trans ((out_same s23).trans (out_mu iop mu2))
  have nin := z.old fr
  have g1 : Same (frz rw hs op [] H) (frz rw hs op [g] H1) := fun a u e => by
    obtain ⟨na, e⟩ := out_inv e
    refine out_of (fun m => ?_) (s01 _ _ e)
    rw [ek] at m
    simp only [List.mem_cons, List.not_mem_nil, or_false] at m
    rcases m with q | q | q | q
    · exact na (by rw [q]; exact List.mem_cons_self ..)
    · exact na (by rw [q]; exact List.mem_cons_of_mem _ (List.mem_cons_self ..))
    · exact na (by rw [q]; exact List.mem_cons_of_mem _ (List.mem_cons_of_mem _ (List.mem_cons_self ..)))
    · rw [q, fr] at e; cases e
  have gf := g1.trans g2
  have z1 := z.same s01
  have nch : g.c ≠ hs := fun e => nin (by rw [e]; exact List.mem_cons_of_mem _ (List.mem_cons_self ..))
  have nco : g.c ≠ op := fun e => nin (by rw [e]; exact List.mem_cons_of_mem _ (List.mem_cons_of_mem _ (List.mem_cons_self ..)))
  have nfc : ∀ a, a ≠ hs → a ≠ op → ∀ u, H1 a = some u → H' a = some u := fun a x y u e => mu2.old (s23 _ _ (mu1.old e x)) y
  have nmo : nmO [g] = [x] := by simp [nmO, gh, Hg.nm]
  have nmz : nmO ([] : List Fm) = [] := rfl
  have hnm := z.nms
  rw [nmz, List.append_nil, List.length_nil, Nat.add_zero] at hnm
  have l7 := z.ope rfl
  have ex := z.cnt
  refine ⟨?_, nfc _ z.nrh z.nro _ z1.rwa, mu2.old (s23 _ _ mu1.at_) z.nho, mu2.at_, ⟨?_, ?_, trivial⟩, z.base.trans gf, ⟨⟨?_, ?_, gk.mono g2, ?_, ?_⟩, ?_, trivial⟩, z.hdc.mono gf, z.hdg, ?_, ?_, by simp, ?_, (fun e => by cases e), z.ks.perm (by
    rw [List.perm_iff_count]
    intro x
    simp only [ksA, List.flatMap_cons, List.flatMap_nil, ksF, gh, gd, Hg.ks, Hg.ds, ksL, List.map_nil, List.append_nil])⟩
  · rw [ek]
    exact nodup_in (l := [g.c]) (m := []) z.nd (by simp) (fun a ha => by rw [List.mem_singleton.mp ha]; exact nin)
  · rw [gx]; exact nfc _ nch nco _ em
  · rw [gh]; exact fun _ h => by cases h
  · rw [gx, gd]; exact .nil
  · have h1 : H1 g.o = none := by
      cases q : H1 g.o with
      | none => rfl
      | some u =>
        by_cases e : g.o = hs
        · rw [e, mu1.at_] at no; cases no
        · rw [mu1.old q e] at no; cases no
    rw [gh]
    refine out_of (fun m => ?_) (mu2.old ho fun e => by rw [e] at h1; rw [z1.opa] at h1; cases h1)
    rw [ek] at m
    simp only [List.mem_cons, List.not_mem_nil, or_false] at m
    rcases m with q | q | q | q
    · rw [q, z1.rwa] at h1; cases h1
    · rw [q, z1.hsa] at h1; cases h1
    · rw [q, z1.opa] at h1; cases h1
    · rw [q, em] at h1; cases h1
  · rw [gd, gh]; exact fun s h => by cases h
  · exact fun y ns' nl' e => by rw [gh] at e; cases e; exact ok
  · rw [gh]; exact ⟨fun _ => rfl, fun _ => trivial⟩
  · rw [nmo, hnm, List.length_singleton, List.take_add_one, hx]; rfl
  · have : cnts [g] = 1 := by simp [cnts, cntF, gd, gh, Hg.ds]
    have : cnts ([] : List Fm) = 0 := rfl
    omega
  · rw [nmo, List.length_singleton]; omega
theorem ZI.popH {f : Fm} (z : ZI K Hb H nm rw hs op rv hv hd [f] n kb) (h7 : hd.length + 1 ≤ 7) (mu : Mu H op (.lst []) H') : ∃ (hv' : List V) (h : Hd), ZI K Hb H' nm rw hs op rv hv' (hd ++ [h]) [] n kb := by
  obtain ⟨fo, fi, _⟩ := z.fm
  obtain ⟨c1, c2, _⟩ := z.cla
  have ih := fi.mpr rfl
  cases hh : f.h with
  | wh => rw [hh] at ih; exact absurd ih id
  | th => rw [hh] at ih; exact absurd ih id
  | el => rw [hh] at ih; exact absurd ih id
  | ha x ns nl =>
    have hk : f.c ∈ keys [f] := List.mem_cons_self ..
    have ek : keys [f] = [f.c] := by unfold keys; rw [hh]; rfl
    have g1 : Same (frz rw hs op [f] H) (frz rw hs op [] H') := (out_mu (List.mem_cons_of_mem _ (List.mem_cons_of_mem _ (List.mem_cons_self ..))) mu).trans (out_less fun m hm => by
      rcases List.mem_cons.mp hm with e | hm
      · rw [e]; exact List.mem_cons_self ..
      · rcases List.mem_cons.mp hm with e | hm
        · rw [e]; exact List.mem_cons_of_mem _ (List.mem_cons_self ..)
        · rcases List.mem_cons.mp hm with e | hm
          · rw [e]; exact List.mem_cons_of_mem _ (List.mem_cons_of_mem _ (List.mem_cons_self ..))
          · cases hm)
    have fc : frz rw hs op [] H' f.c = some (.lst f.xs) := out_of (fun m => by
      rcases List.mem_cons.mp m with e | m
      · exact z.nrk hk e
      · rcases List.mem_cons.mp m with e | m
        · exact z.nhk hk e
        · rcases List.mem_cons.mp m with e | m
          · exact z.nok hk e
          · cases m) (mu.old (by rw [c1, List.append_nil]) (z.nok hk))
    have fh := fo.h.mono g1
    rw [hh] at fh
    have nmo : nmO [f] = [x] := by simp [nmO, hh, Hg.nm]
    have hn := z.nms
    rw [nmo, List.length_singleton] at hn
    have ex := z.cnt
    refine ⟨hv ++ [.ref f.t], (x, ns, ofL f.dn), ?_, mu.old z.rwa z.nro, mu.old z.hsa z.nho |>.trans (by rw [show topT [f] [] = [V.ref f.t] from rfl, show topT [] [] = [] from rfl, List.append_nil]), mu.at_, trivial, z.base.trans g1, trivial, ?_, ?_, ?_, ?_, by simp, ?_, ?_, z.ks.perm (by
      rw [List.perm_iff_count]
      intro x
      simp only [ksA, List.flatMap_append, List.flatMap_cons, List.flatMap_nil, ksF, hh, Hg.ks, Hg.ds, ksL, List.append_nil, List.nil_append, orB_ofL])⟩
    · have nd := z.nd
      refine List.Sublist.nodup ?_ nd
      exact .cons₂ _ (.cons₂ _ (.cons₂ _ (List.nil_sublist _)))
    · rw [List.map_append]; exact RpL.app (.cons (rp_ha fh fc (fo.xs.mono g1)) .nil) (z.hdc.mono g1)
    · intro h hm
      rcases List.mem_append.mp hm with hm | hm
      · exact z.hdg h hm
      · rw [List.mem_singleton.mp hm]
        refine ⟨ok_ofL fun s hs => (fo.g s (List.mem_append_left _ hs)).1, fo.n _ _ _ hh, fun t ht => ?_⟩
        rw [orB_ofL] at ht
        obtain ⟨s, hs, ht⟩ := List.mem_flatMap.mp ht
        exact (fo.g s (List.mem_append_left _ hs)).2 t ht
    · rw [show nmO ([] : List Fm) = [] from rfl, List.append_nil, List.map_append, List.length_nil, Nat.add_zero, List.length_append, List.length_singleton]; exact hn
    · have : cnts [f] = (f.dn.flatMap orS).length + 1 := by simp [cnts, cntF, hh, Hg.ds]
      rw [List.flatMap_append, List.length_append, show cnts ([] : List Fm) = 0 from rfl]
      simp only [List.flatMap_cons, List.flatMap_nil, List.append_nil, orB_ofL]
      omega
    · rw [show nmO ([] : List Fm) = [] from rfl, List.length_append, List.length_singleton, List.length_nil]; omega
    · rw [List.length_append, List.length_singleton]; exact fun _ => h7
end
end K14
set_option Elab.async false
set_option linter.all false
set_option maxRecDepth 100000
set_option maxHeartbeats 4000000
namespace K14
open PySem L2
section
variable {K : PySem.W.Frag} {F H : Hp}
theorem body_dg {n : Nat} (hn : n ≤ 6) {l : List Sm} (g : ∀ s ∈ l, GoodS n s) (c : (l.flatMap orS).length ≤ 1000) : DG 21 (.list (l.map smD)) := by
  refine dg_lst (n := 20) (fun d hd => ?_) (by rw [List.length_map]; exact Nat.le_trans (len_orS l) c)
  obtain ⟨s, hs, rfl⟩ := List.mem_map.mp hd
  have hc : (orS s).length ≤ 1000 := by
    refine Nat.le_trans ?_ c
    clear g hd c
    induction l with
    | nil => cases hs
    | cons x l ih =>
      rw [List.flatMap_cons, List.length_append]
      rcases List.mem_cons.mp hs with rfl | hs
      · omega
      · have := ih hs; omega
  exact dg_mono (sm_dg s n (g s hs).1 hc) (by omega)
theorem cls_all (g : Same F H) : ∀ (fs : List Fm) (hv : List V) (h : List Sm), Cls H fs hv → Fms K F fs → fs ≠ [] → fs.length ≤ 6 → RpL K H hv (h.map smD) → (∀ s ∈ h, GoodS (7 - fs.length) s) → cnts fs + (h.flatMap orS).length ≤ 1000 →
    ∃ (x : Str) (ns : List Str) (b : List Sm) (t : Addr) (ds : List PyData), topT fs hv = [.ref t] ∧ Rp K H (.ref t) (hdD (x, ns, ofL b)) ∧ nmO fs = [x] ∧ Nms1 x ns ∧ (∀ s ∈ b, GoodS 6 s) ∧ (b.flatMap orS).length ≤ cnts fs + (h.flatMap orS).length ∧
      RpL K H (fs.map fun f => V.ref f.o) ds ∧ (∀ d ∈ ds, DG 22 d) ∧ (ksL b).Perm (fs.flatMap ksF ++ ksL h)
  | [], _, _, _, _, ne, _, _, _, _ => absurd rfl ne
  | f :: fs, hv, h, c, fm, _, lv, r, gh, cn => by
    obtain ⟨c1, c2, c3⟩ := c
    obtain ⟨fo, fi, fr⟩ := fm
    rw [List.length_cons] at lv gh
    have e7 : 7 - (fs.length + 1) = 6 - fs.length := by omega
    rw [e7] at gh
    have rb : RpL K H (f.xs ++ hv) ((f.dn ++ h).map smD) := by rw [List.map_append]; exact RpL.app r (fo.xs.mono g)
    have gb : ∀ s ∈ (f.dn ++ h) ++ f.h.ds, GoodS (6 - fs.length) s := fun s hs => by
      rcases List.mem_append.mp hs with hs | hs
      · rcases List.mem_append.mp hs with hs | hs
        · exact fo.g s (List.mem_append_left _ hs)
        · exact gh s hs
      · exact fo.g s (List.mem_append_right _ hs)
    have gb1 : ∀ s ∈ f.dn ++ h, GoodS (6 - fs.length) s := fun s hs => gb s (List.mem_append_left _ hs)
    have cf : cnts (f :: fs) = cntF f + cnts fs := by simp [cnts]
    have cb : (((f.dn ++ h) ++ f.h.ds).flatMap orS).length = cntF f - 1 + (h.flatMap orS).length := by
      unfold cntF
      simp only [List.flatMap_append, List.length_append]
      omega
    have cp : 1 ≤ cntF f := by unfold cntF; omega
    have cb1 : ((f.dn ++ h).flatMap orS).length ≤ cntF f - 1 + (h.flatMap orS).length := by
      have := cb
      simp only [List.flatMap_append, List.length_append] at this ⊢
      omega
    have dgb : DG 21 (.list ((f.dn ++ h).map smD)) := body_dg (by omega) gb1 (by omega)
    have ro : ∃ d, Rp K H (.ref f.o) d ∧ DG 22 d := by
      have he : ∀ es : List Addr, (∀ e ∈ es, H e = some (.lst [])) → RpL K H (es.map V.ref) (es.map fun _ => PyData.list []) := fun es => by
        induction es with
        | nil => intro _; exact .nil
        | cons e es ih => intro q; exact .cons (.lst (q e (List.mem_cons_self ..)) .nil) (ih fun e' h' => q e' (List.mem_cons_of_mem _ h'))
      refine ⟨.list (.str (wW f.h) :: .list ((f.dn ++ h).map smD) :: f.h.es.map fun _ => PyData.list []), .lst (g _ _ fo.o) (.cons (.str _) (.cons (.lst c1 rb) (he _ c2))), ?_⟩
      refine dg_lst (n := 21) (fun d hd => ?_) ?_
      · rcases List.mem_cons.mp hd with rfl | hd
        · exact dg_str (by cases f.h <;> simp only [wW] <;> decide +kernel)
        · rcases List.mem_cons.mp hd with rfl | hd
          · exact dgb
          · obtain ⟨_, _, rfl⟩ := List.mem_map.mp hd
            exact dg_mono (dg_lst (n := 0) (fun d h => by cases h) (by simp)) (by omega)
      · have : f.h.es.length ≤ 1 := by cases f.h <;> simp [Hg.es]
        simp; omega
    obtain ⟨dO, rO, gO⟩ := ro
    cases fs with
    | nil =>
      have ih := fi.mpr rfl
      cases hh : f.h with
      | wh => rw [hh] at ih; exact absurd ih id
      | th => rw [hh] at ih; exact absurd ih id
      | el => rw [hh] at ih; exact absurd ih id
      | ha x ns nl =>
        have fh := fo.h.mono g
        rw [hh] at fh
        refine ⟨x, ns, f.dn ++ h, f.t, [dO], rfl, rp_ha fh c1 rb, by simp [nmO, hh, Hg.nm], fo.n _ _ _ hh, gb1, ?_, .cons rO .nil, (fun d hd => by rw [List.mem_singleton.mp hd]; exact gO), by
          rw [List.perm_iff_count]
          intro x
          simp only [List.flatMap_cons, List.flatMap_nil, ksF, hh, Hg.ks, Hg.ds, ksL_app, List.append_nil, List.nil_append]⟩
        rw [cf]; omega
    | cons g1 r1 =>
      have nh : ¬ f.h.isHa := fun h => by cases fi.mp h
      have es : 6 - (g1 :: r1).length + 1 = 7 - (g1 :: r1).length := by rw [List.length_cons] at lv ⊢; omega
      obtain ⟨x, ns, b, t, ds, a1, a2, a3, a4, a5, a6, a7, a8, a9⟩ := cls_all g (g1 :: r1) [.ref f.t] [mkS f.h (f.dn ++ h)] c3 fr (by simp) (by omega) (.cons (rp_mkS (fo.h.mono g) nh c1 rb c2) .nil) (fun s hs => by
        rw [List.mem_singleton.mp hs, ← es]; exact ok_mkS fo.h nh gb) (by
        have := or_mkS f.h (f.dn ++ h)
        rw [cb] at this
        simp only [List.flatMap_cons, List.flatMap_nil, List.append_nil]
        omega)
      have e0 : f.h.nm = [] := by cases hf : f.h <;> simp_all [Hg.nm, Hg.isHa]
      refine ⟨x, ns, b, t, dO :: ds, a1, a2, by simpa [nmO, e0] using a3, a4, a5, ?_, .cons rO a7, fun d hd => ?_, ?_⟩
      · have := or_mkS f.h (f.dn ++ h)
        rw [cb] at this
        simp only [List.flatMap_cons, List.flatMap_nil, List.append_nil] at a6
        omega
      · rcases List.mem_cons.mp hd with rfl | hd
        · exact gO
        · exact a8 d hd
      · rw [List.perm_iff_count] at a9 ⊢
        intro x
        have p9 := a9 x
        have pm := (List.perm_iff_count.mp (ks_mkS nh (f.dn ++ h))) x
        simp only [List.flatMap_cons, ksF, ksL_app, List.count_append] at pm p9 ⊢
        omega
end
section
variable {K : PySem.W.Frag} {Hb H : Hp} {nm : List Str} {rw hs op : Addr} {rv hv : List V} {hd : List Hd} {fs : List Fm} {n : Nat} {kb : Int}
theorem ZI.fin (z : ZI K Hb H nm rw hs op rv hv hd fs n kb) (hn : n ≤ 1000) (nn : nm.Nodup) : ∃ hd' : List Hd, Rp K H (.ref hs) (.list (hd'.map hdD)) ∧ (∀ h ∈ hd', BdOk h.2.2 6 ∧ Nms1 h.1 h.2.1 ∧ ∀ t ∈ orB h.2.2, Short t) ∧ (hd'.map (·.1)).Nodup ∧ (hd'.flatMap fun h => orB h.2.2).length ≤ n ∧ hd'.length ≤ 8 ∧ (∀ x ∈ hd'.map (·.1), x ∈ nm) ∧ ((hd'.flatMap fun h => orB h.2.2).map kS).Nodup := by
  have ex := z.cnt
  have nms := z.nms
  cases fs with
  | nil =>
    have e : nmO ([] : List Fm) = [] := rfl
    rw [e, List.append_nil] at nms
    refine ⟨hd, .lst z.hsa (by rw [show topT [] [] = [] from rfl, List.append_nil]; exact z.hdc.mono out_le), z.hdg, ?_, by rw [show cnts ([] : List Fm) = 0 from rfl] at ex; omega, by have := z.few; omega, fun x hx => by rw [nms] at hx; exact List.mem_of_mem_take hx, by have := z.ks.1; rw [List.map_flatMap]; simpa [ksA] using this⟩
    rw [nms]; exact List.Sublist.nodup (List.take_sublist ..) nn
  | cons f r =>
    obtain ⟨x, ns, b, t, _, a1, a2, a3, a4, a5, a6, _, _, a9⟩ := cls_all (K := K) (F := frz rw hs op (f :: r) H) out_le (f :: r) [] [] z.cla z.fm (by simp) z.lv .nil (fun s h => by cases h) (by simp; omega)
    refine ⟨hd ++ [(x, ns, ofL b)], .lst z.hsa ?_, fun h hm => ?_, ?_, ?_, ?_, ?_, ?_⟩
    · rw [a1, List.map_append]; exact RpL.app (.cons a2 .nil) (z.hdc.mono out_le)
    · rcases List.mem_append.mp hm with hm | hm
      · exact z.hdg h hm
      · rw [List.mem_singleton.mp hm]
        refine ⟨ok_ofL fun s hs => (a5 s hs).1, a4, fun t ht => ?_⟩
        rw [orB_ofL] at ht
        obtain ⟨s, hs, ht⟩ := List.mem_flatMap.mp ht
        exact (a5 s hs).2 t ht
    · rw [List.map_append]
      rw [a3] at nms
      show (hd.map (·.1) ++ [x]).Nodup
      rw [nms]; exact List.Sublist.nodup (List.take_sublist ..) nn
    · rw [List.flatMap_append, List.length_append]
      simp only [List.flatMap_cons, List.flatMap_nil, List.append_nil, orB_ofL]
      simp only [List.flatMap_nil, List.length_nil, Nat.add_zero] at a6
      omega
    · have := z.few
      rw [a3, List.length_singleton] at this
      rw [List.length_append, List.length_singleton]; exact this
    · intro y hy
      rw [List.map_append] at hy
      rw [a3] at nms
      have hy : y ∈ hd.map (·.1) ++ [x] := hy
      rw [nms] at hy; exact List.mem_of_mem_take hy
    · have p : ((hd ++ [(x, ns, ofL b)]).flatMap fun h => orB h.2.2).map kS = (hd.flatMap fun h => (orB h.2.2).map kS) ++ ksL b := by
        rw [List.map_flatMap, List.flatMap_append]
        simp only [List.flatMap_cons, List.flatMap_nil, List.append_nil, orB_ofL]
        rfl
      rw [p]
      refine (z.ks.perm ?_).1
      unfold ksA
      refine List.Perm.append_left _ ?_
      simpa [ksL] using a9
end
end K14
set_option Elab.async false
set_option linter.all false
set_option maxRecDepth 100000
set_option maxHeartbeats 4000000
namespace K14
open PySem L2
section
variable {P : Program} {w : World} {K : PySem.W.Frag} {mg : Str → Option Value} {base : Heap}
theorem nok_w {l : List Str} (h : ∀ x ∈ l, Nok x) : (l.map fun x => x.length).sum ≤ 20 * l.length := by
  induction l with
  | nil => exact Nat.zero_le _
  | cons x l ih =>
    have := ih fun y hy => h y (List.mem_cons_of_mem _ hy)
    have := (h x (List.mem_cons_self ..)).len
    rw [List.map_cons, List.sum_cons, List.length_cons]; omega
def bF (hd : Int) : Int := if stirF hd 508 % 2 = 0 then 300 else 400
def spHa (K : PySem.W.Frag) : Sp := fun vs H Q _ => ∃ (hs op rw : Addr) (head : Int) (Hb : Hp) (rv hv : List V) (hd : List Hd) (n : Nat) (kb : Int), vs = [.ref hs, .int head, .ref op] ∧ ZI K Hb H (namesF head (bF head) 8) rw hs op rv hv hd [] n kb ∧
  ∀ (H' : Hp) (x : Str) (g : Fm), ZI K Hb H' (namesF head (bF head) 8) rw hs op rv hv hd [g] (n + 1) kb → Q (.str x) H'
theorem ok_ha (D : DefAt K mg "_law_hand" s__law_hand ["hands", "head", "opened"]) (hlen : mg "len" = none) (G__law_stir : OkD P w K mg base 1 "_law_stir" ["cell", "k"] spStir) (G__law_names : OkD P w K mg base 2 "_law_names" ["head", "k", "many"] (spNs namesF)) : OkD P w K mg base 3 "_law_hand" ["hands", "head", "opened"] (spHa K) := by
  refine D.ok sc__law_hand (fun vs H Q E h => ?_) (fun f cdv A outer s H vs Q E hr h => ?_)
  · obtain ⟨_, _, _, _, _, _, _, _, _, _, rfl, _⟩ := h; rfl
  obtain ⟨hs, op, rw, head, Hb, rv, hv, hd, n, kb, rfl, z, q⟩ := h
  have big : 100000 ≤ sizeLine := by unfold sizeLine; decide
  have lhv : hv.length = hd.length := by have := z.hdc.len; rwa [List.length_map] at this
  have l7 := z.ope rfl
  refine ⟨_, (pss_cons (ps_set (i := 3) sc__law_hand.nd rfl (Or.inl rfl) (pe_ix ix_g (pe_def G__law_names hr rfl (pa_c (pv 1) (pa_c (pe_ix ix_g (pe_lstG (pa_c pe_int (pa_c pe_int pa_nil))) (pe_op op_mod (pe_def G__law_stir hr rfl (pa_c (pv 1) (pa_c pe_int pa_nil))) pe_int) (fun _ _ => rfl)) (pa_c pe_int pa_nil)))) (pe_cB call_lenG rfl hlen PySem.boot_len (pa_c (pv 0) pa_nil)) (fun _ _ => rfl)))
  (pss_cons (ps_set (i := 4) sc__law_hand.nd rfl (Or.inl rfl) (pe_def G__law_stir hr rfl (pa_c (pv 1) (pa_c (pe_op op_add pe_int (pe_cB call_lenG rfl hlen PySem.boot_len (pa_c (pv 0) pa_nil))) pa_nil))))
  (pss_cons (ps_set (i := 5) sc__law_hand.nd rfl (Or.inl rfl) (pe_def G__law_names hr rfl (pa_c (pv 1) (pa_c (pe_op op_add pe_int (pe_op op_mul pe_int (pe_cB call_lenG rfl hlen PySem.boot_len (pa_c (pv 0) pa_nil)))) (pa_c (pe_op op_mod (pv 4) pe_int) pa_nil)))))
  (pss_cons (ps_expr (pe_appG (pv 0) (pe_tupG (pa_c (pv 3) (pa_c (pv 5) (pa_c (pe_lstG pa_nil) pa_nil))))))
  (pss_cons (ps_expr (pe_appG (pv 2) (pe_lstG (pa_c pe_str (pa_c (pe_ix ix_g (pe_ix ix_g (pv 0) (pe_un un_neg pe_int) (fun _ _ => rfl)) pe_int (fun _ _ => rfl)) pa_nil)))))
  (pss_one (ps_ret (pe_join pe_str (pe_op op_catG (pe_lstG (pa_c pe_str (pa_c (pv 3) pa_nil))) (pv 5)))))))))), ?_⟩
  walk_at "r2"
  intro p1 H1 hp1 g1 h1
  walk_at "r2"
  refine ⟨head, 508, rfl, by decide, by decide, fun m e0 m0 m1 => ?_⟩
  have eb : atI [V.int 300, V.int 400] (m % 2) = some (.int (bF head)) := by
    unfold bF
    rw [← e0]
    have c : m % 2 = 0 ∨ m % 2 = 1 := by omega
    rcases c with c | c <;> rw [c] <;> rfl
  have kb : 0 ≤ bF head ∧ bF head ≤ 900 := by unfold bF; split <;> omega
  clear e0
  walk_at "r2"
  refine ⟨head, bF head, 8, rfl, kb.1, kb.2, by decide, fun nl8 H2 hp2 g2 h2 => ?_⟩
  have z0 : H hs = some (.lst hv) := by have := z.hsa; rwa [show topT [] [] = [] from rfl, List.append_nil] at this
  have z2 := g2 _ _ (g1 _ _ z0)
  clear h1 eb
  have ln := namesF_len head (bF head) 8
  obtain ⟨nx, hnx⟩ : ∃ x, (namesF head (bF head) 8)[hd.length]? = some x := ⟨_, List.getElem?_eq_getElem (by omega)⟩
  have enx : atI ((namesF head (bF head) 8).map V.str) (hd.length : Int) = some (.str nx) := atI_nat (by rw [List.getElem?_map, hnx]; rfl)
  walk_at "r2"
  refine ⟨head, 340 + hd.length, rfl, by omega, by omega, fun m2 e0 m20 m21 => ?_⟩
  clear e0 h2 enx
  walk_at "r2"
  obtain ⟨n4, en4, hn4⟩ : ∃ n4 : Nat, m2 % 4 = (n4 : Int) ∧ n4 ≤ 3 := ⟨(m2 % 4).toNat, by omega, by omega⟩
  rw [en4]
  refine ⟨head, 700 + 20 * hd.length, n4, rfl, by omega, by omega, by omega, fun nl H3 hp3 g3 h3 => ?_⟩
  have z3 := g3 _ _ z2
  clear en4
  walk_at "r2"
  intro u H4 hu g4 h4
  walk_at "r2"
  intro t H5 ht g5 h5
  have z5 := g5 _ _ (g4 _ _ z3)
  walk_at "r2"
  refine ⟨by omega, fun H6 mu1 => ?_⟩
  have nth : t ≠ hs := fun e => by rw [e] at ht; rw [g4 _ _ z3] at ht; cases ht
  have z6 := mu1.at_
  have t6 := mu1.old h5 nth
  have la := atI_last hv (V.ref t)
  have o0 : H op = some (.lst []) := z.opa
  have o5 := g5 _ _ (g4 _ _ (g3 _ _ (g2 _ _ (g1 _ _ o0))))
  have o6 := mu1.old o5 z.nho.symm
  walk_at "r2"
  intro o H7 ho g7 h7
  have o7 := g7 _ _ o6
  clear z6 t6 la o6
  walk_at "r2"
  refine ⟨by omega, fun H8 mu2 => ?_⟩
  have nnh : nl ≠ hs := fun e => by rw [e] at hp3; rw [z2] at hp3; cases hp3
  have nno : nl ≠ op := fun e => by rw [e] at hp3; rw [g2 _ _ (g1 _ _ o0)] at hp3; cases hp3
  have n8 := mu2.old (g7 _ _ (mu1.old (g5 _ _ (g4 _ _ h3)) nnh)) nno
  walk_at "r2"
  intro p9 H9 hp9 g9 h9
  have n9 := g9 _ _ n8
  have lnn := namesF_len head (700 + 20 * hd.length) n4
  clear n8
  walk_at "r2"
  refine ⟨by rw [List.length_map]; omega, fun p10 H10 hp10 g10 h10 => ?_⟩
  obtain ⟨no8, nd8⟩ := names_ok head (bF head) 8 (by decide)
  obtain ⟨no4, _⟩ := names_ok head (700 + 20 * hd.length) n4 (by omega)
  have nkx : Nok nx := no8 nx (List.mem_of_getElem? hnx)
  have wj : JoinOk (Str.ofString " ") (Str.ofString "hand" :: nx :: namesF head (700 + 20 * hd.length) n4) = true := by
    refine PyProof.Rows.joinOk_of_weight ?_ (by decide +kernel)
    have e5 : (Str.ofString "hand").length = 4 := by decide +kernel
    have := nok_w no4
    have := nkx.len
    rw [List.map_cons, List.map_cons, List.sum_cons, List.sum_cons, List.length_cons, List.length_cons, e5]
    omega
  walk_at "r2"
  refine ⟨Str.ofString "hand" :: nx :: namesF head (700 + 20 * hd.length) n4, rfl, wj, ?_⟩
  have g12 := g1.trans g2
  have g13 := g12.trans g3
  have g14 := g13.trans g4
  have tn : t ∉ rw :: hs :: op :: [u] := fun m => by
    rcases List.mem_cons.mp m with e | m
    · exact (z.same g14).old ht (by rw [e]; exact List.mem_cons_self ..)
    · rcases List.mem_cons.mp m with e | m
      · exact nth e
      · rcases List.mem_cons.mp m with e | m
        · exact (z.same g14).old ht (by rw [e]; exact List.mem_cons_of_mem _ (List.mem_cons_of_mem _ (List.mem_cons_self ..)))
        · rw [List.mem_singleton.mp m, h4] at ht; cases ht
  have nn : nl ∉ rw :: hs :: op :: [u] := fun m => by
    rcases List.mem_cons.mp m with e | m
    · exact (z.same g12).old hp3 (by rw [e]; exact List.mem_cons_self ..)
    · rcases List.mem_cons.mp m with e | m
      · exact nnh e
      · rcases List.mem_cons.mp m with e | m
        · exact nno e
        · rw [← List.mem_singleton.mp m, h3] at hu; cases hu
  have zz := z.hnd (g := ⟨u, [], [], t, o, .ha nx (namesF head (700 + 20 * hd.length) n4) nl⟩) (x := nx) (ns := namesF head (700 + 20 * hd.length) n4) (nl := nl) rfl rfl rfl hnx ⟨nkx, fun y hy => (no4 y hy).ok, by omega⟩ (g14.trans g5) (g13.free hu) (g5 _ _ h4) ⟨out_of tn h5, out_of nn (g5 _ _ (g4 _ _ h3))⟩ mu1 g7 ho h7 mu2
  exact q H10 _ _ (zz.same (g9.trans g10))
end
end K14
set_option Elab.async false
set_option linter.all false
set_option maxRecDepth 100000
set_option maxHeartbeats 4000000
namespace K14
open PySem L2
section
variable {P : Program} {w : World} {K : PySem.W.Frag} {mg : Str → Option Value} {base : Heap}
theorem wW_if {h : Hg} (e : wW h = Str.ofString "if") : ∃ k vs va vb sg a b e, h = .th k vs va vb sg a b e := by
  cases h with
  | ha => exact absurd e (show Str.ofString "hand" ≠ Str.ofString "if" by decide +kernel)
  | wh => exact absurd e (show Str.ofString "while" ≠ Str.ofString "if" by decide +kernel)
  | el => exact absurd e (show Str.ofString "else" ≠ Str.ofString "if" by decide +kernel)
  | th k vs va vb sg a b e' => exact ⟨k, vs, va, vb, sg, a, b, e', rfl⟩
theorem sm0_any {s : Sm} {n : Nat} (h : SmOk s 0) : SmOk s n := by
  cases s with
  | pl => simpa only [SmOk] using h
  | nm => simpa only [SmOk] using h
  | dr => simpa only [SmOk] using h
  | st => simpa only [SmOk] using h
  | wh => simp only [SmOk] at h; obtain ⟨_, _, _, m, e, _⟩ := h; cases e
  | fi => simp only [SmOk] at h; obtain ⟨_, _, _, m, e, _⟩ := h; cases e
theorem ZI.kp {K : PySem.W.Frag} {Hb H H' : Hp} {nm : List Str} {rw hs op : Addr} {rv hv : List V} {hd : List Hd} {fs : List Fm} {n : Nat} {kb : Int} (z : ZI K Hb H nm rw hs op rv hv hd fs n kb) : Same (kp em H H') (frz rw hs op fs H') := by
  refine out_kp fun m hm => ?_
  rcases List.mem_cons.mp hm with rfl | hm
  · exact ⟨_, z.rwa⟩
  · rcases List.mem_cons.mp hm with rfl | hm
    · exact ⟨_, z.hsa⟩
    · rcases List.mem_cons.mp hm with rfl | hm
      · exact ⟨_, z.opa⟩
      · obtain ⟨vs, e⟩ := z.cla.at m hm
        exact ⟨_, e⟩
theorem ZI.kpo {K : PySem.W.Frag} {Hb H H1 X : Hp} {nm : List Str} {rw hs op : Addr} {rv hv : List V} {hd : List Hd} {fs : List Fm} {n : Nat} {kb : Int} {g : Fm} (z : ZI K Hb H nm rw hs op rv hv hd fs n kb) (h : ∀ a u, X a = some u → H1 a = some u ∧ H a = none ∧ a ∉ g.c :: g.h.es) : Same X (frz rw hs op (g :: fs) H1) := fun a u e => by
  obtain ⟨e1, e2, e3⟩ := h a u e
  refine out_of (fun m => ?_) e1
  have no := z.old e2
  rcases List.mem_cons.mp m with q | m
  · exact no (by rw [q]; exact List.mem_cons_self ..)
  · rcases List.mem_cons.mp m with q | m
    · exact no (by rw [q]; exact List.mem_cons_of_mem _ (List.mem_cons_self ..))
    · rcases List.mem_cons.mp m with q | m
      · exact no (by rw [q]; exact List.mem_cons_of_mem _ (List.mem_cons_of_mem _ (List.mem_cons_self ..)))
      · rw [show keys (g :: fs) = (g.c :: g.h.es) ++ keys fs from rfl] at m
        rcases List.mem_append.mp m with m | m
        · exact e3 m
        · exact no (List.mem_cons_of_mem _ (List.mem_cons_of_mem _ (List.mem_cons_of_mem _ m)))
theorem ZI.moreK {K : PySem.W.Frag} {Hb H : Hp} {nm : List Str} {rw hs op : Addr} {rv hv : List V} {hd : List Hd} {fs : List Fm} {n : Nat} {kb k : Int} (z : ZI K Hb H nm rw hs op rv hv hd fs n kb) (h : kb ≤ k) : ZI K Hb H nm rw hs op rv hv hd fs n k := ⟨z.nd, z.rwa, z.hsa, z.opa, z.cla, z.base, z.fm, z.hdc, z.hdg, z.nms, z.cnt, z.lv, z.few, z.ope, z.ks.mono h⟩
theorem ZI.xl {K : PySem.W.Frag} {Hb H : Hp} {nm : List Str} {rw hs op : Addr} {rv hv : List V} {hd : List Hd} {f : Fm} {fs : List Fm} {n : Nat} {kb : Int} (z : ZI K Hb H nm rw hs op rv hv hd (f :: fs) n kb) : f.xs.length ≤ n := by
  have e := z.fm.1.xs.len
  rw [List.length_map] at e
  have l := len_orS f.dn
  have c := z.cnt
  rw [cnts_cons] at c
  have : (f.dn.flatMap orS).length ≤ cntF f := by unfold cntF; rw [List.flatMap_append, List.length_append]; omega
  omega
def spRo (K : PySem.W.Frag) : Sp := fun vs H Q _ => ∃ (c k : Int) (op rw hs : Addr) (most : Bool) (Hb : Hp) (nm : List Str) (rv hv : List V) (hd : List Hd) (f : Fm) (fs : List Fm) (n : Nat) (kb : Int), vs = [.int c, .int k, .ref op, .bl most] ∧ 0 ≤ k ∧ k ≤ 100 ∧ n ≤ 900 ∧ kb < k ∧
  ZI K Hb H nm rw hs op rv hv hd (f :: fs) n kb ∧ (most = true → hd.length + 1 ≤ 7) ∧ ∀ (H' : Hp) (x : Str) (hv' : List V) (hd' : List Hd) (fs' : List Fm), ZI K Hb H' nm rw hs op rv hv' hd' fs' (n + 1) k → Q (.str x) H'
theorem ok_ro (D : DefAt K mg "_law_row" s__law_row ["cell", "k", "opened", "most"]) (hlen : mg "len" = none) (hlist : mg "list" = none) (G__law_stir : OkD P w K mg base 1 "_law_stir" ["cell", "k"] spStir) (G__law_opener : OkD P w K mg base 8 "_law_opener" ["cell", "k"] (spOp K)) (G__law_plain : OkD P w K mg base 8 "_law_plain" ["cell", "k"] (spPl K)) :
    OkD P w K mg base 9 "_law_row" ["cell", "k", "opened", "most"] (spRo K) := by
  refine D.ok sc__law_row (fun vs H Q E h => ?_) (fun fu cdv A outer s H vs Q E hr h => ?_)
  · obtain ⟨_, _, _, _, _, _, _, _, _, _, _, _, _, _, _, rfl, _⟩ := h; rfl
  obtain ⟨c, k, op, rw, hs, most, Hb, nm, rv, hv, hd, f, fs, n, kb, rfl, k0, k1, n9, hkb, z, hmost, q⟩ := h
  have big : 100000 ≤ sizeLine := by unfold sizeLine; decide
  obtain ⟨os, eos⟩ : ∃ os, (fs.map fun f => V.ref f.o).reverse = os := ⟨_, rfl⟩
  have ho : H op = some (.lst (os ++ [.ref f.o])) := by have := z.opa; rw [List.map_cons, List.reverse_cons, eos] at this; exact this
  have hoo : H f.o = some (.lst (.str (wW f.h) :: .ref f.c :: f.h.es.map V.ref)) := out_le _ _ z.fm.1.o
  have la := atI_last os (V.ref f.o)
  have los : os.length = fs.length := by rw [← eos, List.length_reverse, List.length_map]
  have lv := z.lv
  rw [List.length_cons] at lv
  have xl := z.xl
  have hfc : H f.c = some (.lst f.xs) := by have := z.cla.1; rwa [List.append_nil] at this
  refine ⟨_, (pss_cons (ps_set (i := 4) sc__law_row.nd rfl (Or.inl rfl) (pe_def G__law_stir hr rfl (pa_c (pv 0) (pa_c pe_int pa_nil))))
  (pss_cons (ps_if (PW.pt (pw_and (pt_cmpR op_eq (pe_op op_mod (pv 4) pe_int) pe_int (nomark _)) (pw_and1 (pt_cmpR op_eq (pe_ix ix_g (pe_ix ix_g (pv 2) (pe_un un_neg pe_int) (fun _ _ => rfl)) pe_int (fun _ _ => rfl)) pe_str (nomark _)))))
  (pss_cons (ps_asg (pe_lstG (pa_c pe_str (pa_c (pe_ix ix_g (pe_ix ix_g (pv 2) (pe_un un_neg pe_int) (fun _ _ => rfl)) pe_int (fun _ _ => rfl)) pa_nil))) (pg_sub (pv 2) (pe_un un_neg pe_int) set_listG))
  (pss_one (ps_ret pe_str)))
  pss_nil)
  (pss_cons (ps_if (PW.pt (pw_and (pt_cmpR op_eq (pe_op op_mod (pv 4) pe_int) pe_int (nomark _)) (pw_and1 (PW.pt (pw_or (pt_cmpR op_gt (pe_cB call_lenG rfl hlen PySem.boot_len (pa_c (pv 2) pa_nil)) pe_int (nomark _)) (pw_or1 (pt_val (pv 3))))))))
  (pss_cons (ps_expr (pe_bm0 PySem.F.plainAttrs_list PySem.F.slot_list_pop PySem.F.type_list_pop mt_popG (pv 2)))
  (pss_one (ps_ret pe_str)))
  pss_nil)
  (pss_cons (ps_if (PW.pt (pw_and (pt_cmpR op_gt (pe_op op_mod (pv 4) pe_int) pe_int (nomark _)) (pw_and1 (pt_cmpR op_lt (pe_cB call_lenG rfl hlen PySem.boot_len (pa_c (pv 2) pa_nil)) pe_int (nomark _)))))
  (pss_cons (ps_asg (pe_def G__law_opener hr rfl (pa_c (pv 0) (pa_c (pv 1) pa_nil))) (pg_lstG 2 rfl (pgs_cons (pg_name (i := 5) sc__law_row.nd rfl (Or.inl rfl)) (pgs_cons (pg_name (i := 6) sc__law_row.nd rfl (Or.inl rfl)) pgs_nil))))
  (pss_cons (ps_expr (pe_appG (pe_ix ix_g (pe_ix ix_g (pv 2) (pe_un un_neg pe_int) (fun _ _ => rfl)) pe_int (fun _ _ => rfl)) (pv 6)))
  (pss_cons (ps_expr (pe_appG (pv 2) (pe_op op_catG (pe_lstG (pa_c (pe_ix ix_g (pv 6) pe_int (fun _ _ => rfl)) (pa_c (pe_ix ix_g (pv 6) pe_int (fun _ _ => rfl)) pa_nil))) (pe_cTy call_listG rfl hlist (by decide +kernel) (pa_c (pe_slice sl_g (pv 6) (po_some pe_int) po_none) pa_nil)))))
  (pss_one (ps_ret (pv 5))))))
  pss_nil)
  (pss_cons (ps_asg (pe_def G__law_plain hr rfl (pa_c (pv 0) (pa_c (pv 1) pa_nil))) (pg_lstG 2 rfl (pgs_cons (pg_name (i := 5) sc__law_row.nd rfl (Or.inl rfl)) (pgs_cons (pg_name (i := 6) sc__law_row.nd rfl (Or.inl rfl)) pgs_nil))))
  (pss_cons (ps_expr (pe_appG (pe_ix ix_g (pe_ix ix_g (pv 2) (pe_un un_neg pe_int) (fun _ _ => rfl)) pe_int (fun _ _ => rfl)) (pv 6)))
  (pss_one (ps_ret (pv 5))))))))), ?_⟩
  walk_at "r2"
  refine ⟨c, 0, rfl, by decide, by decide, fun m e0 m0 m1 => ?_⟩
  clear e0
  walk_at "r2"
  rename_i T
  have rest : T { nx := fun x H' => Q V.non H', rt := Q } [some (V.int c), some (V.int k), some (V.ref op), some (V.bl most), some (V.int m), none, none] H := by
    walk_at "r2"
    rename_i T2
    have rest2 : T2 { nx := fun x H' => Q V.non H', rt := Q } [some (V.int c), some (V.int k), some (V.ref op), some (V.bl most), some (V.int m), none, none] H := by
      walk_at "r2"
      rename_i T3
      have rest3 : T3 { nx := fun x H' => Q V.non H', rt := Q } [some (V.int c), some (V.int k), some (V.ref op), some (V.bl most), some (V.int m), none, none] H := by
        walk_at "r2"
        refine ⟨c, k, rfl, k0, k1, fun p t H1 x sm hp g1 h1 r1 ok sh os1 ks1 => ?_⟩
        have ho1 := g1 _ _ ho
        have hoo1 := g1 _ _ hoo
        have hfc1 := g1 _ _ hfc
        clear ho hoo hfc
        walk_at "r2"
        refine ⟨by omega, fun H2 mu => ?_⟩
        have z' := (z.same g1).push mu (r1.mono z.kp) ⟨sm0_any ok, fun t ht => by rw [os1] at ht; rw [List.mem_singleton.mp ht]; exact sh⟩ os1 (by rw [ks1]; exact hkb)
        rw [os1, ks1] at z'
        walk_at "r2"
        exact q _ _ _ _ _ z'
      refine ite2 (fun c5 => ?_) fun c5 => ?_
      · walk_at "r2"
        refine ite2 (fun c6 => ?_) fun c6 => ?_
        · have l6 : fs.length + 1 < 6 := by rw [List.length_append, List.length_singleton, los] at c6; omega
          clear rest3 c6
          walk_at "r2"
          refine ⟨c, k, rfl, fun p t H1 x wd sg a b bs g1 h1 hp ht h1t alt => ?_⟩
          have ho1 := g1 _ _ ho
          have hoo1 := g1 _ _ hoo
          have hfc1 := g1 _ _ hfc
          clear ho hoo hfc
          walk_at "r2"
          refine ⟨by omega, fun H2 mu1 => ?_⟩
          have ntc : t ≠ f.c := fun e => by rw [e] at h1t; rw [hfc1] at h1t; cases h1t
          have t2 := mu1.old h1t ntc
          have hkf : f.c ∈ keys (f :: fs) := List.mem_cons_self ..
          have ho2 := mu1.old ho1 (z.nok hkf).symm
          rcases alt with ⟨rfl, u, rfl, hu, h1u, ⟨dg, rg, gg⟩, ⟨da, ra, ga⟩, db, rb, gb⟩ | ⟨rfl, u, v, rfl, nuv, hu, hv', h1u, h1v, ⟨dg, rg, gg⟩, ⟨da, ra, ga⟩, db, rb, gb⟩
          · walk_at "r2"
            refine ⟨_, rfl, ?_⟩
            walk_at "r2"
            intro p3 H3 hp3 g3 h3
            have t3 := g3 _ _ t2
            have ho3 := g3 _ _ ho2
            clear t2 ho2
            walk_at "r2"
            refine ⟨fun h => absurd h.1 (by decide), fun p4 H4 hp4 g4 h4 => ?_⟩
            have h4' : H4 p4 = some (.tup []) := h4
            have h34 := g4 _ _ h3
            have ho4 := g4 _ _ ho3
            clear h4 t3 ho3 h3
            walk_at "r2"
            intro p5 H5 hp5 g5 h5
            have h35 := g5 _ _ h34
            have ho5 := g5 _ _ ho4
            clear h4' ho4 h34
            walk_at "r2"
            intro o H6 ho6 g6 h6
            have ho7 := g6 _ _ ho5
            clear h5 h35 ho5
            walk_at "r2"
            refine ⟨by rw [List.length_append, List.length_singleton]; omega, fun H7 mu2 => ?_⟩
            walk_at "r2"
            have sx : Same (hide u (kp em H H1)) (frz rw hs op (⟨u, [], [], t, o, .wh k sg a b dg da db⟩ :: f :: fs) H1) := z.kpo fun a' x' e' => by
              obtain ⟨n1, e'⟩ := hide_inv e'
              obtain ⟨hN, h2'⟩ := kp_inv e'
              exact ⟨h2', hN.resolve_left (fun ⟨_, q⟩ => by cases q), fun m => n1 (List.mem_singleton.mp m)⟩
            have ft : frz rw hs op (⟨u, [], [], t, o, .wh k sg a b dg da db⟩ :: f :: fs) H1 t = some (.tup [.str (Str.ofString "while"), .int k, sg, a, b, .ref u]) := sx _ _ (hide_of (fun e' => by rw [e', h1u] at h1t; cases h1t) (kp_new ht h1t))
            have z' := z.opn (g := ⟨u, [], [], t, o, .wh k sg a b dg da db⟩) l6 rfl rfl id rfl rfl hkb g1 (fun a' ha => by rw [List.mem_singleton.mp ha]; exact hu) (by show [u].Nodup; simp) (fun a' ha => by rw [List.mem_singleton.mp ha]; exact h1u)
              ⟨ft, rg.mono sx, ra.mono sx, rb.mono sx, gg, ga, gb⟩ mu1 (g3.trans (g4.trans (g5.trans g6))) (g3.free (g4.free (g5.free ho6))) h6 (by rw [List.map_cons, List.reverse_cons, eos]; exact mu2)
            exact q _ _ _ _ _ z'
          · walk_at "r2"
            refine ⟨_, rfl, ?_⟩
            walk_at "r2"
            intro p3 H3 hp3 g3 h3
            have t3 := g3 _ _ t2
            have ho3 := g3 _ _ ho2
            clear t2 ho2
            walk_at "r2"
            refine ⟨fun h => absurd h.1 (by decide), fun p4 H4 hp4 g4 h4 => ?_⟩
            have h4' : H4 p4 = some (.tup [V.ref v]) := h4
            have h34 := g4 _ _ h3
            have ho4 := g4 _ _ ho3
            clear h4 t3 ho3 h3
            walk_at "r2"
            intro p5 H5 hp5 g5 h5
            have h35 := g5 _ _ h34
            have ho5 := g5 _ _ ho4
            clear h4' ho4 h34
            walk_at "r2"
            intro o H6 ho6 g6 h6
            have ho7 := g6 _ _ ho5
            clear h5 h35 ho5
            walk_at "r2"
            refine ⟨by rw [List.length_append, List.length_singleton]; omega, fun H7 mu2 => ?_⟩
            walk_at "r2"
            have sx : Same (hide u (hide v (kp em H H1))) (frz rw hs op (⟨u, [], [], t, o, .th k sg a b dg da db v⟩ :: f :: fs) H1) := z.kpo fun a' x' e' => by
              obtain ⟨n1, e'⟩ := hide_inv e'
              obtain ⟨n2, e'⟩ := hide_inv e'
              obtain ⟨hN, h2'⟩ := kp_inv e'
              exact ⟨h2', hN.resolve_left (fun ⟨_, q⟩ => by cases q), fun m => by rcases List.mem_cons.mp m with q' | m; exact n1 q'; exact n2 (List.mem_singleton.mp m)⟩
            have ft : frz rw hs op (⟨u, [], [], t, o, .th k sg a b dg da db v⟩ :: f :: fs) H1 t = some (.tup [.str (Str.ofString "if"), .int k, sg, a, b, .ref u, .ref v]) := sx _ _ (hide_of (fun e' => by rw [e', h1u] at h1t; cases h1t) (hide_of (fun e' => by rw [e', h1v] at h1t; cases h1t) (kp_new ht h1t)))
            have z' := z.opn (g := ⟨u, [], [], t, o, .th k sg a b dg da db v⟩) l6 rfl rfl id rfl rfl hkb g1 (fun a' ha => by rcases List.mem_cons.mp ha with q' | ha; rw [q']; exact hu; rw [List.mem_singleton.mp ha]; exact hv') (by show [u, v].Nodup; simpa using nuv) (fun a' ha => by rcases List.mem_cons.mp ha with q' | ha; rw [q']; exact h1u; rw [List.mem_singleton.mp ha]; exact h1v)
              ⟨ft, rg.mono sx, ra.mono sx, rb.mono sx, gg, ga, gb⟩ mu1 (g3.trans (g4.trans (g5.trans g6))) (g3.free (g4.free (g5.free ho6))) h6 (by rw [List.map_cons, List.reverse_cons, eos]; exact mu2)
            exact q _ _ _ _ _ z'
        · exact rest3
      · exact rest3
    have pop : (fs = [] → most = true) → ∀ H', Mu H op (.lst os) H' → Q (V.str (Str.ofString "end")) H' := fun hc H' mu => by
      clear rest2 T T2
      rw [← eos] at mu
      cases fs with
      | nil =>
        obtain ⟨hv', h', z'⟩ := z.popH (hmost (hc rfl)) mu
        exact q _ _ _ _ _ ((z'.more (Nat.le_succ _)).moreK (Int.le_of_lt hkb))
      | cons g r => exact q _ _ _ _ _ (((z.pop mu).more (Nat.le_succ _)).moreK (Int.le_of_lt hkb))
    refine ite2 (fun c2 => ?_) fun c2 => ?_
    · walk_at "r2"
      refine ite2 (fun c3 => ?_) fun c3 => ?_
      · have hne : fs = [] → most = true := fun e => by
          rw [e] at los
          rw [List.length_append, List.length_singleton, los, List.length_nil] at c3
          omega
        walk_at "r2"
        exact ⟨⟨_, SqL.of ho⟩, op, os, _, rfl, rfl, ho, fun H' mu => pop hne H' mu⟩
      · walk_at "r2"
        refine ite2 (fun c4 => ?_) fun c4 => ?_
        · walk_at "r2"
          exact ⟨⟨_, SqL.of ho⟩, op, os, _, rfl, rfl, ho, fun H' mu => pop (fun _ => c4) H' mu⟩
        · exact rest2
    · exact rest2
  refine ite2 (fun c1 => ?_) fun c1 => ?_
  · by_cases hi : wW f.h = Str.ofString "if"
    · obtain ⟨kk, vs, va, vb, sg, a, b, e, hh⟩ := wW_if hi
      have hoo' : H f.o = some (.lst [.str (Str.ofString "if"), .ref f.c, .ref e]) := by rw [hh] at hoo; exact hoo
      clear hoo hi rest
      walk_at "r2"
      intro o' H1 ho' g1 h1
      have ho1 := g1 _ _ ho
      walk_at "r2"
      refine ⟨os.length, by unfold ixN; rw [if_neg (by decide), List.length_append, List.length_singleton, if_pos (by omega)]; congr 1; omega, fun H2 mu => ?_⟩
      rw [List.set_append_right _ _ (Nat.le_refl _), Nat.sub_self] at mu
      walk_at "r2"
      have z' := (z.same g1).els hh h1 (z.old ho') (by rw [eos]; exact mu)
      exact q _ _ _ _ _ ((z'.more (Nat.le_succ _)).moreK (Int.le_of_lt hkb))
    · walk_at "r2"
  · exact rest
end
end K14
set_option Elab.async false
set_option linter.all false
set_option maxRecDepth 100000
set_option maxHeartbeats 4000000
namespace K14
open PySem L2
section
variable {P : Program} {w : World} {K : PySem.W.Frag} {mg : Str → Option Value} {base : Heap}
theorem topT_len : ∀ (fs : List Fm) (v : V), (topT fs [v]).length = 1
  | [], _ => rfl
  | f :: fs, _ => topT_len fs _
theorem _root_.L2.SqL.keep {K : PySem.W.Frag} {H H' : Hp} {a : Addr} {xs : List V} (hS : SqL K H a xs) (g : Same H H') : SqL K H' a xs := by
  rcases hS with (h | ⟨o, h⟩) | h
  · exact .inl (.inl (g _ _ h))
  · exact .inl (.inr ⟨o, g _ _ h⟩)
  · exact .inr h
def BuI (K : PySem.W.Frag) (Hb : Hp) (nm : List Str) (rw hs op : Addr) (r0 : Nat) (σ0 : St) (i : Nat) (σ : St) (H' : Hp) : Prop := ∃ rv hv hd fs v6, ZI K Hb H' nm rw hs op rv hv hd fs i (rv.length : Int) ∧ rv.length = r0 + i ∧ σ = σ0 ++ [v6]
def spBu (K : PySem.W.Frag) : Sp := fun vs H Q _ => ∃ (a : Addr) (cs : List Int) (head : Int), vs = [.ref a, .int head] ∧ SqL K H a (cs.map V.int) ∧ cs.length ≤ 63 ∧ ∀ (p : Addr) (rv pt : V) (H' : Hp) (g : Pg), Same H H' → H' p = some (.lst [rv, pt]) → Rp K H' pt g.D → g.Ok → (∀ t ∈ orP g, Short t) → ((orP g).map kS).Nodup → (∀ o ∈ g.t ++ (g.s ++ g.r), o.1 ∈ namesF head 400 5) → (∀ x ∈ g.h.map (·.1), x ∈ namesF head (bF head) 8) → Q (.ref p) H'
theorem sHb' {Hb H : Hp} {nm : List Str} {rw hs op : Addr} {rv hv : List V} {hd : List Hd} {fs : List Fm} {n : Nat} {kb : Int} (z : ZI K Hb H nm rw hs op rv hv hd fs n kb) {x : Addr} {u : HO} (e : Hb x = some u) : H x = some u := out_le _ _ (z.base _ _ e)
theorem ok_bu (D : DefAt K mg "_law_built" s__law_built ["script", "head"]) (hlen : mg "len" = none) (hint : mg "int" = none) (G__law_stir : OkD P w K mg base 1 "_law_stir" ["cell", "k"] spStir) (G__law_goods : OkD P w K mg base 3 "_law_goods" ["head"] (spGd K)) (G__law_hand : OkD P w K mg base 3 "_law_hand" ["hands", "head", "opened"] (spHa K)) (G__law_row : OkD P w K mg base 9 "_law_row" ["cell", "k", "opened", "most"] (spRo K)) :
    OkD P w K mg base 10 "_law_built" ["script", "head"] (spBu K) := by
  refine D.ok sc__law_built (fun vs H Q E h => ?_) (fun fu cdv A outer s H vs Q E hr h => ?_)
  · obtain ⟨_, _, _, rfl, _⟩ := h; rfl
  obtain ⟨a, cs, head, rfl, sq, l63, q⟩ := h
  have big : 100000 ≤ sizeLine := by unfold sizeLine; decide
  have hu64 := hr.units
  refine ⟨_, (pss_cons (ps_asg (pe_def G__law_goods hr rfl (pa_c (pv 1) pa_nil)) (pg_lstG 2 rfl (pgs_cons (pg_name (i := 2) sc__law_built.nd rfl (Or.inl rfl)) (pgs_cons (pg_name (i := 3) sc__law_built.nd rfl (Or.inl rfl)) pgs_nil))))
  (pss_cons (ps_set (i := 4) sc__law_built.nd rfl (Or.inl rfl) (pe_lstG pa_nil))
  (pss_cons (ps_set (i := 5) sc__law_built.nd rfl (Or.inl rfl) (pe_lstG pa_nil))
  (pss_cons (ps_for PassesOwn.never rfl (pi_list (pe_slice sl_k (pv 0) po_none (po_some (pe_op op_mul pe_int (pe_cTy call_int1 rfl hint (by decide +kernel) (pa_c (pe_cmpR op_ne (pe_op op_mod (pe_def G__law_stir hr rfl (pa_c (pv 1) (pa_c pe_int pa_nil))) pe_int) pe_int (nomark _)) pa_nil)))))) (pg_name (i := 6) sc__law_built.nd rfl (Or.inl rfl))
  (pss_one (ps_up (ps_if (pt_cmpR (op_eqE hu64) (pv 5) (pe_lstG pa_nil) (nomark _))
  (pss_one (ps_expr (pe_appG (pv 2) (pe_def G__law_hand hr rfl (pa_c (pv 4) (pa_c (pv 1) (pa_c (pv 5) pa_nil)))))))
  (pss_one (ps_expr (pe_appG (pv 2) (pe_def G__law_row hr rfl (pa_c (pv 6) (pa_c (pe_op op_add (pe_cB call_lenG rfl hlen PySem.boot_len (pa_c (pv 2) pa_nil)) pe_int) (pa_c (pv 5) (pa_c (pe_cmpR op_lt (pe_cB call_lenG rfl hlen PySem.boot_len (pa_c (pv 4) pa_nil)) pe_int (nomark _)) pa_nil))))))))))))
  (pss_cons (ps_up (ps_if (pt_cmpR (op_eqE hu64) (pv 2) (pe_lstG pa_nil) (nomark _))
  (pss_one (ps_expr (pe_appG (pv 2) (pe_def G__law_hand hr rfl (pa_c (pv 4) (pa_c (pv 1) (pa_c (pv 5) pa_nil)))))))
  pss_nil))
  (pss_cons (ps_set (i := 2) sc__law_built.nd rfl (Or.inl rfl) (pe_op op_catG (pv 2) (pe_op op_repG (pe_lstG (pa_c pe_str pa_nil)) (pe_cB call_lenG rfl hlen PySem.boot_len (pa_c (pv 5) pa_nil)))))
  (pss_one (ps_ret (pe_lstG (pa_c (pv 2) (pa_c (pe_op op_catT (pv 3) (pe_tupG (pa_c (pv 4) pa_nil))) pa_nil))))))))))), ?_⟩
  walk_at "r2"
  refine ⟨head, rfl, fun p0 rw pt H1 rv tl sl rl g1 hp0 h1 hrw h1r lrv rpt gpt lpt => ?_⟩
  walk_at "r2"
  intro hs H2 hh2 g2 h2
  walk_at "r2"
  intro op H3 ho3 g3 h3
  have g13 := g1.trans (g2.trans g3)
  have sq3 := SqL.keep sq g13
  walk_at "r2"
  refine tfor_in ?_
  simp only [iList]
  walk_at "r2"
  refine ⟨head, 510, rfl, by decide, by decide, fun m e0 m0 m1 => ?_⟩
  clear e0
  walk_at "r2"
  have nrh : rw ≠ hs := fun e => by rw [← e, h1r] at hh2; cases hh2
  have nro : rw ≠ op := fun e => by rw [← e, g2 _ _ h1r] at ho3; cases ho3
  have nho : hs ≠ op := fun e => by rw [← e, h2] at ho3; cases ho3
  refine ⟨a, _, rfl, sq3, fun p4 H4 hp4 g4 h4 => ?_⟩
  obtain ⟨ds, eds, lds⟩ : ∃ ds : List Int, cutV (cs.map V.int) none (some (63 * if (!decide (m % 32 = 7)) = true then 1 else 0)) = ds.map V.int ∧ ds.length ≤ 63 := by
    unfold cutV
    rw [← List.map_drop, ← List.map_take]
    refine ⟨_, rfl, ?_⟩
    rw [List.length_take, List.length_drop]; omega
  rw [eds] at h4
  clear eds sq3
  have g24 := g2.trans (g3.trans g4)
  have r4 := g24 _ _ h1r
  have s4 := g4 _ _ (g3 _ _ h2)
  have o4 := g4 _ _ h3
  obtain ⟨Hb, eHb⟩ : ∃ Hb, Hb = frz rw hs op [] H4 := ⟨_, rfl⟩
  have ofb : ∀ x u, H4 x = some u → x ≠ rw → x ≠ hs → x ≠ op → Hb x = some u := fun x u e a b c => by
    rw [eHb]
    exact out_of (fun m => by
      rcases List.mem_cons.mp m with q | m
      · exact a q
      · rcases List.mem_cons.mp m with q | m
        · exact b q
        · rcases List.mem_cons.mp m with q | m
          · exact c q
          · cases m) e
  have hb4 : Hb p4 = some (.lst (ds.map V.int)) := ofb _ _ h4 (fun e => by rw [e, g3 _ _ (g2 _ _ h1r)] at hp4; cases hp4) (fun e => by rw [e, g3 _ _ h2] at hp4; cases hp4) (fun e => by rw [e, h3] at hp4; cases hp4)
  have oh1 : H1 op = none := g2.free ho3
  have sHb : Same H Hb := fun x u e => ofb _ _ (g24 _ _ (g1 _ _ e)) (fun z => by rw [z, hrw] at e; cases e) (fun z => by rw [z, g1.free hh2] at e; cases e) (fun z => by rw [z, g1.free oh1] at e; cases e)
  have rpb : Rp K Hb (.ref pt) (.tuple [.list (tl.map oneD), .list (sl.map oneD), .list (rl.map oneD)]) := rpt.mono fun x u e => by
    obtain ⟨n1, e⟩ := hide_inv e
    have e := (kp_inv e).2
    exact ofb _ _ (g24 _ _ e) n1 (fun z => by rw [z, hh2] at e; cases e) (fun z => by rw [z, oh1] at e; cases e)
  obtain ⟨no8, nd8⟩ := names_ok head (bF head) 8 (by decide)
  have z0 : ZI K Hb H4 (namesF head (bF head) 8) rw hs op rv [] [] [] 0 (rv.length : Int) := ⟨by
    show [rw, hs, op].Nodup
    simp [nrh, nro, nho], r4, s4, o4, trivial, by rw [eHb]; exact Same.refl _, trivial, .nil, (fun h hm => by cases hm), rfl, Nat.le_refl _, by simp, by simp [nmO], (fun _ => by simp), List.nodup_nil, (fun k h => by cases h)⟩
  clear rpt h1r h2 h3 r4 s4 o4 h4 h1 ofb eHb hp0 hrw hh2 ho3 hp4 oh1
  refine ⟨p4, rfl, ⟨_, SqL.of (sHb' z0 hb4)⟩, for_list (xs := ds.map V.int) (BuI K Hb (namesF head (bF head) 8) rw hs op rv.length [some (V.ref a), some (V.int head), some (V.ref rw), some (V.ref pt), some (V.ref hs), some (V.ref op)]) ⟨rv, [], [], [], none, z0, rfl, rfl⟩ (fun i σ H5 _ z => ?_) (fun i x σ H5 hx z => ?_) fun σ H5 z => ?_⟩
  · obtain ⟨_, _, _, _, _, z, _⟩ := z
    exact SqL.of (sHb' z hb4)
  · obtain ⟨rv', hv, hd, fs, v6, z, lr, rfl⟩ := z
    have hi : i < 63 := by have := (List.getElem?_eq_some_iff.mp hx).1; rw [List.length_map] at this; omega
    rw [List.getElem?_map] at hx
    obtain ⟨c, _, rfl⟩ := Option.map_eq_some_iff.mp hx
    cases fs with
    | nil =>
      walk_at "r2"
      refine ⟨BuI K Hb (namesF head (bF head) 8) rw hs op rv.length [some (V.ref a), some (V.int head), some (V.ref rw), some (V.ref pt), some (V.ref hs), some (V.ref op)] (i + 1), fun p6 H6 hp6 g6 h6 => ?_, fun σ' H' z => z⟩
      have z6 := z.same g6
      have hro := z6.rwa
      have hop : H6 op = some (.lst []) := z6.opa
      walk_at "r2"
      refine ite2 (fun _ => ?_) (fun h => absurd rfl h)
      walk_at "r2"
      refine ⟨hs, op, rw, head, Hb, rv', hv, hd, i, _, rfl, z6, fun H7 x7 g7 z7 => ?_⟩
      have hr7 := z7.rwa
      clear hro hop
      walk_at "r2"
      refine ⟨by omega, fun H8 mu => ?_⟩
      walk_at "r2"
      exact ⟨_, _, _, _, _, (z7.row mu).moreK (by rw [List.length_append, List.length_singleton]; omega), by rw [List.length_append, List.length_singleton]; omega, rfl⟩
    | cons f fs =>
      walk_at "r2"
      refine ⟨BuI K Hb (namesF head (bF head) 8) rw hs op rv.length [some (V.ref a), some (V.int head), some (V.ref rw), some (V.ref pt), some (V.ref hs), some (V.ref op)] (i + 1), fun p6 H6 hp6 g6 h6 => ?_, fun σ' H' z => z⟩
      have z6 := z.same g6
      have hro := z6.rwa
      obtain ⟨os, eos, ne⟩ : ∃ os, (((f :: fs).map fun f => V.ref f.o).reverse) = os ∧ os.isEmpty = false := ⟨_, rfl, by simp⟩
      have hop := z6.opa
      rw [eos] at hop
      obtain ⟨hl, ehl, lhl⟩ : ∃ hl, hv ++ topT (f :: fs) [] = hl ∧ hl.length = hd.length + 1 := ⟨_, rfl, by
        rw [List.length_append, z.hdc.len, List.length_map]
        show _ + (topT fs [.ref f.t]).length = _
        rw [topT_len]⟩
      have hho := z6.hsa
      rw [ehl] at hho
      clear eos ehl
      walk_at "r2"
      refine ⟨c, _, op, rw, hs, _, Hb, _, rv', hv, hd, f, fs, i, _, rfl, by omega, by omega, by omega, by omega, z6, fun h => ?_, fun H7 x7 hv7 hd7 fs7 z7 => ?_⟩
      · have := of_decide_eq_true h
        omega
      have hr7 := z7.rwa
      clear hro hop hho
      walk_at "r2"
      refine ⟨by omega, fun H8 mu => ?_⟩
      walk_at "r2"
      exact ⟨_, _, _, _, _, (z7.row mu).moreK (by rw [List.length_append, List.length_singleton]; omega), by rw [List.length_append, List.length_singleton]; omega, rfl⟩
  · obtain ⟨rv', hv, hd, fs, v6, z, lr, rfl⟩ := z
    rw [List.length_map] at lr z
    walk_at "r2"
    refine ⟨fun σ' H' => ∃ rv' hv hd fs, ZI K Hb H' (namesF head (bF head) 8) rw hs op rv' hv hd fs 70 100 ∧ rv'.length ≤ 70 ∧ σ' = [some (V.ref a), some (V.int head), some (V.ref rw), some (V.ref pt), some (V.ref hs), some (V.ref op), v6], fun p6 H6 hp6 g6 h6 => ?_, fun σ' H7 z => ?_⟩
    · have z6 := z.same g6
      have hro := z6.rwa
      walk_at "r2"
      refine ite2 (fun c1 => ?_) fun c1 => ?_
      · have e1 : rv' = [] := List.isEmpty_iff.mp c1
        subst e1
        rw [List.length_nil] at lr
        have ef : fs = [] := by
          have := z.cnt
          cases fs with
          | nil => rfl
          | cons f r => rw [cnts_cons] at this; unfold cntF at this; omega
        rw [ef] at z6
        clear c1
        walk_at "r2"
        refine ⟨hs, op, rw, head, Hb, [], hv, hd, ds.length, _, rfl, z6, fun H7 x7 g7 z7 => ?_⟩
        have hr7 := z7.rwa
        clear hro
        walk_at "r2"
        refine ⟨by omega, fun H8 mu => ?_⟩
        walk_at "r2"
        exact ⟨_, _, _, _, ((z7.row mu).more (by omega)).moreK (by simp), by simp, rfl⟩
      · exact ⟨rv', hv, hd, fs, (z6.more (by omega)).moreK (by omega), by omega, rfl⟩
    · obtain ⟨rv7, hv7, hd7, fs7, z7, l7, rfl⟩ := z
      walk_at "r2"
      intro p8 H8 hp8 g8 h8
      have z8 := z7.same g8
      obtain ⟨os, eos, los⟩ : ∃ os, ((fs7.map fun f => V.ref f.o).reverse) = os ∧ os.length ≤ 6 := ⟨_, rfl, by rw [List.length_reverse, List.length_map]; exact z7.lv⟩
      have hop := z8.opa
      rw [eos] at hop
      have hro := z8.rwa
      clear eos
      walk_at "r2"
      refine ⟨by omega, by omega, by simp; omega, fun p9 H9 hp9 g9 h9 => ?_⟩
      have hro9 := g9 _ _ hro
      have l9 : (List.replicate (os.length : Int).toNat [V.str (Str.ofString "end")]).flatten.length ≤ 6 := by simp; omega
      obtain ⟨en, een⟩ : ∃ en, (List.replicate (os.length : Int).toNat [V.str (Str.ofString "end")]).flatten = en := ⟨_, rfl⟩
      rw [een] at h9 l9
      clear een hop h8 hro
      walk_at "r2"
      refine ⟨by omega, fun p10 H10 hp10 g10 h10 => ?_⟩
      walk_at "r2"
      intro p11 H11 hp11 g11 h11
      have z11 := z8.same (g9.trans (g10.trans g11))
      obtain ⟨hd', rh, gh, nh, ch, lh, nmh, ksn⟩ := z11.fin (by decide) nd8
      have sb11 : Same Hb H11 := fun x u e => sHb' z11 e
      have rp11 := rpb.mono sb11
      cases rp11 with
      | tup hpt rr =>
        obtain ⟨va, _, rfl, ra, rr⟩ := rr.cons_inv
        obtain ⟨vb, _, rfl, rb, rr⟩ := rr.cons_inv
        obtain ⟨vc, _, rfl, rc, rr⟩ := rr.cons_inv
        cases rr
        refine ⟨pt, p11, _, _, rfl, rfl, SqT.of hpt, SqT.of h11, by simp, by simp; omega, (fun h => by cases h), fun _ p12 hp12 => ?_⟩
        have g12 : Same H11 (upd H11 p12 (.tup ([va, vb, vc] ++ [V.ref hs]))) := same_new hp12 _
        have u12 : upd H11 p12 (.tup ([va, vb, vc] ++ [V.ref hs])) p12 = some (.tup [va, vb, vc, V.ref hs]) := upd_same
        obtain ⟨H12, e12⟩ : ∃ H12, upd H11 p12 (.tup ([va, vb, vc] ++ [V.ref hs])) = H12 := ⟨_, rfl⟩
        rw [e12] at g12 u12 ⊢
        walk_at "r2"
        intro p13 H13 hp13 g13' h13
        have gA := g12.trans g13'
        refine q p13 _ _ H13 ⟨tl, sl, rl, hd'⟩ (sHb.trans (sb11.trans gA)) h13 (.tup (g13' _ _ u12) (.cons (ra.mono gA) (.cons (rb.mono gA) (.cons (rc.mono gA) (.cons (rh.mono gA) .nil))))) ⟨⟨?_, ?_, ?_, ?_⟩, ?_, fun h hm => (gh h hm).1, nh, (fun o ho => (gpt o ho).1), fun h hm => ⟨(gh h hm).2.1.ok.ok, (gh h hm).2.1.al, (gh h hm).2.1.len⟩⟩ ?_ ksn (fun o ho => (gpt o ho).2) nmh
        · show tl.length ≤ 100; omega
        · show sl.length ≤ 100; omega
        · show rl.length ≤ 100; omega
        · show hd'.length ≤ 100; omega
        · show (hd'.flatMap fun h => orB h.2.2).length ≤ 1000; omega
        · intro t ht
          obtain ⟨h, hm, ht⟩ := List.mem_flatMap.mp ht
          exact (gh h hm).2.2 t ht
end
end K14
set_option Elab.async false
set_option linter.all false
set_option maxRecDepth 100000
set_option maxHeartbeats 4000000
namespace K14
open PySem L2
theorem len_list (x : Str) : x.cps.toList.length = x.length := Array.length_toList
theorem stem_len (hd k : Int) : (stemF hd k).cps.toList.length = szF hd k := by
  rw [len_list]
  unfold stemF
  rw [PySem.W.KT.join_ones _ (fun a h => by unfold stL at h; obtain ⟨j, _, rfl⟩ := List.mem_map.mp h; rfl)]
  unfold stL
  rw [List.length_map, List.length_range]
theorem szF_pos (hd k : Int) : 1 ≤ szF hd k := by unfold szF; have := stirF_ge hd k; omega
theorem w1_codes {stem : Str} {sz : Nat} (hl : stem.cps.toList.length = sz) (h1 : 1 ≤ sz) (m : Int) : ∃ at' : Nat, at' < sz ∧ ((w1F stem sz m).cps.toList = stem.cps.toList.take (at' + 1) ∨ ∃ c, (w1F stem sz m).cps.toList = stem.cps.toList.take at' ++ c :: stem.cps.toList.drop (at' + 1)) := by
  have a0 : 0 ≤ m % (sz : Int) := Int.emod_nonneg _ (by omega)
  have a1 : m % (sz : Int) < sz := Int.emod_lt_of_pos _ (by omega)
  refine ⟨(m % (sz : Int)).toNat, by omega, ?_⟩
  obtain ⟨a, ea⟩ : ∃ a : Nat, m % (sz : Int) = (a : Int) := ⟨_, (Int.toNat_of_nonneg a0).symm⟩
  unfold w1F w0F
  rw [ea] at a1 ⊢
  rw [Int.toNat_natCast]
  split
  · left
    rw [show PySem.Txt.slice stem none (some ((a : Int) + 1)) = PySem.StrLaws.sliceText stem none (some ((a : Int) + 1)) from rfl, PySem.StrLaws.sliceText_to ⟨by omega, by omega⟩, List.drop_zero]
    congr 1
  · right
    refine ⟨97 + (m / 8 % 26).toNat, ?_⟩
    rw [show PySem.Txt.slice stem none (some (a : Int)) = PySem.StrLaws.sliceText stem none (some (a : Int)) from rfl, PySem.StrLaws.sliceText_to ⟨by omega, by omega⟩, List.drop_zero,
      show PySem.Txt.slice stem (some ((a : Int) + 1)) none = PySem.StrLaws.sliceText stem (some ((a : Int) + 1)) none from rfl, PySem.StrLaws.sliceText_from ⟨by omega, by omega⟩]
    show ((_ ++ _) ++ _ : Array Nat).toList = _
    rw [Array.toList_append, Array.toList_append, List.append_assoc]
    rw [List.take_of_length_le (l := stem.cps.toList.drop _) (by rw [List.length_drop]; omega)]
    rfl
theorem names_w1 (hd k : Int) (n : Nat) (h : n ≤ 8) : ∀ x ∈ namesF hd k n, x ∈ zz9 ∨ ∃ m, x = w1F (stemF hd k) (szF hd k) m := by
  induction n with
  | zero => intro x hx; cases hx
  | succ n ih =>
    intro x hx
    rcases List.mem_append.mp hx with hx | hx
    · exact ih (by omega) x hx
    · rw [List.mem_singleton.mp hx]
      unfold w2F
      split
      · left
        have zl := zz_len (l := namesF hd k n) (by rw [namesF_len]; omega)
        have hi : (stirF hd (k + 9 + (n : Int)) / 832 % 2).toNat < (zzF (namesF hd k n)).length := by omega
        rw [List.getD_eq_getElem?_getD, List.getElem?_eq_getElem hi]
        exact (List.mem_filter.mp (List.getElem_mem hi)).1
      · exact .inr ⟨_, rfl⟩
theorem no_both (hd k : Int) (n : Nat) (h : n ≤ 8) (hy : Str.ofString "nought" ∈ namesF hd k n) (hz : Str.ofString "zzzzzzzz" ∈ namesF hd k n) : False := by
  have z9 : ∀ x ∈ zz9, x.length = 3 := by decide +kernel
  have ly : (Str.ofString "nought").length = 6 := by decide +kernel
  have lz : (Str.ofString "zzzzzzzz").length = 8 := by decide +kernel
  have cy : (Str.ofString "nought").cps.toList = [110, 111, 117, 103, 104, 116] := by decide +kernel
  have cz : (Str.ofString "zzzzzzzz").cps.toList = [122, 122, 122, 122, 122, 122, 122, 122] := by decide +kernel
  have sl := stem_len hd k
  have sp := szF_pos hd k
  have s8 := szF_le hd k
  rcases names_w1 hd k n h _ hy with e | ⟨m1, e1⟩
  · have := z9 _ e; omega
  rcases names_w1 hd k n h _ hz with e | ⟨m2, e2⟩
  · have := z9 _ e; omega
  obtain ⟨a1, l1, c1⟩ := w1_codes sl sp m1
  obtain ⟨a2, l2, c2⟩ := w1_codes sl sp m2
  rw [← e1, cy] at c1
  rw [← e2, cz] at c2
  generalize (stemF hd k).cps.toList = S at sl c1 c2
  have hS : S.length = 8 ∧ (S[0]? = some 122 ∨ S[1]? = some 122) := by
    rcases c2 with c2 | ⟨c, c2⟩
    · have := congrArg List.length c2
      rw [List.length_take] at this
      have l8 : S.length = 8 := by simp at this; omega
      refine ⟨l8, .inl ?_⟩
      have q := congrArg (fun l => l[0]?) c2
      simp only [List.getElem?_take] at q
      rw [if_pos (by omega)] at q
      exact q.symm
    · have := congrArg List.length c2
      simp only [List.length_append, List.length_cons, List.length_take, List.length_drop, List.length_nil] at this
      have l8 : S.length = 8 := by omega
      refine ⟨l8, ?_⟩
      by_cases ha : a2 = 0
      · right
        have q := congrArg (fun l => l[1]?) c2
        subst ha
        simp only [List.take_zero, List.nil_append, List.getElem?_cons_succ, List.getElem?_drop] at q
        exact q.symm
      · left
        have q := congrArg (fun l => l[0]?) c2
        rw [List.getElem?_append_left (by rw [List.length_take]; omega), List.getElem?_take, if_pos (by omega)] at q
        exact q.symm
  obtain ⟨l8, hS⟩ := hS
  rcases c1 with c1 | ⟨c, c1⟩
  · have := congrArg List.length c1
    rw [List.length_take] at this
    have q0 := congrArg (fun l => l[0]?) c1
    have q1 := congrArg (fun l => l[1]?) c1
    simp only [List.getElem?_take] at q0 q1
    rw [if_pos (by omega)] at q0
    rw [if_pos (by simp at this; omega)] at q1
    rcases hS with e | e
    · rw [e] at q0; simp at q0
    · rw [e] at q1; simp at q1
  · have := congrArg List.length c1
    simp only [List.length_append, List.length_cons, List.length_take, List.length_drop, List.length_nil] at this
    omega
def others (g : Pg) : List Str := [Str.ofString "nought", Str.ofString "zzzzzzzz"] ++ ((nmL g).flatMap id)
theorem others_ne {g : Pg} {own : List Str} (h : ¬ (Str.ofString "nought" ∈ own ∧ Str.ofString "zzzzzzzz" ∈ own)) : ((others g).filter fun x => !decide (x ∈ own)) ≠ [] := by
  intro z
  have a : ∀ x ∈ others g, x ∈ own := fun x hx => by
    by_cases c : x ∈ own
    · exact c
    · have : x ∈ (others g).filter fun x => !decide (x ∈ own) := List.mem_filter.mpr ⟨hx, by simpa using c⟩
      rw [z] at this; cases this
  exact h ⟨a _ (by simp [others]), a _ (by simp [others])⟩
end K14
set_option Elab.async false
set_option linter.all false
set_option maxRecDepth 100000
set_option maxHeartbeats 4000000
namespace K14
open PySem L2
section
variable {P : Program} {w : World} {K : PySem.W.Frag} {mg : Str → Option Value} {base : Heap}
def spCell (K : PySem.W.Frag) : Sp := fun vs H Q _ => ∃ (a : Addr) (ns : List Int) (k : Nat), vs = [.ref a, .int (k : Nat)] ∧ SqL K H a (ns.map V.int) ∧ ∀ c : Int, Q (.int c) H
theorem ok_cell (D : DefAt K mg "_law_cell_at" s__law_cell_at ["script", "k"]) (hlen : mg "len" = none) : OkD P w K mg base 1 "_law_cell_at" ["script", "k"] (spCell K) := by
  refine D.ok sc__law_cell_at (fun vs H Q E h => ?_) (fun f cdv A outer s H vs Q E hr h => ?_)
  · obtain ⟨_, _, _, rfl, _⟩ := h; rfl
  obtain ⟨a, ns, k, rfl, hS, q⟩ := h
  refine ⟨_, (pss_cons (ps_if (pt_cmpR op_lt (pv 1) (pe_cB call_len_seq rfl hlen PySem.boot_len (pa_c (pv 0) pa_nil)) (nomark _))
  (pss_one (ps_ret (pe_ix ix_list (pv 0) (pv 1) (fun _ _ => rfl))))
  pss_nil)
  (pss_one (ps_ret pe_int))), ?_⟩
  walk_at "rz"
  refine ⟨_, .inl hS, ?_⟩
  walk_at "rz"
  refine ite2 (fun c => ?_) fun c => ?_
  · rw [List.length_map] at c
    have hk : k < ns.length := by omega
    walk_at "rz"
    exact ⟨_, hS, .int ns[k], atI_nat (j := k) (by rw [List.getElem?_map, List.getElem?_eq_getElem hk]; rfl), q _⟩
  · walk_at "rz"
def toldD (g : Pg) : PyData := .list [.list (flP g), .bool (flP g).isEmpty]
def spTo (K : PySem.W.Frag) : Sp := fun vs H Q _ => ∃ (r : Addr) (g : Pg), vs = [.ref r] ∧ Rp K H (.ref r) g.D ∧ g.Ok ∧ ∀ (v : V) (H' : Hp), Same H H' → Rp K H' v (toldD g) → Q v H'
theorem ok_to (D : DefAt K mg "_law_told" s__law_told ["program"]) (hisinstance : mg "isinstance" = none) (hbool : mg "bool" = none) (G__law_copied : OkD P w K mg base 62 "_law_copied" ["thing"] (spCo K 61))
    (G_faults : OkD P w K mg base 11 "faults" ["program"] (spFp K)) (G_sound : OkD P w K mg base 12 "sound" ["program"] (spSo K)) : OkD P w K mg base 63 "_law_told" ["program"] (spTo K) := by
  refine D.ok sc__law_told (fun vs H Q E h => ?_) (fun f cdv A outer s H vs Q E hr h => ?_)
  · obtain ⟨_, _, rfl, _⟩ := h; rfl
  obtain ⟨r, g, rfl, rp, ok, q⟩ := h
  have big : 100000 ≤ sizeLine := by unfold sizeLine; decide
  have hu64 := hr.units
  have lay := ok.lay
  have shD : SeqAt.shaped g.D = true := dg_sh lay (by omega)
  have eqD : PyData.eqv g.D g.D = true := SeqAt.eqv_refl _ lay.1
  have dep : g.D.depth < 61 := Nat.lt_succ_of_le lay.2.1
  refine ⟨_, (pss_cons (ps_set (i := 1) sc__law_told.nd rfl (Or.inl rfl) (pe_def G__law_copied hr rfl (pa_c (pv 0) pa_nil)))
  (pss_cons (ps_set (i := 2) sc__law_told.nd rfl (Or.inl rfl) (pe_def G_faults hr rfl (pa_c (pv 1) pa_nil)))
  (pss_cons (ps_set (i := 3) sc__law_told.nd rfl (Or.inl rfl) (pe_def G__law_copied hr rfl (pa_c (pv 0) pa_nil)))
  (pss_cons (ps_set (i := 4) sc__law_told.nd rfl (Or.inl rfl) (pe_def G_sound hr rfl (pa_c (pv 3) pa_nil)))
  (pss_cons (ps_if (PW.pt (pw_or (pt_cmpR (op_neD hu64) (pv 1) (pv 0) (nomark _)) (pw_or (pt_cmpR (op_neD hu64) (pv 3) (pv 0) (nomark _)) (pw_or1 (pt_not (pt_val (pe_cB (id := "isinstance") (r := rIsiG K) call_isinstG rfl hisinstance (by decide +kernel) (pa_c (pv 4) (pa_c (pe_type (n := "bool") (T := "bool") rfl hbool (by decide +kernel)) pa_nil)))))))))
  (pss_one (ps_ret pe_non))
  pss_nil)
  (pss_one (ps_ret (pe_lstG (pa_c (pv 2) (pa_c (pv 4) pa_nil)))))))))), ?_⟩
  walk_at "r2"
  refine ⟨.ref r, g.D, rfl, rp, dep, lay.2.2, fun v1 H1 g1 r1 => ?_⟩
  obtain ⟨p1, rfl⟩ : ∃ p1, v1 = .ref p1 := by cases r1 with | tup _ _ => exact ⟨_, rfl⟩
  walk_at "r2"
  refine ⟨p1, g, rfl, r1.mono kp_le, ok, fun fo H2 ys hf2 g2 h2 r2 => ?_⟩
  have g12 := g1.trans g2
  walk_at "r2"
  refine ⟨.ref r, g.D, rfl, rp.mono g12, dep, lay.2.2, fun v3 H3 g3 r3 => ?_⟩
  obtain ⟨p3, rfl⟩ : ∃ p3, v3 = .ref p3 := by cases r3 with | tup _ _ => exact ⟨_, rfl⟩
  walk_at "r2"
  refine ⟨p3, g, rfl, r3.mono kp_le, ok, fun H4 g4 => ?_⟩
  have g24 := g3.trans g4
  walk_at "r2"
  refine ⟨_, _, r1.mono (kp_le.trans (g2.trans g24)), rp.mono (g12.trans g24), shD, shD, ?_⟩
  rw [eqD]
  walk_at "r2"
  refine ⟨_, _, r3.mono (kp_le.trans g4), rp.mono (g12.trans g24), shD, shD, ?_⟩
  rw [eqD]
  walk_at "r2"
  intro p5 H5 hp5 g5 h5
  have g25 := g24.trans g5
  exact q _ H5 (g12.trans g25) (.lst h5 (.cons (.lst (g25 _ _ h2) (r2.mono g25)) (.cons (.bl _) .nil)))
mutual
def exS (k : Int) (n : Sm) : Sm → Sm
  | .pl w j r => if j = k then n else .pl w j r
  | .nm w j x e => if j = k then n else .nm w j x e
  | .dr j a x => if j = k then n else .dr j a x
  | .st j x es => if j = k then n else .st j x es
  | .wh j sg a b u => if j = k then n else .wh j sg a b (exB k n u)
  | .fi j sg a b u v => if j = k then n else .fi j sg a b (exB k n u) (exB k n v)
def exB (k : Int) (n : Sm) : Bd → Bd
  | .nil => .nil
  | .cons s r => .cons (exS k n s) (exB k n r)
end
end
end K14
set_option Elab.async false
set_option linter.all false
set_option maxRecDepth 100000
set_option maxHeartbeats 4000000
namespace K14
open PySem L2
theorem exS_eq {k : Int} {n s : Sm} (h : kS s = k) : exS k n s = n := by
  cases s <;> simp only [kS] at h <;> simp only [exS, if_pos h]
theorem fl_leaf {N : Nms} {n : Sm} (h : orS n = [n]) : flW N n = [] := by
  rw [← flW_subs]
  rw [orS_subs] at h
  have e := (List.cons.inj h).2
  cases n with
  | wh k sg a b u =>
    simp only [subs, List.flatMap_cons, List.flatMap_nil, List.append_nil] at e ⊢
    rw [← fl_orB, e]; rfl
  | fi k sg a b u v =>
    simp only [subs, List.flatMap_cons, List.flatMap_nil, List.append_nil] at e ⊢
    obtain ⟨e1, e2⟩ := List.append_eq_nil_iff.mp e
    rw [← fl_orB, ← fl_orB, e1, e2]; rfl
  | _ => rfl
def pickN (N : Nms) (k : Int) (n t : Sm) : List PyData := if kS t = k then flS N n else flS N t
mutual
theorem fl_exS (N : Nms) (k : Int) {n : Sm} (hn : orS n = [n]) : ∀ s : Sm, (∀ t ∈ orS s, kS t = k → orS t = [t]) → flS N (exS k n s) ++ flW N (exS k n s) = (orS s).flatMap (pickN N k n)
  | .pl w j r, _ => by
    by_cases c : j = k
    · simp only [exS, if_pos c, orS, List.flatMap_cons, List.flatMap_nil, fl_leaf hn]; rw [show pickN N k n (.pl w j r) = flS N n from if_pos c]
    · simp only [exS, if_neg c, orS, List.flatMap_cons, List.flatMap_nil, flW]; rw [show pickN N k n (.pl w j r) = flS N (.pl w j r) from if_neg c]
  | .nm w j x e, _ => by
    by_cases c : j = k
    · simp only [exS, if_pos c, orS, List.flatMap_cons, List.flatMap_nil, fl_leaf hn]; rw [show pickN N k n (.nm w j x e) = flS N n from if_pos c]
    · simp only [exS, if_neg c, orS, List.flatMap_cons, List.flatMap_nil, flW]; rw [show pickN N k n (.nm w j x e) = flS N (.nm w j x e) from if_neg c]
  | .dr j a x, _ => by
    by_cases c : j = k
    · simp only [exS, if_pos c, orS, List.flatMap_cons, List.flatMap_nil, fl_leaf hn]; rw [show pickN N k n (.dr j a x) = flS N n from if_pos c]
    · simp only [exS, if_neg c, orS, List.flatMap_cons, List.flatMap_nil, flW]; rw [show pickN N k n (.dr j a x) = flS N (.dr j a x) from if_neg c]
  | .st j x es, _ => by
    by_cases c : j = k
    · simp only [exS, if_pos c, orS, List.flatMap_cons, List.flatMap_nil, fl_leaf hn]; rw [show pickN N k n (.st j x es) = flS N n from if_pos c]
    · simp only [exS, if_neg c, orS, List.flatMap_cons, List.flatMap_nil, flW]; rw [show pickN N k n (.st j x es) = flS N (.st j x es) from if_neg c]
  | .wh j sg a b u, h => by
    by_cases c : j = k
    · have e := h (.wh j sg a b u) (by simp [orS]) c
      rw [e]
      simp only [exS, if_pos c, List.flatMap_cons, List.flatMap_nil, fl_leaf hn]; rw [show pickN N k n (.wh j sg a b u) = flS N n from if_pos c]
    · have ih := fl_exB N k hn u fun t ht => h t (by simp only [orS]; exact List.mem_cons_of_mem _ ht)
      simp only [exS, if_neg c, orS, List.flatMap_cons, flW]
      rw [show pickN N k n (.wh j sg a b u) = [] from if_neg c]
      simp only [flS, List.nil_append]
      exact ih
  | .fi j sg a b u v, h => by
    by_cases c : j = k
    · have e := h (.fi j sg a b u v) (by simp [orS]) c
      rw [e]
      simp only [exS, if_pos c, List.flatMap_cons, List.flatMap_nil, fl_leaf hn]; rw [show pickN N k n (.fi j sg a b u v) = flS N n from if_pos c]
    · have ih := fl_exB N k hn u fun t ht => h t (by simp only [orS]; exact List.mem_cons_of_mem _ (List.mem_append_left _ ht))
      have ih2 := fl_exB N k hn v fun t ht => h t (by simp only [orS]; exact List.mem_cons_of_mem _ (List.mem_append_right _ ht))
      simp only [exS, if_neg c, orS, List.flatMap_cons, List.flatMap_append, flW]
      rw [show pickN N k n (.fi j sg a b u v) = [] from if_neg c]
      simp only [flS, List.nil_append, ih, ih2]
theorem fl_exB (N : Nms) (k : Int) {n : Sm} (hn : orS n = [n]) : ∀ b : Bd, (∀ t ∈ orB b, kS t = k → orS t = [t]) → flB N (exB k n b) = (orB b).flatMap (pickN N k n)
  | .nil, _ => by simp only [exB, flB, orB, List.flatMap_nil]
  | .cons s r, h => by
    have ih := fl_exS N k hn s fun t ht => h t (by simp only [orB]; exact List.mem_append_left _ ht)
    have ih2 := fl_exB N k hn r fun t ht => h t (by simp only [orB]; exact List.mem_append_right _ ht)
    simp only [exB, flB, orB, List.flatMap_append, ih, ih2]
end
mutual
theorem ok_exS (k : Int) {n : Sm} (hn : ∀ m, SmOk n m) : ∀ (s : Sm) (m : Nat), SmOk s m → SmOk (exS k n s) m
  | .pl w j r, m, h => by
    by_cases c : j = k
    · simp only [exS, if_pos c]; exact hn m
    · simp only [exS, if_neg c]; exact h
  | .nm w j x e, m, h => by
    by_cases c : j = k
    · simp only [exS, if_pos c]; exact hn m
    · simp only [exS, if_neg c]; exact h
  | .dr j a x, m, h => by
    by_cases c : j = k
    · simp only [exS, if_pos c]; exact hn m
    · simp only [exS, if_neg c]; exact h
  | .st j x es, m, h => by
    by_cases c : j = k
    · simp only [exS, if_pos c]; exact hn m
    · simp only [exS, if_neg c]; exact h
  | .wh j sg a b u, m, h => by
    by_cases c : j = k
    · simp only [exS, if_pos c]; exact hn m
    · simp only [exS, if_neg c]
      simp only [SmOk] at h ⊢
      obtain ⟨h1, h2, h3, i, e, o⟩ := h
      exact ⟨h1, h2, h3, i, e, ok_exB k hn u i o⟩
  | .fi j sg a b u v, m, h => by
    by_cases c : j = k
    · simp only [exS, if_pos c]; exact hn m
    · simp only [exS, if_neg c]
      simp only [SmOk] at h ⊢
      obtain ⟨h1, h2, h3, i, e, o, o2⟩ := h
      exact ⟨h1, h2, h3, i, e, ok_exB k hn u i o, ok_exB k hn v i o2⟩
theorem ok_exB (k : Int) {n : Sm} (hn : ∀ m, SmOk n m) : ∀ (b : Bd) (m : Nat), BdOk b m → BdOk (exB k n b) m
  | .nil, m, _ => by simp only [exB, BdOk]
  | .cons s r, m, h => by
    simp only [exB, BdOk] at h ⊢
    exact ⟨ok_exS k hn s m h.1, ok_exB k hn r m h.2⟩
end
mutual
theorem cn_exS (k : Int) {n : Sm} (hn : orS n = [n]) : ∀ s : Sm, (orS (exS k n s)).length ≤ (orS s).length
  | .pl w j r => by
    by_cases c : j = k
    · simp only [exS, if_pos c, hn, orS, List.length_singleton]; exact Nat.le_refl _
    · simp only [exS, if_neg c]; exact Nat.le_refl _
  | .nm w j x e => by
    by_cases c : j = k
    · simp only [exS, if_pos c, hn, orS, List.length_singleton]; exact Nat.le_refl _
    · simp only [exS, if_neg c]; exact Nat.le_refl _
  | .dr j a x => by
    by_cases c : j = k
    · simp only [exS, if_pos c, hn, orS, List.length_singleton]; exact Nat.le_refl _
    · simp only [exS, if_neg c]; exact Nat.le_refl _
  | .st j x es => by
    by_cases c : j = k
    · simp only [exS, if_pos c, hn, orS, List.length_singleton]; exact Nat.le_refl _
    · simp only [exS, if_neg c]; exact Nat.le_refl _
  | .wh j sg a b u => by
    by_cases c : j = k
    · simp only [exS, if_pos c, hn, orS, List.length_cons, List.length_nil]; omega
    · simp only [exS, if_neg c, orS, List.length_cons]
      have := cn_exB k hn u
      omega
  | .fi j sg a b u v => by
    by_cases c : j = k
    · simp only [exS, if_pos c, hn, orS, List.length_cons, List.length_nil]; omega
    · simp only [exS, if_neg c, orS, List.length_cons, List.length_append]
      have := cn_exB k hn u
      have := cn_exB k hn v
      omega
theorem cn_exB (k : Int) {n : Sm} (hn : orS n = [n]) : ∀ b : Bd, (orB (exB k n b)).length ≤ (orB b).length
  | .nil => by simp only [exB]; exact Nat.le_refl _
  | .cons s r => by
    simp only [exB, orB, List.length_append]
    have := cn_exS k hn s
    have := cn_exB k hn r
    omega
end
theorem one_met {N : Nms} {k : Int} {n : Sm} {F : List PyData} (hF : flS N n = F) {l : List Sm} (fl : ∀ t ∈ l, flS N t = []) (nd : (l.map kS).Nodup) : l.flatMap (pickN N k n) = if k ∈ l.map kS then F else [] := by
  induction l with
  | nil => rfl
  | cons t l ih =>
    rw [List.map_cons, List.nodup_cons] at nd
    have ih := ih (fun x hx => fl x (List.mem_cons_of_mem _ hx)) nd.2
    rw [List.flatMap_cons, ih]
    unfold pickN
    by_cases c : kS t = k
    · have c1 : ¬ k ∈ l.map kS := by rw [← c]; exact nd.1
      have c2 : k ∈ (t :: l).map kS := by rw [List.map_cons, c]; exact List.mem_cons_self ..
      rw [if_pos c, hF, if_neg c1, if_pos c2, List.append_nil]
    · rw [if_neg c, fl t (List.mem_cons_self ..), List.nil_append]
      by_cases d : k ∈ l.map kS
      · have d2 : k ∈ (t :: l).map kS := List.mem_cons_of_mem _ d
        rw [if_pos d, if_pos d2]
      · have d2 : ¬ k ∈ (t :: l).map kS := fun z => by
          rcases List.mem_cons.mp z with e | e
          · exact c e.symm
          · exact d e
        rw [if_neg d, if_neg d2]
theorem nodup_inj {l : List Sm} (nd : (l.map kS).Nodup) {a b : Sm} (ha : a ∈ l) (hb : b ∈ l) (e : kS a = kS b) : a = b := by
  induction l with
  | nil => cases ha
  | cons x l ih =>
    rw [List.map_cons, List.nodup_cons] at nd
    rcases List.mem_cons.mp ha with h1 | h1 <;> rcases List.mem_cons.mp hb with h2 | h2
    · rw [h1, h2]
    · exact absurd (List.mem_map.mpr ⟨b, h2, by rw [← e, h1]⟩) nd.1
    · exact absurd (List.mem_map.mpr ⟨a, h1, by rw [e, h2]⟩) nd.1
    · exact ih nd.2 h1 h2
def exP (k : Int) (n : Sm) (g : Pg) : Pg := { g with h := g.h.map fun h => (h.1, h.2.1, exB k n h.2.2) }
theorem exP_N (k : Int) (n : Sm) (g : Pg) : (exP k n g).N = g.N := by
  unfold exP Pg.N hnN
  rw [List.map_map]; rfl
theorem exP_fl {g : Pg} {n s : Sm} {F : List PyData} (hn : orS n = [n]) (hF : flS g.N n = F) (ms : s ∈ orP g) (os : orS s = [s]) (fl : flP g = []) (nd : ((orP g).map kS).Nodup) : flP (exP (kS s) n g) = F := by
  have fl0 : ∀ t ∈ orP g, flS g.N t = [] := fun t ht => by
    rw [flP_or] at fl
    exact List.flatMap_eq_nil_iff.mp fl t ht
  have leaf : ∀ t ∈ orP g, kS t = kS s → orS t = [t] := fun t ht e => by
    have : t = s := nodup_inj nd ht ms e
    rw [this]; exact os
  have e1 : flP (exP (kS s) n g) = (orP g).flatMap (pickN g.N (kS s) n) := by
    unfold flP
    rw [exP_N]
    show (g.h.map fun h => (h.1, h.2.1, exB (kS s) n h.2.2)).flatMap (fun h => flB g.N h.2.2) = _
    rw [List.flatMap_map]
    unfold orP at leaf ⊢
    rw [List.flatMap_assoc]
    have : ∀ l : List Hd, (∀ h ∈ l, ∀ t ∈ orB h.2.2, kS t = kS s → orS t = [t]) → l.flatMap (fun h => flB g.N (exB (kS s) n h.2.2)) = l.flatMap fun h => (orB h.2.2).flatMap (pickN g.N (kS s) n) := fun l => by
      induction l with
      | nil => intro _; rfl
      | cons h l ih =>
        intro q
        rw [List.flatMap_cons, List.flatMap_cons, ih fun h' hm => q h' (List.mem_cons_of_mem _ hm), fl_exB g.N (kS s) hn h.2.2 (q h (List.mem_cons_self ..))]
    exact this g.h fun h hm t ht => leaf t (List.mem_flatMap.mpr ⟨h, hm, ht⟩)
  rw [e1, one_met hF fl0 nd, if_pos (List.mem_map.mpr ⟨s, ms, rfl⟩)]
theorem exP_ok {g : Pg} (gk : g.Ok) {k : Int} {n : Sm} (ok : SmOk n 0) (hn : orS n = [n]) : (exP k n g).Ok := by
  refine ⟨⟨gk.sz.t, gk.sz.s, gk.sz.r, by show (g.h.map _).length ≤ 100; rw [List.length_map]; exact gk.sz.h⟩, ?_, fun h hm => ?_, ?_, gk.ot, fun h hm => ?_⟩
  · refine Nat.le_trans ?_ gk.cnt
    unfold orP
    show ((g.h.map fun h => (h.1, h.2.1, exB k n h.2.2)).flatMap fun h => orB h.2.2).length ≤ _
    rw [List.flatMap_map]
    induction g.h with
    | nil => exact Nat.le_refl _
    | cons h l ih =>
      rw [List.flatMap_cons, List.flatMap_cons, List.length_append, List.length_append]
      exact Nat.add_le_add (cn_exB k hn h.2.2) ih
  · obtain ⟨h', hm', rfl⟩ := List.mem_map.mp hm
    exact ok_exB k (fun m => ok_up ok) _ _ (gk.hb h' hm')
  · show ((g.h.map fun h => (h.1, h.2.1, exB k n h.2.2)).map (·.1)).Nodup
    rw [List.map_map]; exact gk.nd
  · obtain ⟨h', hm', rfl⟩ := List.mem_map.mp hm
    exact gk.hn h' hm'
end K14
set_option Elab.async false
set_option linter.all false
set_option maxRecDepth 100000
set_option maxHeartbeats 4000000
namespace K14
open PySem L2
theorem sm_sh {s : Sm} {n : Nat} (ok : SmOk s n) : (∃ wd h3 m, wd ∈ ifW ∧ n = m + 1 ∧ h3.length = 3 ∧ 0 < (subs s).length ∧ smD s = .tuple (.str wd :: .int (kS s) :: h3 ++ bds (subs s)) ∧ ∀ (k : Int) (z : Sm), kS s ≠ k → smD (exS k z s) = .tuple (.str wd :: .int (kS s) :: h3 ++ bds ((subs s).map (exB k z)))) ∨
    (∃ wd r, wd ∉ ifW ∧ smD s = .tuple (.str wd :: .int (kS s) :: r) ∧ ∀ (k : Int) (z : Sm), kS s ≠ k → exS k z s = s) := by
  have w1 : ∀ x ∈ plW ++ (tkW ++ ptW) ++ ([Str.ofString "draw", Str.ofString "start"] : List Str), x ∉ ifW := by with_unfolding_all decide
  cases s with
  | pl w k r => simp only [SmOk] at ok; exact .inr ⟨_, _, w1 w (by simp [ok.1]), by unfold smD; rfl, fun k z h => by simp only [kS] at h; simp only [exS, if_neg h]⟩
  | nm w k x e => simp only [SmOk] at ok; exact .inr ⟨_, _, w1 w (by rcases ok.1 with z | z <;> simp [z]), by unfold smD; rfl, fun k z h => by simp only [kS] at h; simp only [exS, if_neg h]⟩
  | dr k a x => exact .inr ⟨Str.ofString "draw", _, w1 _ (by simp), by unfold smD; rfl, fun k z h => by simp only [kS] at h; simp only [exS, if_neg h]⟩
  | st k x es => exact .inr ⟨Str.ofString "start", _, w1 _ (by simp), by unfold smD; rfl, fun k z h => by simp only [kS] at h; simp only [exS, if_neg h]⟩
  | wh k sg a b u =>
    simp only [SmOk] at ok
    obtain ⟨h1, h2, h3, m, rfl, o⟩ := ok
    exact .inl ⟨Str.ofString "while", [sg, a, b], m, by simp [ifW], rfl, rfl, by simp [subs], by unfold smD; rfl, fun k z h => by simp only [kS] at h; simp only [exS, if_neg h]; unfold smD; rfl⟩
  | fi k sg a b u v =>
    simp only [SmOk] at ok
    obtain ⟨h1, h2, h3, m, rfl, o⟩ := ok
    exact .inl ⟨Str.ofString "if", [sg, a, b], m, by simp [ifW], rfl, rfl, by simp [subs], by unfold smD; rfl, fun k z h => by simp only [kS] at h; simp only [exS, if_neg h]; unfold smD; rfl⟩
theorem toL_ex (k : Int) (z : Sm) (b : Bd) : toL (exB k z b) = (toL b).map (exS k z) := by
  have : ∀ (l : List Sm) (b : Bd), toL b = l → toL (exB k z b) = l.map (exS k z) := fun l => by
    induction l with
    | nil => intro b e; cases b with
      | nil => simp only [exB]; exact e
      | cons s r => cases e
    | cons x l ih => intro b e; cases b with
      | nil => cases e
      | cons s r =>
        obtain ⟨e1, e2⟩ := List.cons.inj e
        simp only [exB]
        show exS k z s :: toL (exB k z r) = _
        rw [ih r e2, e1]; rfl
  exact this _ b rfl
section
variable {P : Program} {w : World} {K : PySem.W.Frag} {mg : Str → Option Value} {base : Heap}
def XcP (K : PySem.W.Frag) (k : Int) (z : Sm) (H0 H : Hp) (us : List Bd) (vp vh : Option V) (D : Addr) (i : Nat) (ys : List V) (σ1 : St) (H' : Hp) : Prop := RpL K (hide D (kp H0 H H')) ys (bds ((us.take i).map (exB k z))) ∧ ∃ v0, σ1 = [v0, vp, vh]
def XbI (K : PySem.W.Frag) (k : Int) (z : Sm) (H0 H : Hp) (b : Addr) (l : List Sm) (σ0 : St) (i : Nat) (σ : St) (H' : Hp) : Prop := ∃ zs, ∃ v4, Same H H' ∧ H' b = some (.lst zs) ∧ RpL K (hide b (kp H0 H H')) zs ((l.take i).map fun s => smD (exS k z s)) ∧ σ = σ0 ++ [v4]
def spXc (K : PySem.W.Frag) (n : Nat) : Sp := fun vs H Q _ => ∃ (b o c : Addr) (bd : Bd) (m : Nat) (s z : Sm) (H0 : Hp), vs = [.ref b, .ref o, .ref c] ∧ Same H0 H ∧ Rp K H0 (.ref b) (.list (bdD bd)) ∧ BdOk bd m ∧ m < n ∧ (orB bd).length ≤ 1000 ∧ Rp K H0 (.ref o) (smD s) ∧ (∃ i, SmOk s i) ∧ Rp K H0 (.ref c) (smD z) ∧
  ∀ (r : V) (H' : Hp), Same H H' → Rp K (kp H0 H H') r (.list (bdD (exB (kS s) z bd))) → Q r H'
theorem sm_cell {K : PySem.W.Frag} {H : Hp} {o : Addr} {s : Sm} {i : Nat} (ok : SmOk s i) (r : Rp K H (.ref o) (smD s)) : ∃ wd ts, H o = some (.tup (.str wd :: .int (kS s) :: ts)) := by
  rcases sm_sh ok with ⟨wd, h3, m, _, _, _, _, e, _⟩ | ⟨wd, r', _, e, _⟩
  all_goals
    rw [e] at r
    obtain ⟨o', ts, e1, a1, a2⟩ := r.tup_inv
    cases e1
    cases a2 with | cons a2 a3 =>
    cases a3 with | cons a3 a4 =>
    cases a2; cases a3
    exact ⟨_, _, a1⟩
theorem ok_xc (D : DefAt K mg "_law_exchanged" s__law_exchanged ["body", "old", "new"]) (htuple : mg "tuple" = none) : ∀ n : Nat, OkD P w K mg base (n + 2) "_law_exchanged" ["body", "old", "new"] (spXc K n) := by
  intro n
  induction n with
  | zero => exact D.never _ fun vs H Q E h => by obtain ⟨_, _, _, _, _, _, _, _, _, _, _, _, h, _⟩ := h; omega
  | succ n G__law_exchanged =>
  refine D.ok sc__law_exchanged (fun vs H Q E h => ?_) (fun f cdv A outer s H vs Q E hr h => ?_)
  · obtain ⟨_, _, _, _, _, _, _, _, rfl, _⟩ := h; rfl
  obtain ⟨b, o, c, bd, m, so, z, H0, rfl, g0, rb, ok, hm, hc, ro, ⟨io, oo⟩, rz0, q⟩ := h
  have big : 100000 ≤ sizeLine := by unfold sizeLine; decide
  refine ⟨_, (pss_cons (ps_set (i := 3) sc__law_exchanged.nd rfl (Or.inl rfl) (pe_lstG pa_nil))
  (pss_cons (ps_for PassesOwn.never rfl (pi_list (pv 0)) (pg_name (i := 4) sc__law_exchanged.nd rfl (Or.inl rfl))
  (pss_one (ps_if (pt_cmpR op_eq (pe_ix ix_g (pv 4) pe_int (fun _ _ => rfl)) (pe_ix ix_g (pv 1) pe_int (fun _ _ => rfl)) (nomark _))
  (pss_one (ps_expr (pe_appG (pv 3) (pv 2))))
  (pss_one (ps_if (pt_cmpR op_inG (pe_ix ix_g (pv 4) pe_int (fun _ _ => rfl)) (pe_lstG (pa_c pe_str (pa_c pe_str pa_nil))) (by with_unfolding_all rfl))
  (pss_one (ps_expr (pe_appG (pv 3) (pe_op op_catT (pe_slice sl_g (pv 4) po_none (po_some pe_int)) (pe_cTy call_tupL rfl htuple (by decide +kernel) (pa_c (pe_compN (comp_scopeN 1 (N := ["part", "old", "new"]) (cap := [1, 2]) rfl rfl rfl rfl (by decide +kernel) rfl rfl rfl) rfl (pi_tup (pe_slice sl_g (pv 4) (po_some pe_int) po_none)) (fun _ _ _ _ => (pg_name (i := 0) (show List.Nodup (α := Str) ["part", "old", "new"] by decide +kernel) rfl (Or.inl (lookup_relabel_local rfl)) (Or.inr (lookup_relabel_local rfl)))) (fun _ _ _ _ => pts_nil) (fun _ _ _ _ => (pe_def G__law_exchanged hr rfl (pa_c (pv 0) (pa_c (pv 1) (pa_c (pv 2) pa_nil)))))) pa_nil))))))
  (pss_one (ps_expr (pe_appG (pv 3) (pv 4)))))))))
  (pss_one (ps_ret (pv 3))))), ?_⟩
  rw [bdD_toL] at rb q
  rw [toL_ex] at q
  rw [ok_toL] at ok
  rw [orB_toL] at hc
  generalize toL bd = l at rb ok q hc
  obtain ⟨_, xs, e, hb0, rl⟩ := rb.lst_inv
  cases e
  have hb := g0 _ _ hb0
  obtain ⟨wo, to, ho⟩ := sm_cell oo (ro.mono g0)
  have ll := rl.len
  rw [List.length_map] at ll
  have l1000 := len_orS l
  walk_at "r2"
  intro b1 H1 hb1 g1 h1
  have h0b : H0 b1 = none := g0.free hb1
  walk_at "r2"
  refine tfor_in ?_
  simp only [iList]
  walk_at "r2"
  refine ⟨⟨_, SqL.of (g1 _ _ hb)⟩, for_list (xs := xs) (XbI K (kS so) z H0 H b1 l [some (.ref b), some (.ref o), some (.ref c), some (.ref b1)]) ⟨[], _, g1, h1, .nil, rfl⟩ (fun i σ H2 _ z => ?_) (fun i x σ H2 hx z1 => ?_) fun σ H2 z1 => ?_⟩
  · obtain ⟨_, _, z, _⟩ := z
    exact SqL.of (z _ _ hb)
  · obtain ⟨zs, v4, g2, h2, rz, rfl⟩ := z1
    obtain ⟨d, hd', rd⟩ := rl.get hx
    rw [List.getElem?_map] at hd'
    obtain ⟨sm, hs, rfl⟩ := Option.map_eq_some_iff.mp hd'
    have mem := List.mem_of_getElem? hs
    have oks := ok sm mem
    have hil : i < l.length := (List.getElem?_eq_some_iff.mp hs).1
    clear h1
    have lzs := rz.len
    rw [List.length_map, List.length_take] at lzs
    have fin : ∀ (H4 : Hp) (r : V) (H5 : Hp), Same H2 H4 → Rp K (kp H0 H2 H4) r (smD (exS (kS so) z sm)) → Mu H4 b1 (.lst (zs ++ [r])) H5 → ∀ v4, XbI K (kS so) z H0 H b1 l [some (.ref b), some (.ref o), some (.ref c), some (.ref b1)] (i + 1) [some (.ref b), some (.ref o), some (.ref c), some (.ref b1), v4] H5 := fun H4 r H5 g4 rs' mu v4 => by
      refine ⟨_, v4, mu.same (g2.trans g4) hb1, mu.at_, ?_, rfl⟩
      rw [List.take_add_one, hs, List.map_append]
      exact RpL.app (.cons (rs'.mono (kp_item g2 h0b h2 mu)) .nil) (rz.mono (kp_own g4 mu))
    simp only [List.cons_append, List.nil_append]
    obtain ⟨xp, rfl⟩ : ∃ xp, x = .ref xp := by
      rcases sm_sh oks with ⟨wd, h3, m, _, _, _, _, e, _⟩ | ⟨wd, r', _, e, _⟩
      all_goals
        rw [e] at rd
        obtain ⟨xp, ts, rfl, _, _⟩ := rd.tup_inv
        exact ⟨_, rfl⟩
    obtain ⟨wd, ts, hxp⟩ := sm_cell oks rd
    have hx2 := g2 _ _ (g0 _ _ hxp)
    have ho2 := g2 _ _ ho
    walk_at "r2"
    refine ite2 (fun e => ?_) fun e => ?_
    · walk_at "r2"
      refine ⟨by omega, fun H5 mu => ?_⟩
      walk_at "r2"
      exact fin H2 _ H5 (Same.refl _) (by rw [exS_eq e]; exact rz0.mono (kp_base (g0.trans g2))) mu _
    rcases sm_sh oks with ⟨wd', h3, m', w1, rfl, l3, s0, es, mk⟩ | ⟨wd', r, w1, es, mk⟩
    · have mk := mk _ z e
      have rd0 := rd
      rw [es] at rd
      obtain ⟨_, ts', e1, a1, a2⟩ := rd.tup_inv
      cases e1
      rw [hxp] at a1
      cases a1
      obtain ⟨c5, d5, ln⟩ := rpl_cut (h5 := .str wd' :: .int (kS sm) :: h3) a2 (by rw [List.length_cons, List.length_cons, l3])
      obtain rfl : wd = wd' := by cases a2 with | cons b c => cases b; rfl
      walk_at "r2"
      intro p3 H3 hp3 g3 h3c
      have hx3 := g3 _ _ hx2
      have h23 := g3 _ _ h2
      clear hx2 ho2
      walk_at "r2"
      clear h3c
      rw [if_pos (or_mem.mpr w1)]
      walk_at "r2"
      have l2 : (bds (subs sm)).length = (subs sm).length := List.length_map ..
      refine ⟨by omega, fun t7 H7 ht7 g7 h7 => ?_⟩
      rw [show (5 : Int) = ((5 : Nat) : Int) from rfl, cutV_take] at h7
      have h27 := g7 _ _ h23
      have hx7 := g7 _ _ hx3
      clear h23 hx3
      walk_at "r2"
      refine tcomp_in ?_
      simp only [iTup]
      walk_at "r2"
      refine ⟨by omega, fun c4 H4 hc4 g4 h4c => ?_⟩
      rw [cutV_from] at h4c
      have h24 := g4 _ _ h27
      have h74 := g4 _ _ h7
      have g24 := g3.trans (g7.trans g4)
      have g04 := g2.trans g24
      have ld := d5.len
      clear h27 hx7 hc4 g3 g4 h7
      have s2 : (subs sm).length ≤ 2 := by cases sm <;> simp [subs]
      refine ⟨_, rfl, ⟨_, SqT.of h4c⟩, compJD over_tup (fun H g => g _ _ h4c) (by omega) (XcP K (kS so) z H0 H4 (subs sm) (some (.ref o)) (some (.ref c))) (fun D H' _ _ _ => ⟨.nil, _, rfl⟩) ?_ ?_⟩
      · intro D j v ys σ1 H5 hv at1 z1
        obtain ⟨ry, v0, rfl⟩ := z1
        obtain ⟨dd, hdd, rdd⟩ := d5.get hv
        unfold bds at hdd
        rw [List.getElem?_map] at hdd
        obtain ⟨u, hu, rfl⟩ := Option.map_eq_some_iff.mp hdd
        have mu := List.mem_of_getElem? hu
        obtain ⟨m2, e2, ob⟩ := sub_ok oks mu
        obtain rfl : m' = m2 := by omega
        obtain ⟨va, vs', rfl, _, _⟩ := rdd.lst_inv
        have gs5 := g04.trans at1.same
        clear h24 h74 h4c
        walk_at "r2"
        refine ⟨_, _, _, u, m', so, z, H0, rfl, g0.trans gs5, rdd, ob, by omega, Nat.le_trans (sub_or mu) (Nat.le_trans (mem_flat_len mem) hc), ro, ⟨io, oo⟩, rz0, fun r H6 g6 r6 => ?_⟩
        refine at1.put g6 fun H7 mu7 => ⟨?_, _, rfl⟩
        unfold bds
        rw [List.take_add_one, hu, List.map_append, List.map_append]
        exact RpL.app (.cons (r6.mono (kp_item at1.same (g0.free (g04.free at1.new)) at1.lst mu7)) .nil) (ry.mono (kp_own g6 mu7))
      · intro D ys σ1 H5 hD g5 hy _ z1
        obtain ⟨ry, v0, rfl⟩ := z1
        rw [ld, l2, List.take_of_length_le (Nat.le_refl _)] at ry
        have h25 := g5 _ _ h24
        have h75 := g5 _ _ h74
        clear h24 h74 h4c ld
        refine ⟨_, rfl, _, trivial, hy, fun t6 H6 ht6 g6 h6 => ?_⟩
        have h26 := g6 _ _ h25
        have h76 := g6 _ _ h75
        have ly := ry.len
        have lb' : (bds ((subs sm).map (exB (kS so) z))).length = (subs sm).length := by rw [bds, List.length_map, List.length_map]
        clear h25 h75 hy
        walk_at "r2"
        refine ⟨_, _, _, _, rfl, rfl, SqT.of h76, SqT.of h6, by simp, ?_, fun z => ?_, fun _ p8 hp8 => ?_⟩
        · have := List.length_take_le 5 (V.str wd :: .int (kS sm) :: ts); omega
        · rw [z] at ly; simp at ly; omega
        · obtain ⟨H8, e8⟩ : ∃ H8, H8 = upd H6 p8 (.tup ((V.str wd :: .int (kS sm) :: ts).take 5 ++ ys)) := ⟨_, rfl⟩
          rw [← e8]
          have g8 : Same H6 H8 := by rw [e8]; exact same_new hp8 _
          have h8 : H8 p8 = some (.tup ((V.str wd :: .int (kS sm) :: ts).take 5 ++ ys)) := by rw [e8]; exact upd_same
          clear e8
          have h28 := g8 _ _ h26
          refine ⟨zs, h28, by omega, fun H9 mu => ?_⟩
          walk_at "r2"
          have g28 : Same H2 H8 := g24.trans (g5.trans (g6.trans g8))
          have n8 : H2 p8 = none := g24.free (g5.free (g6.free hp8))
          refine fin H8 (.ref p8) H9 g28 ?_ mu _
          rw [mk]
          exact .tup (kp_new n8 h8) (RpL.app (ry.mono fun a u e => kp_mono g24 (g6.trans g8) a u (hide_le a u e)) (c5.mono (kp_base (g0.trans (g2.trans g28)))))
    · have rd0 := rd
      rw [es] at rd
      obtain ⟨_, ts', e1, a1, a2⟩ := rd.tup_inv
      cases e1
      rw [hxp] at a1
      cases a1
      obtain rfl : wd = wd' := by cases a2 with | cons b c => cases b; rfl
      walk_at "r2"
      intro p3 H3 hp3 g3 h3
      have hx3 := g3 _ _ hx2
      have h23 := g3 _ _ h2
      clear hx2 ho2
      walk_at "r2"
      clear h3
      rw [if_neg (fun z => w1 (or_mem.mp z))]
      walk_at "r2"
      refine ⟨by omega, fun H5 mu => ?_⟩
      walk_at "r2"
      exact fin H3 _ H5 g3 (by rw [mk _ z e]; exact rd0.mono (kp_base (g0.trans (g2.trans g3)))) mu _
  · obtain ⟨zs, v4, g2, h2, rz, rfl⟩ := z1
    rw [List.take_of_length_le (by omega)] at rz
    clear h1
    simp only [List.cons_append, List.nil_append]
    walk_at "r2"
    exact q _ H2 g2 (.lst (kp_new hb1 h2) (by rw [List.map_map]; exact rz.mono hide_le))
end
end K14
set_option Elab.async false
set_option linter.all false
set_option maxRecDepth 100000
set_option maxHeartbeats 4000000
namespace K14
open PySem L2
section
variable {P : Program} {w : World} {K : PySem.W.Frag} {mg : Str → Option Value} {base : Heap}
inductive Spl : Sm → Str → Nat → Prop
  | tk {w : Str} {k : Int} {x : Str} {e : PyData} : w ∈ tkW → Spl (.nm w k x e) w 0
  | pt {w : Str} {k : Int} {x : Str} {e : PyData} : w ∈ ptW → Spl (.nm w k x e) w 1
  | dr {k : Int} {a x : Str} : Spl (.dr k a x) (Str.ofString "draw") 2
  | st {k : Int} {x : Str} {es : List PyData} : Spl (.st k x es) (Str.ofString "start") 3
theorem Spl.d {s : Sm} {w : Str} {kd : Nat} (h : Spl s w kd) : ∃ d2 d3, smD s = .tuple [.str w, .int (kS s), d2, d3] := by
  cases h <;> exact ⟨_, _, by unfold smD; rfl⟩
theorem Spl.kd {s : Sm} {w : Str} {kd : Nat} (h : Spl s w kd) : kd < 4 := by cases h <;> omega
def knK : List (Key × V) := mergeK [] [(Sum.inr (Str.ofString "take"), V.str (Str.ofString "tool")), (Sum.inr (Str.ofString "give"), V.str (Str.ofString "tool")), (Sum.inr (Str.ofString "put"), V.str (Str.ofString "store")), (Sum.inr (Str.ofString "get"), V.str (Str.ofString "store")), (Sum.inr (Str.ofString "draw"), V.str (Str.ofString "row"))]
def p4K : List (Key × V) := mergeK [] [(Sum.inr (Str.ofString "tool"), V.int 0), (Sum.inr (Str.ofString "store"), V.int 1), (Sum.inr (Str.ofString "row"), V.int 2), (Sum.inr (Str.ofString "hand"), V.int 3)]
def kn : Nat → Str
  | 0 => "tool"
  | 1 => "store"
  | 2 => "row"
  | _ => "hand"
theorem Spl.kn {s : Sm} {w : Str} {kd : Nat} (h : Spl s w kd) : (valV knK (.inr w)).getD (.str (Str.ofString "hand")) = .str (K14.kn kd) ∧ valV p4K (.inr (K14.kn kd)) = some (.int (kd : Int)) ∧ (kd < 3 → valV knK (.inr w) = some (.str (K14.kn kd)) ∧ w ≠ Str.ofString "start") ∧ (kd < 2 → w ≠ Str.ofString "draw") := by
  have a : ∀ w ∈ tkW, (valV knK (.inr w)) = some (.str (K14.kn 0)) ∧ w ≠ Str.ofString "start" ∧ w ≠ Str.ofString "draw" := by decide +kernel
  have b : ∀ w ∈ ptW, (valV knK (.inr w)) = some (.str (K14.kn 1)) ∧ w ≠ Str.ofString "start" ∧ w ≠ Str.ofString "draw" := by decide +kernel
  have c : (valV knK (.inr (Str.ofString "draw"))) = some (.str (K14.kn 2)) ∧ Str.ofString "draw" ≠ Str.ofString "start" := by decide +kernel
  have d : (valV knK (.inr (Str.ofString "start"))) = none := by decide +kernel
  have e : ∀ k < 4, valV p4K (.inr (K14.kn k)) = some (.int (k : Int)) := by decide +kernel
  cases h with
  | tk m => exact ⟨by rw [(a _ m).1]; rfl, e 0 (by decide), fun _ => ⟨(a _ m).1, (a _ m).2.1⟩, fun _ => (a _ m).2.2⟩
  | pt m => exact ⟨by rw [(b _ m).1]; rfl, e 1 (by decide), fun _ => ⟨(b _ m).1, (b _ m).2.1⟩, fun _ => (b _ m).2.2⟩
  | dr => exact ⟨by rw [c.1]; rfl, e 2 (by decide), fun _ => c, fun h => absurd h (by decide)⟩
  | st => exact ⟨by rw [d]; rfl, e 3 (by decide), fun h => absurd h (by decide), fun h => absurd h (by decide)⟩
def othF (g : Pg) (i : Nat) : List Str := [Str.ofString "nought", Str.ofString "zzzzzzzz"] ++ (((nmL g).take i).flatMap id)
theorem nTk : ∀ x ∈ ptW, x ∉ tkW := by decide +kernel
theorem othF_len {g : Pg} (gz : g.Sz) (i : Nat) : (othF g i).length ≤ 402 := by
  have a := gz.t; have b := gz.s; have c := gz.r; have d := gz.h
  unfold othF
  rw [List.length_append]
  rcases i with _ | _ | _ | _ | i <;> simp [nmL] <;> omega
theorem othF_succ {g : Pg} {i : Nat} {l : List Str} (h : (nmL g)[i]? = some l) : othF g (i + 1) = othF g i ++ l := by
  unfold othF
  rw [List.take_add_one, h, List.flatMap_append, List.append_assoc]
  congr 2
  simp
theorem fst_inj {L : List (Str × Nat)} (nd : (L.map (·.1)).Nodup) {p p' : Str × Nat} (a : p ∈ L) (a' : p' ∈ L) (e1 : p.1 = p'.1) : p = p' := by
  induction L with
  | nil => cases a
  | cons q L ih =>
    rw [List.map_cons, List.nodup_cons] at nd
    rcases List.mem_cons.mp a with h1 | h1 <;> rcases List.mem_cons.mp a' with h2 | h2
    · rw [h1, h2]
    · exact absurd (List.mem_map.mpr ⟨p', h2, by rw [← e1, h1]⟩) nd.1
    · exact absurd (List.mem_map.mpr ⟨p, h1, by rw [e1, h2]⟩) nd.1
    · exact ih nd.2 h1 h2
theorem flH_num {N : Nms} {k : Int} {x : Str} {n n' : Nat} (h : flH N k x n = []) (nd : (N.h.map (·.1)).Nodup) (ne : n' ≠ n) : flH N k x n' = [fT "numbers" k x] ∧ n ∈ (N.h.filter fun p => decide (p.1 = x)).map (·.2) := by
  unfold flH at h ⊢
  split at h
  · split at h
    · rename_i c1 c2
      refine ⟨?_, c2⟩
      rw [if_pos c1, if_neg]
      intro z
      obtain ⟨p, hp, rfl⟩ := List.mem_map.mp z
      obtain ⟨p', hp', e'⟩ := List.mem_map.mp c2
      obtain ⟨a, b⟩ := List.mem_filter.mp hp
      obtain ⟨a', b'⟩ := List.mem_filter.mp hp'
      have e1 : p.1 = p'.1 := (of_decide_eq_true b).trans (of_decide_eq_true b').symm
      have : p = p' := fst_inj nd a a' e1
      exact ne (by rw [this, e'])
    · cases h
  · cases h
def SpI (H0 : Hp) (g : Pg) (σ0 : St) (i : Nat) (σ : St) (H : Hp) : Prop := ∃ a v7, Same H0 H ∧ H a = some (.lst ((othF g i).map V.str)) ∧ σ = σ0 ++ [some (.ref a), v7, none, none]
def FlP (S l : List Str) (vo : Option V) (i : Nat) (ys : List V) (σ1 : St) (H' : Hp) : Prop := ys = ((S.take i).filter fun x => !decide (x ∈ l)).map V.str ∧ ∃ v0, σ1 = [v0, vo]
def spSp (K : PySem.W.Frag) : Sp := fun vs H Q _ => ∃ (o p : Addr) (n : Nat) (s : Sm) (wd : Str) (kd : Nat) (g : Pg), vs = [.ref o, .ref p, .int (n : Nat)] ∧ n ≤ 1000000000 ∧ Rp K H (.ref o) (smD s) ∧ SmOk s 0 ∧ Spl s wd kd ∧ flS g.N s = [] ∧ Rp K H (.ref p) g.D ∧ g.Ok ∧ (∀ l ∈ nmL g, ¬ (Str.ofString "nought" ∈ l ∧ Str.ofString "zzzzzzzz" ∈ l)) ∧
  ∀ (b c f : Addr) (H' : Hp) (z : Sm) (fd : PyData), Same H H' → H' b = some (.lst [.ref c, .ref f]) → Rp K H' (.ref c) (smD z) → Rp K H' (.ref f) fd → kS z = kS s → SmOk z 0 → orS z = [z] → flS g.N z = [fd] → Q (.ref b) H'
theorem ok_sp (D : DefAt K mg "_law_spoilt" s__law_spoilt ["told", "program", "number"]) (hlen : mg "len" = none) : OkD P w K mg base 1 "_law_spoilt" ["told", "program", "number"] (spSp K) := by
  refine D.ok sc__law_spoilt (fun vs H Q E h => ?_) (fun f cdv A outer s H vs Q E hr h => ?_)
  · obtain ⟨_, _, _, _, _, _, _, rfl, _⟩ := h; rfl
  obtain ⟨o, p, n, sm, wd, kd, g, rfl, hn, ro, ok, sp, fl, rg, gk, nb, q⟩ := h
  have hu := hu_of hr
  obtain ⟨k1, k2, k3, k4⟩ := sp.kn
  have big : 100000 ≤ sizeLine := by unfold sizeLine; decide
  refine ⟨_, (pss_cons (ps_set (i := 3) sc__law_spoilt.nd rfl (Or.inl rfl) (pe_dispG (pps_cons pe_str pe_str (pps_cons pe_str pe_str (pps_cons pe_str pe_str (pps_cons pe_str pe_str (pps_cons pe_str pe_str pps_nil))))) rfl rfl (by simp) (by decide)))
  (pss_cons (ps_set (i := 4) sc__law_spoilt.nd rfl (Or.inl rfl) (pe_dgetG hu (pe_dispG (pps_cons pe_str pe_int (pps_cons pe_str pe_int (pps_cons pe_str pe_int (pps_cons pe_str pe_int pps_nil)))) rfl rfl (by simp) (by decide)) (pe_dgetDG hu (pv 3) (pe_ix ix_g (pv 0) pe_int (fun _ _ => rfl)) pe_str ⟨rfl, rfl, rfl, rfl⟩) (fun _ _ => rfl)))
  (pss_cons (ps_set (i := 5) sc__law_spoilt.nd rfl (Or.inr rfl) (pe_compN (comp_scopeN 1 (N := ["one"]) (cap := []) rfl rfl rfl rfl (by decide +kernel) rfl rfl rfl) rfl (pi_list (pe_ix ix_g (pv 1) (pv 4) (fun _ _ => rfl))) (fun _ _ _ _ => (pg_name (i := 0) (show List.Nodup (α := Str) ["one"] by decide +kernel) rfl (Or.inl (lookup_relabel_local rfl)) (Or.inr (lookup_relabel_local rfl)))) (fun _ _ _ _ => pts_nil) (fun _ _ _ _ => (pe_ix ix_g (pv 0) pe_int (fun _ _ => rfl)))))
  (pss_cons (ps_set (i := 6) sc__law_spoilt.nd rfl (Or.inl rfl) (pe_lstG (pa_c pe_str (pa_c pe_str pa_nil))))
  (pss_cons (ps_for PassesOwn.never rfl (pi_tup (pv 1)) (pg_name (i := 7) sc__law_spoilt.nd rfl (Or.inl rfl))
  (pss_one (ps_set (i := 6) sc__law_spoilt.nd rfl (Or.inl rfl) (pe_op op_catG (pv 6) (pe_compN (comp_scopeN 1 (N := ["one"]) (cap := []) rfl rfl rfl rfl (by decide +kernel) rfl rfl rfl) rfl (pi_list (pv 7)) (fun _ _ _ _ => (pg_name (i := 0) (show List.Nodup (α := Str) ["one"] by decide +kernel) rfl (Or.inl (lookup_relabel_local rfl)) (Or.inr (lookup_relabel_local rfl)))) (fun _ _ _ _ => pts_nil) (fun _ _ _ _ => (pe_ix ix_g (pv 0) pe_int (fun _ _ => rfl))))))))
  (pss_cons (ps_setCN (i := 6) sc__law_spoilt.nd rfl (Or.inl rfl) (comp_scopeN 1 (N := ["name", "own"]) (cap := [5]) rfl rfl rfl rfl (by decide +kernel) rfl rfl rfl) rfl (pi_list (pv 6)) (fun _ _ _ _ => (pg_name (i := 0) (show List.Nodup (α := Str) ["name", "own"] by decide +kernel) rfl (Or.inl (lookup_relabel_local rfl)) (Or.inr (lookup_relabel_local rfl)))) (fun _ _ _ _ => (pts_one (pt_cmpR op_notInG (pv 0) (pv 1) (by with_unfolding_all rfl)))) (fun _ _ _ _ => (pv 0)))
  (pss_cons (ps_set (i := 8) sc__law_spoilt.nd rfl (Or.inl rfl) (pe_ix ix_g (pv 6) (pe_op op_mod (pe_op op_fdiv (pv 2) pe_int) (pe_cB call_lenG rfl hlen PySem.boot_len (pa_c (pv 6) pa_nil))) (fun _ _ => rfl)))
  (pss_cons (ps_if (PW.pt (pw_and (pt_cmpR op_eq (pe_ix ix_g (pv 0) pe_int (fun _ _ => rfl)) pe_str (nomark _)) (pw_and1 (pt_cmpR op_eq (pe_op op_mod (pv 2) pe_int) pe_int (nomark _)))))
  (pss_cons (ps_set (i := 9) sc__law_spoilt.nd rfl (Or.inl rfl) (pe_slice sl_g (pe_op op_catG (pe_ix ix_g (pv 0) pe_int (fun _ _ => rfl)) (pe_lstG (pa_c (pe_tupG (pa_c pe_str pa_nil)) pa_nil))) po_none (po_some pe_int)))
  (pss_cons (ps_if (pt_cmpR op_eq (pe_cB call_lenG rfl hlen PySem.boot_len (pa_c (pv 9) pa_nil)) (pe_cB call_lenG rfl hlen PySem.boot_len (pa_c (pe_ix ix_g (pv 0) pe_int (fun _ _ => rfl)) pa_nil)) (nomark _))
  (pss_one (ps_set (i := 9) sc__law_spoilt.nd rfl (Or.inl rfl) (pe_slice sl_g (pv 9) po_none (po_some pe_int))))
  pss_nil)
  (pss_one (ps_ret (pe_lstG (pa_c (pe_tupG (pa_c (pe_ix ix_g (pv 0) pe_int (fun _ _ => rfl)) (pa_c (pe_ix ix_g (pv 0) pe_int (fun _ _ => rfl)) (pa_c (pe_ix ix_g (pv 0) pe_int (fun _ _ => rfl)) (pa_c (pv 9) pa_nil))))) (pa_c (pe_tupG (pa_c pe_str (pa_c (pe_ix ix_g (pv 0) pe_int (fun _ _ => rfl)) (pa_c (pe_ix ix_g (pv 0) pe_int (fun _ _ => rfl)) pa_nil)))) pa_nil)))))))
  pss_nil)
  (pss_cons (ps_if (pt_cmpR op_eq (pe_ix ix_g (pv 0) pe_int (fun _ _ => rfl)) pe_str (nomark _))
  (pss_one (ps_ret (pe_lstG (pa_c (pe_tupG (pa_c (pe_ix ix_g (pv 0) pe_int (fun _ _ => rfl)) (pa_c (pe_ix ix_g (pv 0) pe_int (fun _ _ => rfl)) (pa_c (pv 8) (pa_c (pe_ix ix_g (pv 0) pe_int (fun _ _ => rfl)) pa_nil))))) (pa_c (pe_tupG (pa_c pe_str (pa_c (pe_ix ix_g (pv 0) pe_int (fun _ _ => rfl)) (pa_c (pv 8) pa_nil)))) pa_nil)))))
  pss_nil)
  (pss_cons (ps_if (pt_cmpR op_eq (pe_ix ix_g (pv 0) pe_int (fun _ _ => rfl)) pe_str (nomark _))
  (pss_one (ps_ret (pe_lstG (pa_c (pe_tupG (pa_c (pe_ix ix_g (pv 0) pe_int (fun _ _ => rfl)) (pa_c (pe_ix ix_g (pv 0) pe_int (fun _ _ => rfl)) (pa_c (pe_ix ix_g (pv 0) pe_int (fun _ _ => rfl)) (pa_c (pv 8) pa_nil))))) (pa_c (pe_tupG (pa_c pe_str (pa_c (pe_ix ix_g (pv 0) pe_int (fun _ _ => rfl)) (pa_c (pv 8) pa_nil)))) pa_nil)))))
  pss_nil)
  (pss_one (ps_ret (pe_lstG (pa_c (pe_tupG (pa_c (pe_ix ix_g (pv 0) pe_int (fun _ _ => rfl)) (pa_c (pe_ix ix_g (pv 0) pe_int (fun _ _ => rfl)) (pa_c (pv 8) (pa_c (pe_ix ix_g (pv 0) pe_int (fun _ _ => rfl)) pa_nil))))) (pa_c (pe_tupG (pa_c (pe_dgetG hu (pv 3) (pe_ix ix_g (pv 0) pe_int (fun _ _ => rfl)) (fun _ _ => rfl)) (pa_c (pe_ix ix_g (pv 0) pe_int (fun _ _ => rfl)) (pa_c (pv 8) pa_nil)))) pa_nil))))))))))))))), ?_⟩
  obtain ⟨xs, hp, lx, hps⟩ := parts_of rg gk.sz
  have hxk : xs[kd]? = some (xs[kd]'(by have := sp.kd; omega)) := List.getElem?_eq_getElem _
  obtain ⟨pc, ys, l, ex, hc, ns, hl, ll⟩ := hps kd _ hxk
  rw [ex] at hxk
  have ak : atI xs (kd : Int) = some (.ref pc) := atI_nat hxk
  obtain ⟨d2, d3, es⟩ := sp.d
  have ro0 := ro
  rw [es] at ro
  obtain ⟨_, ts, e1, a1, a2⟩ := ro.tup_inv
  cases e1
  cases a2 with | cons a2 a3 =>
  cases a3 with | cons a3 a4 =>
  cases a4 with | cons a4 a5 =>
  cases a5 with | cons a5 a6 =>
  cases a6
  cases a2
  cases a3
  rename_i v2 v3
  walk_at "r2"
  intro pd H1 hpd g1 h1
  walk_at "r2"
  intro H2 mu
  have g2 := mu.same g1 hpd
  have hd2 : H2 pd = some (.dK knK) := mu.at_
  clear h1 mu g1
  walk_at "r2"
  intro p3 H3 hp3 g3 h3
  walk_at "r2"
  intro H4 mu
  have g4 := mu.same g3 hp3
  have h4 : H4 p3 = some (.dK p4K) := mu.at_
  have hd4 := g4 _ _ hd2
  have ho4 := g4 _ _ (g2 _ _ a1)
  have hp4 := g4 _ _ (g2 _ _ hp)
  have hc4 := g4 _ _ (g2 _ _ hc)
  have g24 := g2.trans g4
  have hdd := hd4
  clear h3 mu g3 g4 g2 hd2
  walk_at "r2"
  refine ⟨⟨_, rfl⟩, ?_⟩
  walk_at "r2"
  clear h4
  refine tcomp_in ?_
  simp only [iList]
  walk_at "r2"
  refine ⟨⟨_, SqL.of hc4⟩, compJ_nm hc4 (ns.mono fun c xs h => g24 _ _ h) (by omega) fun D5 H5 hD5 g5 h5 => ?_⟩
  have hp5 := g5 _ _ hp4
  have ho5 := g5 _ _ ho4
  have hd5 := g5 _ _ hd4
  clear hp4 ho4 hd4 hc4
  walk_at "r2"
  intro p6 H6 hp6 g6 h6
  have hp6' := g6 _ _ hp5
  clear hp5 ho5 hd5
  walk_at "r2"
  refine tfor_in ?_
  simp only [iTup]
  walk_at "r2"
  have g06 := g24.trans (g5.trans g6)
  have h56 := g6 _ _ h5
  clear hp6' h5
  refine ⟨⟨_, SqT.of (g06 _ _ hp)⟩, for_tup (xs := xs) (SpI H6 g [some (.ref o), some (.ref p), some (.int n), some (.ref pd), some (.int kd), some (.ref D5)]) ⟨p6, _, Same.refl _, h6, rfl⟩ (fun i σ H7 _ z => ?_) (fun i x σ H7 hx z => ?_) fun σ H7 z => ?_⟩
  · obtain ⟨_, _, z, _⟩ := z
    exact SqT.of (z _ _ (g06 _ _ hp))
  · obtain ⟨a, v7, g7, h7, rfl⟩ := z
    obtain ⟨pi, yi, li, rfl, hi, nsi, hli, lli⟩ := hps i x hx
    simp only [List.cons_append, List.nil_append]
    have hi7 := g7 _ _ (g06 _ _ hi)
    clear h6 h56
    walk_at "r2"
    refine tcomp_in ?_
    simp only [iList]
    walk_at "r2"
    refine ⟨⟨_, SqL.of hi7⟩, compJ_nm hi7 (nsi.mono fun c xs h => g7 _ _ (g06 _ _ h)) (by omega) fun D8 H8 hD8 g8 h8 => ?_⟩
    have h78 := g8 _ _ h7
    clear h7 hi7
    walk_at "r2"
    refine ⟨by have := othF_len gk.sz i; rw [List.length_map, List.length_map]; omega, fun c9 H9 hc9 g9 h9 => ?_⟩
    exact ⟨c9, _, g7.trans (g8.trans g9), by rw [othF_succ hli, List.map_append]; exact h9, rfl⟩
  · obtain ⟨a, v7, g7, h7, rfl⟩ := z
    rw [lx] at h7
    simp only [List.cons_append, List.nil_append]
    have h57 := g7 _ _ h56
    clear h6 h56
    walk_at "r2"
    refine tcomp_in ?_
    simp only [iList]
    walk_at "r2"
    have l402 : (others g).length ≤ 402 := othF_len gk.sz 4
    have h7' : H7 a = some (.lst ((others g).map V.str)) := h7
    refine ⟨⟨_, SqL.of h7'⟩, compJ_list h7' (by rw [List.length_map]; omega) (FlP (others g) l (some (.ref D5))) (fun H' _ => ⟨rfl, _, rfl⟩) ?_ ?_⟩
    · rintro D i v ys' σ1 H8 hx at1 pv
      obtain ⟨rfl, v0, rfl⟩ := pv
      rw [List.getElem?_map] at hx
      obtain ⟨x, hxs, rfl⟩ := Option.map_eq_some_iff.mp hx
      have h58 := at1.same _ _ h57
      clear h7 h7' h57
      walk_at "r2"
      refine ⟨all_flat l, !decide (x ∈ l), congrArg V.bl (by rw [if_pos rfl, inV_strs]), ?_⟩
      have tk : ((others g).take (i + 1)).filter (fun x => !decide (x ∈ l)) = ((others g).take i).filter (fun x => !decide (x ∈ l)) ++ if x ∈ l then [] else [x] := by
        rw [take_snoc hxs, List.filter_append]
        congr 1
        by_cases c : x ∈ l <;> simp [c]
      by_cases c : x ∈ l
      · rw [decide_eq_true c]
        rw [if_pos c, List.append_nil] at tk
        refine iteF ?_
        exact at1.skip (Same.refl _) ⟨by rw [tk], _, rfl⟩
      · rw [decide_eq_false c]
        rw [if_neg c] at tk
        refine iteT ?_
        walk_at "r2"
        exact at1.put (Same.refl _) fun H5 mu => ⟨by rw [tk, List.map_append]; rfl, _, rfl⟩
    · rintro D ys' σ1 H8 hD g8 hy hle pv
      obtain ⟨rfl, v0, rfl⟩ := pv
      rw [List.take_of_length_le (by rw [List.length_map]; omega)] at hy
      obtain ⟨S, eS⟩ : ∃ S, ((others g).filter fun x => !decide (x ∈ l)) = S := ⟨_, rfl⟩
      rw [eS] at hy
      have mS : ∀ x ∈ S, x ∉ l := fun x hx => by rw [← eS] at hx; simpa using (List.mem_filter.mp hx).2
      have nS : S ≠ [] := by rw [← eS]; exact others_ne (nb l (List.mem_of_getElem? hl))
      have oS : ∀ x ∈ S, PyData.strOk x = true := fun x hx => by
        rw [← eS] at hx
        rcases List.mem_append.mp (List.mem_filter.mp hx).1 with h | h
        · have : ∀ x ∈ ([Str.ofString "nought", Str.ofString "zzzzzzzz"] : List Str), PyData.strOk x = true := by decide +kernel
          exact this x h
        · obtain ⟨l', hl', hx'⟩ := List.mem_flatMap.mp h
          exact gk.nm l' hl' x hx'
      clear eS h7 h7' h57
      have sp0 : 0 < S.length := List.length_pos_iff.mpr nS
      obtain ⟨nv, hnv, mnv, _⟩ := atI_in (xs := S.map V.str) (i := (n : Int) / 2 % (S.length : Int)) (Int.emod_nonneg _ (by omega)) (by rw [List.length_map]; exact Int.emod_lt_of_pos _ (by omega))
      obtain ⟨nm, mnm, rfl⟩ := List.mem_map.mp mnv
      have nok := oS nm mnm
      have nno := mS nm mnm
      have g08 := g06.trans (g7.trans g8)
      have ho8 := g08 _ _ a1
      have hd8 := (g5.trans (g6.trans (g7.trans g8))) _ _ hdd
      walk_at "r2"
      refine ⟨by rw [List.length_map]; omega, ?_⟩
      rw [List.length_map]
      walk_at "r2"
      cases sp with
      | st =>
        rename_i k x ees
        unfold smD at es
        cases es
        cases a4
        obtain ⟨ea, ev, rfl, he, re⟩ := a5.lst_inv
        have he8 := g08 _ _ he
        have fl : flH g.N k x ees.length = [] := fl
        have fln := fun n' (ne : n' ≠ ees.length) => flH_num (n' := n') fl (by show ((hnN g.h).map (·.1)).Nodup; unfold hnN; rw [List.map_map]; exact gk.nd) ne
        have le3 : ees.length ≤ 3 := nnL_le gk (nm := x) (fln (ees.length + 1) (by omega)).2
        simp only [SmOk] at ok
        obtain ⟨ok1, ok2, ok3, ok4, ok5⟩ := ok
        have lev := re.len
        rw [if_pos rfl]
        walk_at "r2"
        refine ite2 (fun c => ?_) fun c => ?_
        · walk_at "r2"
          intro p9 H9 hp9 g9 h9
          have he9 := g9 _ _ he8
          have ho9 := g9 _ _ ho8
          clear he8 ho8 hd8
          walk_at "r2"
          intro p10 H10 hp10 g10 h10
          have he10 := g10 _ _ he9
          have ho10 := g10 _ _ ho9
          have h9' := g10 _ _ h9
          clear he9 ho9 h9
          walk_at "r2"
          refine ⟨by omega, fun p11 H11 hp11 g11 h11 => ?_⟩
          have he11 := g11 _ _ he10
          have ho11 := g11 _ _ ho10
          clear he10 ho10 h10
          walk_at "r2"
          intro p12 H12 hp12 g12 h12
          rw [show (3 : Int) = ((3 : Nat) : Int) from rfl, cutV_take] at h12
          have he12 := g12 _ _ he11
          have ho12 := g12 _ _ ho11
          clear he11 ho11 h11
          walk_at "r2"
          have rall : ∀ {H' : Hp}, Same H12 H' → RpL K H' (ev ++ [.ref p9]) (ees ++ [PyData.tuple [.str "own"]]) := fun g => RpL.app (.cons (.tup (g _ _ (g12 _ _ (g11 _ _ h9'))) (.cons (.str _) .nil)) .nil) (re.mono (g08.trans (g9.trans (g10.trans (g11.trans (g12.trans g))))))
          have dga : ∀ d ∈ ees ++ [PyData.tuple [.str "own"]], DG 5 d := fun d hd => by
            rcases List.mem_append.mp hd with h | h
            · exact ok2 d h
            · rw [List.mem_singleton.mp h]; exact dg_tup (n := 4) (all_cons (dg_str (by decide +kernel)) all_nil) (by decide)
          have ltk : ((ev ++ [V.ref p9]).take 3).length = min 3 (ees.length + 1) := by rw [List.length_take, List.length_append, lev]; rfl
          have ltd : ((ees ++ [PyData.tuple [.str "own"]]).take 3).length = min 3 (ees.length + 1) := by rw [List.length_take, List.length_append]; rfl
          rw [ltk]
          clear h9'
          refine ite2 (fun c1 => ?_) fun c1 => ?_
          · have e3 : ees.length = 3 := by omega
            clear he12
            walk_at "r2"
            intro p12' H12' hp12' g12' h12'
            rw [show (2 : Int) = ((2 : Nat) : Int) from rfl, cutV_take] at h12'
            have ho12' := g12' _ _ ho12
            clear ho12 h12
            walk_at "r2"
            intro c13 H13 hc13 g13 h13
            have ho13 := g13 _ _ ho12'
            have hs13 := g13 _ _ h12'
            clear ho12' h12'
            walk_at "r2"
            intro f14 H14 hf14 g14 h14
            clear ho13
            walk_at "r2"
            intro b15 H15 hb15 g15 h15
            have g13' := g14.trans g15
            have gg : Same H12 H15 := g12'.trans (g13.trans g13')
            exact q b15 c13 f14 H15 (.st k x (((ees ++ [PyData.tuple [.str "own"]]).take 3).take 2)) (fT "numbers" k x) (g08.trans (g9.trans (g10.trans (g11.trans (g12.trans gg))))) h15 (by unfold smD; exact .tup (g13' _ _ h13) (.cons (.str _) (.cons (.int _) (.cons (.str _) (.cons (.lst (g13' _ _ hs13) (((rall gg).take 3).take 2)) .nil))))) (rp_fT (g15 _ _ h14)) rfl (by simp only [SmOk]; exact ⟨ok1, fun d hd => dga d (List.mem_of_mem_take (List.mem_of_mem_take hd)), by rw [List.length_take, ltd]; omega, ok4, ok5⟩) rfl (by exact (fln _ (by rw [List.length_take, ltd]; omega)).1)
          · have e3 : ees.length ≠ 3 := by omega
            clear he12
            walk_at "r2"
            intro c13 H13 hc13 g13 h13
            have ho13 := g13 _ _ ho12
            have hs13 := g13 _ _ h12
            clear ho12 h12
            walk_at "r2"
            intro f14 H14 hf14 g14 h14
            clear ho13
            walk_at "r2"
            intro b15 H15 hb15 g15 h15
            have g13' := g14.trans g15
            have gg : Same H12 H15 := g13.trans g13'
            exact q b15 c13 f14 H15 (.st k x ((ees ++ [PyData.tuple [.str "own"]]).take 3)) (fT "numbers" k x) (g08.trans (g9.trans (g10.trans (g11.trans (g12.trans gg))))) h15 (by unfold smD; exact .tup (g13' _ _ h13) (.cons (.str _) (.cons (.int _) (.cons (.str _) (.cons (.lst (g13' _ _ hs13) ((rall gg).take 3)) .nil))))) (rp_fT (g15 _ _ h14)) rfl (by simp only [SmOk]; exact ⟨ok1, fun d hd => dga d (List.mem_of_mem_take hd), by rw [ltd]; omega, ok4, ok5⟩) rfl (by exact (fln _ (by rw [ltd]; omega)).1)
        · walk_at "r2"
          intro c9 H9 hc9 g9 h9
          have ho9 := g9 _ _ ho8
          have hd9 := g9 _ _ hd8
          clear ho8 hd8
          walk_at "r2"
          intro f10 H10 hf10 g10 h10
          clear ho9 hd9
          walk_at "r2"
          intro b11 H11 hb11 g11 h11
          have g9' := g10.trans g11
          exact q b11 c9 f10 H11 (.st k nm ees) (fT "hand" k nm) (g08.trans (g9.trans g9')) h11 (by unfold smD; exact .tup (g9' _ _ h9) (.cons (.str _) (.cons (.int _) (.cons (.str _) (.cons (a5.mono (g08.trans (g9.trans g9'))) .nil))))) (rp_fT (g11 _ _ h10)) rfl (by simp only [SmOk]; exact ⟨nok, ok2, ok3, ok4, ok5⟩) rfl (by show flH g.N k nm ees.length = _; unfold flH; rw [if_neg (fun z => nno (by cases hl; simpa [Pg.N, hnN, List.map_map, Function.comp] using z))])
      | dr =>
        rename_i k aa x
        unfold smD at es
        cases es
        cases a4
        cases a5
        obtain ⟨k3, k3'⟩ := k3 (by decide)
        simp only [SmOk] at ok
        obtain ⟨ok1, ok2, ok3, ok4⟩ := ok
        rw [if_neg k3']
        walk_at "r2"
        intro c9 H9 hc9 g9 h9
        have ho9 := g9 _ _ ho8
        have hd9 := g9 _ _ hd8
        clear ho8 hd8
        walk_at "r2"
        intro f10 H10 hf10 g10 h10
        clear ho9 hd9
        walk_at "r2"
        intro b11 H11 hb11 g11 h11
        have g9' := g10.trans g11
        exact q b11 c9 f10 H11 (.dr k aa nm) (fT "row" k nm) (g08.trans (g9.trans g9')) h11 (by unfold smD; exact .tup (g9' _ _ h9) (.cons (.str _) (.cons (.int _) (.cons (.str _) (.cons (.str _) .nil))))) (rp_fT (g11 _ _ h10)) rfl (by simp only [SmOk]; exact ⟨ok1, nok, ok3, ok4⟩) rfl (by show flt "row" k nm g.N.r = _; unfold flt; rw [if_neg (fun z => nno (by cases hl; exact z))])
      | tk wt =>
        rename_i k x e
        unfold smD at es
        cases es
        cases a4
        obtain ⟨k3, k3'⟩ := k3 (by decide)
        have k4 := k4 (by decide)
        simp only [SmOk] at ok
        obtain ⟨ok1, ok2, ok3, ok4, ok5⟩ := ok
        rw [if_neg k3']
        walk_at "r2"
        intro c9 H9 hc9 g9 h9
        have ho9 := g9 _ _ ho8
        have hd9 := g9 _ _ hd8
        clear ho8 hd8
        walk_at "r2"
        intro f10 H10 hf10 g10 h10
        clear ho9 hd9
        walk_at "r2"
        intro b11 H11 hb11 g11 h11
        have g9' := g10.trans g11
        exact q b11 c9 f10 H11 (.nm wd k nm d3) (fT (kn 0) k nm) (g08.trans (g9.trans g9')) h11 (by unfold smD; exact .tup (g9' _ _ h9) (.cons (.str _) (.cons (.int _) (.cons (.str _) (.cons (a5.mono (g08.trans (g9.trans g9'))) .nil))))) (rp_fT (g11 _ _ h10)) rfl (by simp only [SmOk]; exact ⟨ok1, nok, ok3, ok4, ok5⟩) rfl (by show (if wd ∈ tkW then flt "tool" k nm g.N.t else flt "store" k nm g.N.s) = _; rw [if_pos wt]; unfold flt; rw [if_neg (fun z => nno (by cases hl; exact z))]; rfl)
      | pt wt =>
        rename_i k x e
        unfold smD at es
        cases es
        cases a4
        obtain ⟨k3, k3'⟩ := k3 (by decide)
        have k4 := k4 (by decide)
        simp only [SmOk] at ok
        obtain ⟨ok1, ok2, ok3, ok4, ok5⟩ := ok
        rw [if_neg k3']
        walk_at "r2"
        intro c9 H9 hc9 g9 h9
        have ho9 := g9 _ _ ho8
        have hd9 := g9 _ _ hd8
        clear ho8 hd8
        walk_at "r2"
        intro f10 H10 hf10 g10 h10
        clear ho9 hd9
        walk_at "r2"
        intro b11 H11 hb11 g11 h11
        have g9' := g10.trans g11
        exact q b11 c9 f10 H11 (.nm wd k nm d3) (fT (kn 1) k nm) (g08.trans (g9.trans g9')) h11 (by unfold smD; exact .tup (g9' _ _ h9) (.cons (.str _) (.cons (.int _) (.cons (.str _) (.cons (a5.mono (g08.trans (g9.trans g9'))) .nil))))) (rp_fT (g11 _ _ h10)) rfl (by simp only [SmOk]; exact ⟨ok1, nok, ok3, ok4, ok5⟩) rfl (by show (if wd ∈ tkW then flt "tool" k nm g.N.t else flt "store" k nm g.N.s) = _; rw [if_neg (nTk _ wt)]; unfold flt; rw [if_neg (fun z => nno (by cases hl; exact z))]; rfl)
end
end K14
set_option Elab.async false
set_option linter.all false
set_option maxRecDepth 100000
set_option maxHeartbeats 4000000
namespace K14
open PySem L2
section
variable {P : Program} {w : World} {K : PySem.W.Frag} {mg : Str → Option Value} {base : Heap}
def spLaw (K : PySem.W.Frag) : Sp := fun vs H Q _ => ∃ (a : Addr) (ns : List Int), vs = [.ref a] ∧ SqL K H a (ns.map V.int) ∧ ns.length ≤ 63 ∧ ∀ H', Q (.bl true) H'
theorem eqv_nil {xs : List PyData} : PyData.eqv (.list xs) (.list []) = xs.isEmpty := by
  cases xs <;> simp [PyData.eqv, PyData.eqvAll]
def w6 : List Str := ["take", "give", "put", "get", "draw", "start"]
def isN : Sm → Bool
  | .nm .. => true
  | .dr .. => true
  | .st .. => true
  | _ => false
theorem isN_w {s : Sm} {n : Nat} (ok : SmOk s n) : ∃ wd r, smD s = .tuple (.str wd :: r) ∧ decide (wd ∈ w6) = isN s := by
  have a : ∀ x ∈ plW, x ∉ w6 := by decide +kernel
  have b : ∀ x ∈ tkW ++ ptW, x ∈ w6 := by decide +kernel
  have c1 : decide (Str.ofString "draw" ∈ w6) = true := by decide +kernel
  have c2 : decide (Str.ofString "start" ∈ w6) = true := by decide +kernel
  have c3 : decide (Str.ofString "while" ∈ w6) = false := by decide +kernel
  have c4 : decide (Str.ofString "if" ∈ w6) = false := by decide +kernel
  cases s with
  | pl w k r => simp only [SmOk] at ok; exact ⟨_, _, by unfold smD; rfl, decide_eq_false (a _ ok.1)⟩
  | nm w k x e => simp only [SmOk] at ok; exact ⟨_, _, by unfold smD; rfl, decide_eq_true (b _ (List.mem_append.mpr ok.1))⟩
  | dr k a x => exact ⟨_, _, by unfold smD; rfl, c1⟩
  | st k x es => exact ⟨_, _, by unfold smD; rfl, c2⟩
  | wh k sg a b u => exact ⟨_, _, by unfold smD; rfl, c3⟩
  | fi k sg a b u v => exact ⟨_, _, by unfold smD; rfl, c4⟩
theorem isN_spl {s : Sm} {n : Nat} (ok : SmOk s n) (h : isN s = true) : SmOk s 0 ∧ orS s = [s] ∧ ∃ wd kd, Spl s wd kd := by
  cases s with
  | pl w k r => cases h
  | nm w k x e =>
    simp only [SmOk] at ok
    refine ⟨by simp only [SmOk]; exact ok, rfl, ?_⟩
    rcases ok.1 with z | z
    · exact ⟨_, _, .tk z⟩
    · exact ⟨_, _, .pt z⟩
  | dr k a x => simp only [SmOk] at ok; exact ⟨by simp only [SmOk]; exact ok, rfl, _, _, .dr⟩
  | st k x es => simp only [SmOk] at ok; exact ⟨by simp only [SmOk]; exact ok, rfl, _, _, .st⟩
  | wh k sg a b u => cases h
  | fi k sg a b u v => cases h
theorem not_both {g g0 : Pg} {hd : Int} (e : nmL g = nmL g0) (h1 : ∀ o ∈ g0.t ++ (g0.s ++ g0.r), o.1 ∈ namesF hd 400 5) (h2 : ∀ x ∈ g0.h.map (·.1), x ∈ namesF hd (bF hd) 8) : ∀ l ∈ nmL g, ¬ (Str.ofString "nought" ∈ l ∧ Str.ofString "zzzzzzzz" ∈ l) := fun l hl => by
  rw [e] at hl
  rintro ⟨a, b⟩
  have up : ∀ {os : List (Str × List PyData)} {x : Str}, x ∈ os.map (·.1) → (∀ o ∈ os, o ∈ g0.t ++ (g0.s ++ g0.r)) → x ∈ namesF hd 400 5 := fun hx hs => by
    obtain ⟨o, ho, rfl⟩ := List.mem_map.mp hx
    exact h1 o (hs o ho)
  rcases List.mem_cons.mp hl with rfl | hl
  · have s : ∀ o ∈ g0.t, o ∈ g0.t ++ (g0.s ++ g0.r) := fun o h => List.mem_append_left _ h
    exact no_both hd 400 5 (by decide) (up a s) (up b s)
  rcases List.mem_cons.mp hl with rfl | hl
  · have s : ∀ o ∈ g0.s, o ∈ g0.t ++ (g0.s ++ g0.r) := fun o h => List.mem_append_right _ (List.mem_append_left _ h)
    exact no_both hd 400 5 (by decide) (up a s) (up b s)
  rcases List.mem_cons.mp hl with rfl | hl
  · have s : ∀ o ∈ g0.r, o ∈ g0.t ++ (g0.s ++ g0.r) := fun o h => List.mem_append_right _ (List.mem_append_right _ h)
    exact no_both hd 400 5 (by decide) (up a s) (up b s)
  rw [List.mem_singleton] at hl
  subst hl
  exact no_both hd _ 8 (by decide) (h2 _ a) (h2 _ b)
theorem dg_bl {n : Nat} {b : Bool} : DG n (.bool b) := ⟨rfl, Nat.zero_le _, Nat.zero_le _⟩
def FuP (i : Nat) (ys : List V) (σ1 : St) (H' : Hp) : Prop := ys = [] ∧ ∃ v0, σ1 = [v0]
def SmP (K : PySem.W.Frag) (HB : Hp) (l : List Sm) (i : Nat) (ys : List V) (σ1 : St) (H' : Hp) : Prop := RpL K HB ys (((l.take i).filter isN).map smD) ∧ ∃ v0, σ1 = [v0]
def HxP (K : PySem.W.Frag) (k : Int) (z : Sm) (Hs : Hp) (l : List Hd) (vo vn : Option V) (D : Addr) (i : Nat) (ys : List V) (σ1 : St) (H' : Hp) : Prop := RpL K (hide D (kp Hs Hs H')) ys ((l.take i).map fun h => hdD (h.1, h.2.1, exB k z h.2.2)) ∧ ∃ v0 v1 v2, σ1 = [v0, v1, v2, vo, vn]
theorem ok_law {fa : Addr} {fd : FuncData} (F : Fun K "law" "law" s_law fa fd) (hlen : mg "len" = none)
    (G__law_cell_at : OkD P w K mg base 1 "_law_cell_at" ["script", "k"] (spCell K)) (G__law_stir : OkD P w K mg base 1 "_law_stir" ["cell", "k"] spStir) (G__law_built : OkD P w K mg base 10 "_law_built" ["script", "head"] (spBu K)) (G__law_named : OkD P w K mg base 10 "_law_named" ["program", "head", "other"] (spNa K)) (G__law_due : OkD P w K mg base 2 "_law_due" ["program"] (spDu K)) (G__law_in_order : OkD P w K mg base 1 "_law_in_order" ["program"] (spIo K)) (G__law_told : OkD P w K mg base 63 "_law_told" ["program"] (spTo K))
    (G__law_spoilt : OkD P w K mg base 1 "_law_spoilt" ["told", "program", "number"] (spSp K)) (G__law_exchanged : OkD P w K mg base 9 "_law_exchanged" ["body", "old", "new"] (spXc K 7)) : FnOk P w K mg base CX0 64 fa fd ["script"] (spLaw K) := by
  refine F.ok sc_law (fun vs H Q E h => ?_) (fun cdv A outer s H vs Q E hr h => ?_)
  · obtain ⟨_, _, rfl, _⟩ := h; rfl
  obtain ⟨a, ns, rfl, sq, l63, q⟩ := h
  have big : 100000 ≤ sizeLine := by unfold sizeLine; decide
  have hu64 := hr.units
  refine ⟨_, (pss_cons (ps_set (i := 1) sc_law.nd rfl (Or.inl rfl) (pe_def G__law_cell_at hr rfl (pa_c (pv 0) (pa_c pe_int pa_nil))))
  (pss_cons (ps_set (i := 2) sc_law.nd rfl (Or.inl rfl) (pe_def G__law_named hr rfl (pa_c (pe_ix ix_g (pe_def G__law_built hr rfl (pa_c (pv 0) (pa_c (pv 1) pa_nil))) pe_int (fun _ _ => rfl)) (pa_c (pv 1) (pa_c pe_bl pa_nil)))))
  (pss_cons (ps_set (i := 3) sc_law.nd rfl (Or.inl rfl) (pe_def G__law_due hr rfl (pa_c (pv 2) pa_nil)))
  (pss_cons (ps_if (PW.pt (pw_or (pt_cmpR (op_neD hu64) (pe_def G__law_told hr rfl (pa_c (pv 2) pa_nil)) (pe_lstG (pa_c (pv 3) (pa_c (pe_cmpR (op_eqD hu64) (pv 3) (pe_lstG pa_nil) (nomark _)) pa_nil))) (nomark _)) (pw_or1 (pt_cmpR (op_neD hu64) (pe_compN (comp_scopeN 1 (N := ["fault"]) (cap := []) rfl rfl rfl rfl (by decide +kernel) rfl rfl rfl) rfl (pi_list (pv 3)) (fun _ _ _ _ => (pg_name (i := 0) (show List.Nodup (α := Str) ["fault"] by decide +kernel) rfl (Or.inl (lookup_relabel_local rfl)) (Or.inr (lookup_relabel_local rfl)))) (fun _ _ _ _ => (pts_one (pt_cmpR op_ne (pe_ix ix_g (pv 0) pe_int (fun _ _ => rfl)) pe_str (nomark _)))) (fun _ _ _ _ => (pv 0))) (pe_lstG pa_nil) (nomark _)))))
  (pss_one (ps_ret pe_bl))
  pss_nil)
  (pss_cons (ps_setCN (i := 4) sc_law.nd rfl (Or.inl rfl) (comp_scopeN 1 (N := ["told"]) (cap := []) rfl rfl rfl rfl (by decide +kernel) rfl rfl rfl) rfl (pi_list (pe_def G__law_in_order hr rfl (pa_c (pv 2) pa_nil))) (fun _ _ _ _ => (pg_name (i := 0) (show List.Nodup (α := Str) ["told"] by decide +kernel) rfl (Or.inl (lookup_relabel_local rfl)) (Or.inr (lookup_relabel_local rfl)))) (fun _ _ _ _ => (pts_one (pt_cmpR op_inG (pe_ix ix_g (pv 0) pe_int (fun _ _ => rfl)) (pe_lstG (pa_c pe_str (pa_c pe_str (pa_c pe_str (pa_c pe_str (pa_c pe_str (pa_c pe_str pa_nil))))))) (by with_unfolding_all rfl)))) (fun _ _ _ _ => (pv 0)))
  (pss_cons (ps_if (PW.pt (pw_or (pt_cmpR (op_neD hu64) (pv 3) (pe_lstG pa_nil) (nomark _)) (pw_or1 (pt_cmpR (op_eqE hu64) (pv 4) (pe_lstG pa_nil) (nomark _)))))
  (pss_one (ps_ret pe_bl))
  pss_nil)
  (pss_cons (ps_set (i := 5) sc_law.nd rfl (Or.inl rfl) (pe_def G__law_stir hr rfl (pa_c (pe_def G__law_cell_at hr rfl (pa_c (pv 0) (pa_c pe_int pa_nil))) (pa_c pe_int pa_nil))))
  (pss_cons (ps_set (i := 6) sc_law.nd rfl (Or.inr rfl) (pe_ix ix_g (pv 4) (pe_op op_mod (pv 5) (pe_cB call_lenG rfl hlen PySem.boot_len (pa_c (pv 4) pa_nil))) (fun _ _ => rfl)))
  (pss_cons (ps_asg (pe_def G__law_spoilt hr rfl (pa_c (pv 6) (pa_c (pv 2) (pa_c (pe_op op_fdiv (pv 5) pe_int) pa_nil)))) (pg_lstG 2 rfl (pgs_cons (pg_name (i := 7) sc_law.nd rfl (Or.inr rfl)) (pgs_cons (pg_name (i := 8) sc_law.nd rfl (Or.inl rfl)) pgs_nil))))
  (pss_cons (ps_setCN (i := 9) sc_law.nd rfl (Or.inl rfl) (comp_scopeN 3 (N := ["name", "names", "body", "old", "new"]) (cap := [6, 7]) rfl rfl rfl rfl (by decide +kernel) rfl rfl rfl) rfl (pi_list (pe_ix ix_g (pv 2) pe_int (fun _ _ => rfl))) (fun _ _ _ _ => (pg_tupG 3 rfl (pgs_cons (pg_name (i := 0) (show List.Nodup (α := Str) ["name", "names", "body", "old", "new"] by decide +kernel) rfl (Or.inl (lookup_relabel_local rfl)) (Or.inr (lookup_relabel_local rfl))) (pgs_cons (pg_name (i := 1) (show List.Nodup (α := Str) ["name", "names", "body", "old", "new"] by decide +kernel) rfl (Or.inl (lookup_relabel_local rfl)) (Or.inr (lookup_relabel_local rfl))) (pgs_cons (pg_name (i := 2) (show List.Nodup (α := Str) ["name", "names", "body", "old", "new"] by decide +kernel) rfl (Or.inl (lookup_relabel_local rfl)) (Or.inr (lookup_relabel_local rfl))) pgs_nil))))) (fun _ _ _ _ => pts_nil) (fun _ _ _ _ => (pe_tupG (pa_c (pv 0) (pa_c (pv 1) (pa_c (pe_def G__law_exchanged hr rfl (pa_c (pv 2) (pa_c (pv 3) (pa_c (pv 4) pa_nil)))) pa_nil))))))
  (pss_one (ps_ret (pe_cmpR (op_eqD hu64) (pe_def G__law_told hr rfl (pa_c (pe_op op_catT (pe_slice sl_g (pv 2) po_none (po_some pe_int)) (pe_tupG (pa_c (pv 9) pa_nil))) pa_nil)) (pe_lstG (pa_c (pe_lstG (pa_c (pv 8) pa_nil)) (pa_c pe_bl pa_nil))) (nomark _)))))))))))))), ?_⟩
  walk_at "r2"
  refine ⟨a, ns, 0, rfl, sq, fun hd => ?_⟩
  walk_at "r2"
  refine ⟨a, ns, hd, rfl, sq, l63, fun p1 rv pv1 H1 g0 g1 h1 rp1 ok1 sh1 kn1 go1 hn1 => ?_⟩
  obtain ⟨pt, rfl⟩ : ∃ pt, pv1 = .ref pt := by cases rp1 with | tup _ _ => exact ⟨_, rfl⟩
  walk_at "r2"
  refine ⟨pt, g0, hd, rfl, rp1, ok1, sh1, fun r H2 g g2 rp2 ok2 nd2 nm2 => ?_⟩
  have nb := not_both nm2 go1 hn1
  rw [← nd2.ks] at kn1
  have fn := nd2.fn
  clear rp1 ok1 sh1 h1 nd2 nm2 go1 hn1
  walk_at "r2"
  refine ⟨r, g, rfl, rp2, ok2, fun du H3 ys hdu g3 h3 r3 => ?_⟩
  have sq3 : SqL K H3 a (ns.map V.int) := (g1.trans (g2.trans g3)).seq sq
  have rp3 := rp2.mono g3
  clear sq g1 g2 g3 hdu
  walk_at "r2"
  refine ⟨r, g, rfl, rp3, ok2, fun v4 H4 g4 r4 => ?_⟩
  have h34 := g4 _ _ h3
  clear h3
  have layF : DG 2 (.list (flP g)) := dg_lst ok2.fl (Nat.le_trans (flP_len g) ok2.cnt)
  have shF : SeqAt.shaped (.list (flP g)) = true := dg_sh layF (by omega)
  have layT : DG 3 (toldD g) := dg_lst (all_cons layF (all_cons dg_bl all_nil)) (by show 2 ≤ 1000; decide)
  have shT := dg_sh layT (by decide)
  have eqT : PyData.eqv (toldD g) (toldD g) = true := SeqAt.eqv_refl _ layT.1
  walk_at "r2"
  intro p5 H5 hp5 g5 h5
  have h35 := g5 _ _ h34
  clear h34
  refine ⟨_, _, .lst h35 (r3.mono (g4.trans g5)), .lst h5 .nil, shF, by decide, ?_⟩
  rw [eqv_nil]
  walk_at "r2"
  intro p6 H6 hp6 g6 h6
  have h36 := g6 _ _ h35
  clear h35 h5
  have g36 := g4.trans (g5.trans g6)
  refine ⟨_, _, r4.mono (g5.trans g6), .lst h6 (.cons (.lst h36 (r3.mono g36)) (.cons (.bl _) .nil)), shT, shT, ?_⟩
  rw [show PyData.eqv (toldD g) (.list [.list (flP g), .bool (flP g).isEmpty]) = true from eqT]
  have rp6 := rp3.mono g36
  have r36 := r3.mono g36
  have sq6 := g36.seq sq3
  clear h6 rp3 r3 sq3 g36 rp2 hp6 hp5 g6 g5 g4
  walk_at "r2"
  refine tcomp_in ?_
  simp only [iList]
  walk_at "r2"
  have lys : ys.length ≤ 1000 := by rw [r36.len]; exact Nat.le_trans (flP_len g) ok2.cnt
  refine ⟨⟨_, SqL.of h36⟩, compJ_list h36 (by omega) FuP (fun H' _ => ⟨rfl, _, rfl⟩) ?_ ?_⟩
  · rintro D i v ys' σ1 H7 hx at1 pv
    obtain ⟨rfl, v0, rfl⟩ := pv
    obtain ⟨d, hd', rd⟩ := r36.get hx
    have md := List.mem_of_getElem? hd'
    rw [flP_or] at md
    obtain ⟨s', ms, md⟩ := List.mem_flatMap.mp md
    obtain ⟨aa, kk, rfl⟩ := fn s' ms d md
    obtain ⟨dp, x1, x2, x3, rfl, hdp, q1, q2, q3⟩ := Rp.tup3 (rd.mono at1.same)
    cases q1
    cases q2
    cases q3
    clear h36
    walk_at "r2"
    exact at1.skip (Same.refl _) ⟨rfl, _, rfl⟩
  rintro D7 ys' σ1 H7 hD g7 hy hle pv
  obtain ⟨rfl, v0, rfl⟩ := pv
  have h37 := g7 _ _ h36
  clear h36
  walk_at "r2"
  intro p8 H8 hp8 g8 h8
  refine ⟨.list [], .list [], .lst (g8 _ _ hy) .nil, .lst h8 .nil, by decide, by decide, ?_⟩
  rw [show PyData.eqv (.list []) (.list []) = true from rfl]
  have h38 := g8 _ _ h37
  have g68 := g7.trans g8
  have rp8 := rp6.mono g68
  have r38 := r36.mono g68
  have sq8 := g68.seq sq6
  clear h37 h8 hy rp6 r36 sq6 g68 g7 g8 hp8 hD
  walk_at "r2"
  refine tcomp_in ?_
  simp only [iList]
  walk_at "r2"
  refine ⟨r, g, H8, rfl, Same.refl _, rp8, ok2, fun io H9 zs hio g9 h9 r9 => ?_⟩
  walk_at "r2"
  have lzs : zs.length ≤ 1000 := by rw [r9.len, List.length_map]; exact ok2.cnt
  refine ⟨⟨_, SqL.of h9⟩, compJ_list h9 (by omega) (SmP K H8 (orP g)) (fun H' _ => ⟨.nil, _, rfl⟩) ?_ ?_⟩
  · rintro D i v ys' σ1 H10 hx at1 pv
    obtain ⟨ry, v0, rfl⟩ := pv
    obtain ⟨d, hd', rd⟩ := r9.get hx
    rw [List.getElem?_map] at hd'
    obtain ⟨sm, hs, rfl⟩ := Option.map_eq_some_iff.mp hd'
    obtain ⟨n', oks⟩ := orP_ok ok2 (List.mem_of_getElem? hs)
    obtain ⟨wd, rr, es, iw⟩ := isN_w oks
    have rd0 := rd
    rw [es] at rd
    obtain ⟨xp, ts, rfl, a1, a2⟩ := rd.tup_inv
    cases a2 with | cons a2 a3 =>
    cases a2
    have hx2 := at1.same _ _ (g9 _ _ a1)
    have tk : (((orP g).take (i + 1)).filter isN) = ((orP g).take i).filter isN ++ if isN sm then [sm] else [] := by
      rw [take_snoc hs, List.filter_append]
      congr 1
      cases h : isN sm <;> simp [h]
    clear h9 h38
    walk_at "r2"
    intro p11 H11 hp11 g11 h11
    replace h11 : H11 p11 = some (.lst (w6.map V.str)) := h11
    clear hx2
    walk_at "r2"
    refine ⟨all_flat w6, isN sm, congrArg V.bl (by rw [if_neg (by decide), inV_strs, iw]), ?_⟩
    cases isn : isN sm with
    | true =>
      rw [isn, if_pos rfl] at tk
      refine iteT ?_
      clear h11
      walk_at "r2"
      exact at1.put g11 fun H12 mu => ⟨by rw [tk, List.map_append]; exact RpL.app (.cons rd0 .nil) ry, _, rfl⟩
    | false =>
      rw [isn, if_neg (by decide), List.append_nil] at tk
      refine iteF ?_
      exact at1.skip g11 ⟨by rw [tk]; exact ry, _, rfl⟩
  rintro D10 ys' σ1 H10 hD g10 hy hle pv
  obtain ⟨ry, v0, rfl⟩ := pv
  rw [List.take_of_length_le (by have := r9.len; rw [List.length_map] at this; omega)] at ry
  have h310 := g10 _ _ (g9 _ _ h38)
  clear h38 h9
  walk_at "r2"
  intro p11 H11 hp11 g11 h11
  have h311 := g11 _ _ h310
  have g811 := g9.trans (g10.trans g11)
  refine ⟨_, _, .lst h311 (r38.mono g811), .lst h11 .nil, shF, by decide, ?_⟩
  rw [eqv_nil]
  cases cF : flP g with
  | cons d0 F0 =>
    walk_at "r2"
    exact q _
  | nil =>
  rw [cF] at r38
  walk_at "r2"
  refine iteF ?_
  clear h11
  walk_at "r2"
  intro p12 H12 hp12 g12 h12
  have hy12 := g12 _ _ (g11 _ _ hy)
  refine ⟨_, _, _, rfl, rfl, hy12, h12, ?_⟩
  have g812 := g811.trans g12
  have rp12 := rp8.mono g812
  have sq12 := g812.seq sq8
  clear h12
  cases cY : ys' with
  | nil =>
    walk_at "r2"
    exact q _
  | cons y0 Y0 =>
  rw [← cY]
  have y0 : 0 < ys'.length := by rw [cY]; exact Nat.succ_pos _
  refine ⟨false, by rw [cY]; rfl, ?_⟩
  clear cY
  walk_at "r2"
  refine ⟨a, ns, 1, rfl, sq12, fun c1 => ?_⟩
  walk_at "r2"
  refine ⟨_, _, rfl, by omega, by omega, fun m em m0 m1 => ?_⟩
  clear em
  obtain ⟨nv, hnv, mnv, _⟩ := atI_in (xs := ys') (i := m % (ys'.length : Int)) (Int.emod_nonneg _ (by omega)) (Int.emod_lt_of_pos _ (by omega))
  obtain ⟨j, hj⟩ := List.getElem?_of_mem mnv
  obtain ⟨d, hd', rd⟩ := ry.get hj
  rw [List.getElem?_map] at hd'
  obtain ⟨sm, hs, rfl⟩ := Option.map_eq_some_iff.mp hd'
  obtain ⟨msm, isn⟩ := List.mem_filter.mp (List.mem_of_getElem? hs)
  obtain ⟨n', oks⟩ := orP_ok ok2 msm
  obtain ⟨ok0, os, wd, kd, sp⟩ := isN_spl oks isn
  have fls : flS g.N sm = [] := by
    rw [flP_or] at cF
    exact List.flatMap_eq_nil_iff.mp cF sm msm
  obtain ⟨d2, d3, es⟩ := sp.d
  obtain ⟨o, rfl⟩ : ∃ o, nv = .ref o := by
    rw [es] at rd
    obtain ⟨o, _, rfl, _⟩ := rd.tup_inv
    exact ⟨_, rfl⟩
  have ro12 := rd.mono g812
  clear rd hs hd' hj mnv es ry r9 hio hD hle
  walk_at "r2"
  refine ⟨by omega, ?_⟩
  walk_at "r2"
  refine ⟨o, r, (m / 63).toNat, sm, wd, kd, g, by rw [Int.toNat_of_nonneg (by omega)], by omega, ro12, ok0, sp, fls, rp12, ok2, nb, fun b c f H13 z fd g13 h13 rc rf kz okz oz flz => ?_⟩
  have rp13 := rp12.mono g13
  have ro13 := ro12.mono g13
  clear hy12 h311 h310 hy rp12 ro12 rp8 sq12 sq8 hnv
  walk_at "r2"
  obtain ⟨ia, ib, ic, id, ta, sa, ra, ha, k0, k1, k2, k3, k4, r1, r2, r3, r4⟩ := pg_of rp13
  clear h13
  refine tcomp_in ?_
  simp only [iList]
  walk_at "r2"
  have g100 := ok2.sz.h
  have l4 := r4.len
  rw [List.length_map] at l4
  refine ⟨⟨_, SqL.of k4⟩, compJD_list k4 (by omega) (HxP K (kS sm) z H13 g.h (some (.ref o)) (some (.ref c))) (fun D H' _ _ _ => ⟨.nil, _, _, _, rfl⟩) ?_ ?_⟩
  · intro D i v yt σ1 H14 hv at1 z1
    obtain ⟨ry, v0, v1, v2, rfl⟩ := z1
    obtain ⟨d, hd', rd⟩ := r4.get hv
    rw [List.getElem?_map] at hd'
    obtain ⟨h, hh, rfl⟩ := Option.map_eq_some_iff.mp hd'
    have mh := List.mem_of_getElem? hh
    obtain ⟨pp, np, bp, nsv, rfl, e1, e2, e3, e4⟩ := hd_of rd
    have e1' := at1.same _ _ e1
    clear k0 k4
    walk_at "r2"
    refine ⟨_, _, _, h.2.2, 6, sm, z, H13, rfl, at1.same, e4, ok2.hb h mh, by decide, Nat.le_trans (or_hand mh) ok2.cnt, ro13, ⟨_, ok0⟩, rc, fun r' H15 g15 r15 => ?_⟩
    walk_at "r2"
    intro p16 H16 hp16 g16 h16
    refine at1.put (g15.trans g16) fun H17 mu => ⟨?_, _, _, _, rfl⟩
    rw [take_snoc hh, List.map_append]
    have rr : Rp K (kp H13 H14 H16) (.ref p16) (hdD (h.1, h.2.1, exB (kS sm) z h.2.2)) := .tup (kp_new (g15.free hp16) h16) (.cons (.str _) (.cons ((Rp.lst e2 e3).mono (kp_base (at1.same.trans (g15.trans g16)))) (.cons (r15.mono (kp_mono (Same.refl _) g16)) .nil)))
    exact RpL.app (.cons (rr.mono (kp_item at1.same at1.new at1.lst mu)) .nil) (ry.mono (kp_own (g15.trans g16) mu))
  intro D14 yt σ1 H14 hD14 g14 hy _ z1
  obtain ⟨ry, _⟩ := z1
  rw [List.take_of_length_le (by omega)] at ry
  have k014 := g14 _ _ k0
  have hy' := hy
  clear k0 k4
  walk_at "r2"
  refine ⟨by decide, fun c15 H15 hc15 g15 h15 => ?_⟩
  rw [show (3 : Int) = ((3 : Nat) : Int) from rfl, cutV_take] at h15
  have hy2 := g15 _ _ hy
  clear k014 hy
  walk_at "r2"
  intro p16 H16 hp16 g16 h16
  walk_at "r2"
  refine ⟨_, _, _, _, rfl, rfl, SqT.of (g16 _ _ h15), SqT.of h16, by simp, by show 3 + 1 ≤ sizeLine; omega, fun z => by simp at z, fun _ p17 hp17 => ?_⟩
  have g1417 : Same H14 (upd H16 p17 (.tup ([V.ref ia, V.ref ib, V.ref ic, V.ref id].take 3 ++ [V.ref D14]))) := g15.trans (g16.trans (same_new hp17 _))
  have g1317 := g14.trans g1417
  have okx : (exP (kS sm) z g).Ok := exP_ok ok2 okz oz
  have flx : flP (exP (kS sm) z g) = [fd] := exP_fl oz flz msm os cF kn1
  have rpx : Rp K (upd H16 p17 (.tup ([V.ref ia, V.ref ib, V.ref ic, V.ref id].take 3 ++ [V.ref D14]))) (.ref p17) (exP (kS sm) z g).D := .tup upd_same (.cons (.lst (g1317 _ _ k1) (r1.mono g1317)) (.cons (.lst (g1317 _ _ k2) (r2.mono g1317)) (.cons (.lst (g1317 _ _ k3) (r3.mono g1317)) (.cons (.lst (g1417 _ _ hy') (by rw [show (exP (kS sm) z g).h = g.h.map fun h => (h.1, h.2.1, exB (kS sm) z h.2.2) from rfl, List.map_map]; exact ry.mono fun a u e => g1417 _ _ (kp_le a u (hide_le a u e)))) .nil))))
  refine ⟨p17, _, rfl, rpx, okx, fun v18 H18 g18 r18 => ?_⟩
  have g1318 := g1317.trans g18
  have rf18 := rf.mono g1318
  have layF : DG 2 (.list [fd]) := by rw [← flx]; exact dg_lst okx.fl (Nat.le_trans (flP_len _) okx.cnt)
  have layT : DG 3 (.list [.list [fd], .bool false]) := dg_lst (all_cons layF (all_cons dg_bl all_nil)) (by show 2 ≤ 1000; decide)
  have shT := dg_sh layT (by decide)
  have eqT : PyData.eqv (.list [.list [fd], .bool false]) (.list [.list [fd], .bool false]) = true := SeqAt.eqv_refl _ layT.1
  rw [show toldD (exP (kS sm) z g) = .list [.list [fd], .bool false] by unfold toldD; rw [flx]; rfl] at r18
  clear hy2 h15 h16
  walk_at "r2"
  intro p19 H19 hp19 g19 h19
  walk_at "r2"
  intro p20 H20 hp20 g20 h20
  refine ⟨_, _, r18.mono (g19.trans g20), .lst h20 (.cons (.lst (g20 _ _ h19) (.cons (rf18.mono (g19.trans g20)) .nil)) (.cons (.bl _) .nil)), shT, shT, ?_⟩
  rw [eqT]
  exact q _
end
end K14
set_option Elab.async false
set_option linter.all false
set_option maxRecDepth 100000
set_option maxHeartbeats 4000000
namespace K14
open PySem L2
def sees : List Nat := [1, 3, 4, 5, 6, 7, 8, 10, 11, 12, 13, 14, 15, 16, 17, 18, 19, 20, 21, 22, 23, 24, 25, 26, 27, 28, 29, 30, 31, 32, 33, 34, 35, 36, 37]
noncomputable def see (p : Program) (K : PySem.W.Frag) := (sees.map fun i => HD.defLook K (p.main.body.getD i (.Pass ⟨0, 0, 0, 0⟩)), HD.All [HD.isNo K "len",
    HD.isNo K "isinstance",
    HD.isNo K "list",
    HD.isNo K "tuple",
    HD.isNo K "bool",
    HD.isNo K "range",
    HD.isNo K "str",
    HD.isNo K "int",
    HD.isNo K "reversed",
    HD.isNo K "max"])
noncomputable def saw (p : Program) (w : World) := (sees.map fun i => HD.fnSaw (HD.defName (p.main.body.getD i (.Pass ⟨0, 0, 0, 0⟩))) (HD.defName (p.main.body.getD i (.Pass ⟨0, 0, 0, 0⟩))) (p.main.body.getD i (.Pass ⟨0, 0, 0, 0⟩)), true)
theorem all_mk {l : PySem.W.OpenLaw} {w : World} {K : PySem.W.Frag} {h : Heap} {mg : Str → Option Value} {fa : Addr} (S : see PySem.Challenge.pw_rerunyard_k14_whole_sound_programs K = saw PySem.Challenge.pw_rerunyard_k14_whole_sound_programs w) (X : K.In h) (G : h.Ns mainGlobals mg) (hfa : mg "law" = some (.ref fa)) :
    ∃ fd : FuncData, (∀ (s : Shared) (v : Value), BindsTo s fd ⟨[v], []⟩ [("script", v)]) ∧ ∀ base : Heap, K.In base → base.Ns mainGlobals mg → FnOk l.prog w K mg base CX0 64 fa fd ["script"] (spLaw K) := by
  have E := congrArg Prod.fst S
  have B := congrArg Prod.snd S
  clear S
  obtain ⟨e, E⟩ := HD.fst_of E
  have A_bodies_of : DefAt K mg "bodies_of" s_bodies_of ["statement"] := HD.defAt_of X G e rfl fun _ _ _ _ _ _ us hl => L2.len1 us hl (fun _ => rfl)
  clear e
  obtain ⟨e, E⟩ := HD.fst_of E
  have A_faults : DefAt K mg "faults" s_faults ["program"] := HD.defAt_of X G e rfl fun _ _ _ _ _ _ us hl => L2.len1 us hl (fun _ => rfl)
  clear e
  obtain ⟨e, E⟩ := HD.fst_of E
  have A_sound : DefAt K mg "sound" s_sound ["program"] := HD.defAt_of X G e rfl fun _ _ _ _ _ _ us hl => L2.len1 us hl (fun _ => rfl)
  clear e
  obtain ⟨e, E⟩ := HD.fst_of E
  have A_faults_of_body : DefAt K mg "faults_of_body" s_faults_of_body ["body", "program"] := HD.defAt_of X G e rfl fun _ _ _ _ _ _ us hl => L2.len2 us hl (fun _ _ => rfl)
  clear e
  obtain ⟨e, E⟩ := HD.fst_of E
  have A_faults_of_statement : DefAt K mg "faults_of_statement" s_faults_of_statement ["statement", "program"] := HD.defAt_of X G e rfl fun _ _ _ _ _ _ us hl => L2.len2 us hl (fun _ _ => rfl)
  clear e
  obtain ⟨e, E⟩ := HD.fst_of E
  have A_fault_of_name : DefAt K mg "fault_of_name" s_fault_of_name ["kind", "k", "name", "ones"] := HD.defAt_of X G e rfl fun _ _ _ _ _ _ us hl => L2.len4 us hl (fun _ _ _ _ => rfl)
  clear e
  obtain ⟨e, E⟩ := HD.fst_of E
  have A_fault_of_start : DefAt K mg "fault_of_start" s_fault_of_start ["statement", "hands"] := HD.defAt_of X G e rfl fun _ _ _ _ _ _ us hl => L2.len2 us hl (fun _ _ => rfl)
  clear e
  obtain ⟨e, E⟩ := HD.fst_of E
  have A__law_cell_at : DefAt K mg "_law_cell_at" s__law_cell_at ["script", "k"] := HD.defAt_of X G e rfl fun _ _ _ _ _ _ us hl => L2.len2 us hl (fun _ _ => rfl)
  clear e
  obtain ⟨e, E⟩ := HD.fst_of E
  have A__law_stir : DefAt K mg "_law_stir" s__law_stir ["cell", "k"] := HD.defAt_of X G e rfl fun _ _ _ _ _ _ us hl => L2.len2 us hl (fun _ _ => rfl)
  clear e
  obtain ⟨e, E⟩ := HD.fst_of E
  have A__law_barred : DefAt K mg "_law_barred" s__law_barred [] := HD.defAt_of X G e rfl fun _ _ _ _ _ _ us hl => match us, hl with | [], _ => rfl
  clear e
  obtain ⟨e, E⟩ := HD.fst_of E
  have A__law_names : DefAt K mg "_law_names" s__law_names ["head", "k", "many"] := HD.defAt_of X G e rfl fun _ _ _ _ _ _ us hl => L2.len3 us hl (fun _ _ _ => rfl)
  clear e
  obtain ⟨e, E⟩ := HD.fst_of E
  have A__law_name : DefAt K mg "_law_name" s__law_name ["number"] := HD.defAt_of X G e rfl fun _ _ _ _ _ _ us hl => L2.len1 us hl (fun _ => rfl)
  clear e
  obtain ⟨e, E⟩ := HD.fst_of E
  have A__law_leaf : DefAt K mg "_law_leaf" s__law_leaf ["number"] := HD.defAt_of X G e rfl fun _ _ _ _ _ _ us hl => L2.len1 us hl (fun _ => rfl)
  clear e
  obtain ⟨e, E⟩ := HD.fst_of E
  have A__law_tree : DefAt K mg "_law_tree" s__law_tree ["cell", "k", "deep"] := HD.defAt_of X G e rfl fun _ _ _ _ _ _ us hl => L2.len3 us hl (fun _ _ _ => rfl)
  clear e
  obtain ⟨e, E⟩ := HD.fst_of E
  have A__law_worded : DefAt K mg "_law_worded" s__law_worded ["tree", "more"] := HD.defAt_of X G e rfl fun _ _ _ _ _ _ us hl => L2.len2 us hl (fun _ _ => rfl)
  clear e
  obtain ⟨e, E⟩ := HD.fst_of E
  have A__law_deepest : DefAt K mg "_law_deepest" s__law_deepest ["word"] := HD.defAt_of X G e rfl fun _ _ _ _ _ _ us hl => L2.len1 us hl (fun _ => rfl)
  clear e
  obtain ⟨e, E⟩ := HD.fst_of E
  have A__law_expr : DefAt K mg "_law_expr" s__law_expr ["cell", "k"] := HD.defAt_of X G e rfl fun _ _ _ _ _ _ us hl => L2.len2 us hl (fun _ _ => rfl)
  clear e
  obtain ⟨e, E⟩ := HD.fst_of E
  have A__law_good : DefAt K mg "_law_good" s__law_good ["head", "k", "name"] := HD.defAt_of X G e rfl fun _ _ _ _ _ _ us hl => L2.len3 us hl (fun _ _ _ => rfl)
  clear e
  obtain ⟨e, E⟩ := HD.fst_of E
  have A__law_goods : DefAt K mg "_law_goods" s__law_goods ["head"] := HD.defAt_of X G e rfl fun _ _ _ _ _ _ us hl => L2.len1 us hl (fun _ => rfl)
  clear e
  obtain ⟨e, E⟩ := HD.fst_of E
  have A__law_plain : DefAt K mg "_law_plain" s__law_plain ["cell", "k"] := HD.defAt_of X G e rfl fun _ _ _ _ _ _ us hl => L2.len2 us hl (fun _ _ => rfl)
  clear e
  obtain ⟨e, E⟩ := HD.fst_of E
  have A__law_opener : DefAt K mg "_law_opener" s__law_opener ["cell", "k"] := HD.defAt_of X G e rfl fun _ _ _ _ _ _ us hl => L2.len2 us hl (fun _ _ => rfl)
  clear e
  obtain ⟨e, E⟩ := HD.fst_of E
  have A__law_hand : DefAt K mg "_law_hand" s__law_hand ["hands", "head", "opened"] := HD.defAt_of X G e rfl fun _ _ _ _ _ _ us hl => L2.len3 us hl (fun _ _ _ => rfl)
  clear e
  obtain ⟨e, E⟩ := HD.fst_of E
  have A__law_row : DefAt K mg "_law_row" s__law_row ["cell", "k", "opened", "most"] := HD.defAt_of X G e rfl fun _ _ _ _ _ _ us hl => L2.len4 us hl (fun _ _ _ _ => rfl)
  clear e
  obtain ⟨e, E⟩ := HD.fst_of E
  have A__law_built : DefAt K mg "_law_built" s__law_built ["script", "head"] := HD.defAt_of X G e rfl fun _ _ _ _ _ _ us hl => L2.len2 us hl (fun _ _ => rfl)
  clear e
  obtain ⟨e, E⟩ := HD.fst_of E
  have A__law_menu : DefAt K mg "_law_menu" s__law_menu ["program", "kind", "other"] := HD.defAt_of X G e rfl fun _ _ _ _ _ _ us hl => L2.len3 us hl (fun _ _ _ => rfl)
  clear e
  obtain ⟨e, E⟩ := HD.fst_of E
  have A__law_statement : DefAt K mg "_law_statement" s__law_statement ["told", "program", "head", "other"] := HD.defAt_of X G e rfl fun _ _ _ _ _ _ us hl => L2.len4 us hl (fun _ _ _ _ => rfl)
  clear e
  obtain ⟨e, E⟩ := HD.fst_of E
  have A__law_body : DefAt K mg "_law_body" s__law_body ["body", "program", "head", "other"] := HD.defAt_of X G e rfl fun _ _ _ _ _ _ us hl => L2.len4 us hl (fun _ _ _ _ => rfl)
  clear e
  obtain ⟨e, E⟩ := HD.fst_of E
  have A__law_named : DefAt K mg "_law_named" s__law_named ["program", "head", "other"] := HD.defAt_of X G e rfl fun _ _ _ _ _ _ us hl => L2.len3 us hl (fun _ _ _ => rfl)
  clear e
  obtain ⟨e, E⟩ := HD.fst_of E
  have A__law_in_order : DefAt K mg "_law_in_order" s__law_in_order ["program"] := HD.defAt_of X G e rfl fun _ _ _ _ _ _ us hl => L2.len1 us hl (fun _ => rfl)
  clear e
  obtain ⟨e, E⟩ := HD.fst_of E
  have A__law_due : DefAt K mg "_law_due" s__law_due ["program"] := HD.defAt_of X G e rfl fun _ _ _ _ _ _ us hl => L2.len1 us hl (fun _ => rfl)
  clear e
  obtain ⟨e, E⟩ := HD.fst_of E
  have A__law_copied : DefAt K mg "_law_copied" s__law_copied ["thing"] := HD.defAt_of X G e rfl fun _ _ _ _ _ _ us hl => L2.len1 us hl (fun _ => rfl)
  clear e
  obtain ⟨e, E⟩ := HD.fst_of E
  have A__law_spoilt : DefAt K mg "_law_spoilt" s__law_spoilt ["told", "program", "number"] := HD.defAt_of X G e rfl fun _ _ _ _ _ _ us hl => L2.len3 us hl (fun _ _ _ => rfl)
  clear e
  obtain ⟨e, E⟩ := HD.fst_of E
  have A__law_exchanged : DefAt K mg "_law_exchanged" s__law_exchanged ["body", "old", "new"] := HD.defAt_of X G e rfl fun _ _ _ _ _ _ us hl => L2.len3 us hl (fun _ _ _ => rfl)
  clear e
  obtain ⟨e, E⟩ := HD.fst_of E
  have A__law_told : DefAt K mg "_law_told" s__law_told ["program"] := HD.defAt_of X G e rfl fun _ _ _ _ _ _ us hl => L2.len1 us hl (fun _ => rfl)
  clear e
  obtain ⟨e, E⟩ := HD.fst_of E
  obtain ⟨fd, FL, hbi⟩ := HD.law_fun (st := s_law) (x := "law") (y := "script") X G e rfl hfa fun _ _ _ _ _ _ s v => .of_eq rfl
  clear e
  clear E
  obtain ⟨b, B⟩ := HD.all_cons B
  have hlen := HD.no_of X G b
  clear b
  obtain ⟨b, B⟩ := HD.all_cons B
  have hisinstance := HD.no_of X G b
  clear b
  obtain ⟨b, B⟩ := HD.all_cons B
  have hlist := HD.no_of X G b
  clear b
  obtain ⟨b, B⟩ := HD.all_cons B
  have htuple := HD.no_of X G b
  clear b
  obtain ⟨b, B⟩ := HD.all_cons B
  have hbool := HD.no_of X G b
  clear b
  obtain ⟨b, B⟩ := HD.all_cons B
  have hrange := HD.no_of X G b
  clear b
  obtain ⟨b, B⟩ := HD.all_cons B
  have hstr := HD.no_of X G b
  clear b
  obtain ⟨b, B⟩ := HD.all_cons B
  have hint := HD.no_of X G b
  clear b
  obtain ⟨b, B⟩ := HD.all_cons B
  have hreversed := HD.no_of X G b
  clear b
  obtain ⟨b, B⟩ := HD.all_cons B
  have hmax := HD.no_of X G b
  clear b
  clear B
  refine ⟨fd, hbi, fun base _ _ => ?_⟩
  exact by
    have Gfn := ok_fn (P := l.prog) (w := w) (base := base) A_fault_of_name
    have Gbo := ok_bo (P := l.prog) (w := w) (base := base) A_bodies_of
    have Gfs := ok_fs A_fault_of_start hlen Gfn
    have Gft := ok_ft A_faults_of_statement Gfn Gfs
    have Gfb := ok_fb A_faults_of_body Gft Gbo 7
    have Gfp := ok_fp A_faults Gfb
    have Gso := ok_so A_sound Gfp
    have Gco := ok_co (P := l.prog) (w := w) (base := base) A__law_copied hisinstance hlist htuple 61
    have Gio := ok_io (P := l.prog) (w := w) (base := base) A__law_in_order hlist hreversed
    have Gdu := ok_du A__law_due hlen Gio
    have Gstir := ok_stir (P := l.prog) (w := w) (base := base) A__law_stir
    have Gme := ok_me (P := l.prog) (w := w) (base := base) A__law_menu hint
    have Gst := ok_st A__law_statement hint hlen Gstir Gme
    have Glb := ok_lb A__law_body htuple Gst 7
    have Gna := ok_na A__law_named Glb
    have Gnm := ok_nm (P := l.prog) (w := w) (base := base) A__law_name
    have Glf := ok_lf A__law_leaf Gnm
    have Gtr := ok_tree A__law_tree Gstir Glf 4
    have Gwd := ok_worded (P := l.prog) (w := w) (base := base) A__law_worded hlen hstr 4
    have Gde := ok_de (P := l.prog) (w := w) (base := base) A__law_deepest hint hmax
    have Gex := ok_ex A__law_expr hlen Gstir Gtr Gwd Gde
    have Gba := ok_barred (P := l.prog) (w := w) (base := base) A__law_barred
    have Gns := ok_ns A__law_names hrange Gstir Gba
    have Gop := ok_op A__law_opener Gstir Gex
    have Gpl := ok_pl A__law_plain hrange Gstir Gnm Gex
    have Ggo := ok_go A__law_good hrange hstr Gstir
    have Ggd := ok_gd A__law_goods hrange hlen Gstir Gns Ggo
    have Gha := ok_ha A__law_hand hlen Gstir Gns
    have Gro := ok_ro A__law_row hlen hlist Gstir Gop Gpl
    have Gbu := ok_bu A__law_built hlen hint Gstir Ggd Gha Gro
    have Gca := ok_cell (P := l.prog) (w := w) (base := base) A__law_cell_at hlen
    have Gto := ok_to A__law_told hisinstance hbool Gco Gfp Gso
    have Gsp := ok_sp (P := l.prog) (w := w) (base := base) A__law_spoilt hlen
    have Gxc := ok_xc (P := l.prog) (w := w) (base := base) A__law_exchanged htuple 7
    exact ok_law FL hlen Gca Gstir Gbu Gna Gdu Gio Gto Gsp Gxc
theorem said_of (h : PySem.Challenge.rw_rerunyard_k14_whole_sound_programs.row.wellSaid = true → PySem.Challenge.rw_rerunyard_k14_whole_sound_programs.row.Holds) : PySem.Challenge.rw_rerunyard_k14_whole_sound_programs.Holds := by
  open PySem.W in o_law
  exact h (by assumption)
abbrev Runs (p : Program) (w : World) : Prop := ∀ os : OsState, HD.runQ p w 200 (HD.lookK p (PySem.W.view p [37]) (HD.ofOthers p "law") (fun _ => true) (see p) w) 40 (HD.begin0 w os) (PySem.W.topStub p) = some (true, PySem.W.openGood (PySem.W.view p [37]) (HD.ofOthers p "law"), saw p w)
theorem run_f (w : World) : Runs PySem.W.Fast.tw6706123112021375279 (w.withFollow "special-get-raises" false) := fun os => by kernel_rfl
theorem run_t (w : World) : Runs PySem.W.Fast.tw6706123112021375279 (w.withFollow "special-get-raises" true) := fun os => by kernel_rfl
theorem runs (w : World) : Runs PySem.Challenge.pw_rerunyard_k14_whole_sound_programs w := HD.turn_of (P := fun p => Runs p w) PySem.W.Fast.te6706123112021375279 ((PySem.W.byRow2 "special-get-raises" (P := fun w => Runs PySem.W.Fast.tw6706123112021375279 w) run_f run_t) w)
end K14
open PySem PySem.W PyProof.Rows
set_option maxRecDepth 100000 in
set_option maxHeartbeats 0 in
theorem PySem.Challenge.cw_rerunyard_k14_whole_sound_programs_holds : PySem.Challenge.rw_rerunyard_k14_whole_sound_programs.Holds := by
  refine K14.said_of fun said => ?_
  refine HD.holds_see (l := PySem.Challenge.rw_rerunyard_k14_whole_sound_programs) (i := 37) (N := 8000) (m := 200) (n := 40) (see := K14.see PySem.Challenge.pw_rerunyard_k14_whole_sound_programs) (saw := K14.saw PySem.Challenge.pw_rerunyard_k14_whole_sound_programs) said rfl (fun _ => rfl) rfl rfl K14.runs (by rfl) (by rfl) (by rfl) (by decide +kernel) ⟨rfl, rfl, rfl, rfl, rfl, by decide +kernel⟩ ?hw ?hc
  case hw => w_witness2
  case hc => exact HD.walk_see (l := PySem.Challenge.rw_rerunyard_k14_whole_sound_programs) (n := 63) (k := 64) (x := "script") (CX := L2.CX0) (sp := K14.spLaw) rfl (by decide) rfl ⟨rfl, by decide, by decide⟩ (fun w K mg fa h S X G hfa => K14.all_mk S X G hfa) (fun _ _ a ns hl _ hS => ⟨a, ns, rfl, hS, hl, fun _ => rfl⟩) fun _ _ _ _ z => z
#print axioms PySem.Challenge.cw_rerunyard_k14_whole_sound_programs_holds
