import PyProof.Rows.All
import Wide.All
import OpenK.AllK
import Wide.FinOn
import Lean
import PyProof.EqAt
import PyProof.EqKinds
import PyProof.TupleCall
import PyProof.ExcAttrAll.ValueError
import PySem.Challenge.RW_rerunyard_k09_faults_together
set_option genSizeOf false
set_option Elab.async false
set_option linter.all false
set_option maxRecDepth 100000
namespace L2
open PySem PySem.Spec PyProof.Rows
abbrev Key := Sum Int Str
def keyIs : Key → Value → Bool
  | .inl k, v => Value.isInt k v
  | .inr x, v => Value.isStrOf x v
def keyH (w : World) : Key → Int
  | .inl k => hashInt k
  | .inr x => hashStr w x
theorem keyIs_shape : ∀ {k : Key} {v : Value}, keyIs k v = true → (∃ i t, k = Sum.inl i ∧ v = Value.int i t) ∨ (∃ x t, k = Sum.inr x ∧ v = Value.str x t)
  | .inl i, v, h => by
    obtain ⟨t, e⟩ := Value.isInt_shape (k := i) (v := v) h
    exact .inl ⟨i, t, rfl, e⟩
  | .inr x, v, h => by
    obtain ⟨t, e⟩ := Value.isStrOf_shape (x := x) (v := v) h
    exact .inr ⟨x, t, rfl, e⟩
theorem keyIs_int (i : Int) (t : Tok) : keyIs (.inl i) (.int i t) = true := by simp [keyIs, Value.isInt]
theorem keyIs_str (x : Str) (t : Tok) : keyIs (.inr x) (.str x t) = true := by simp [keyIs, Value.isStrOf]
theorem key_ll (a b : Int) : decide ((Sum.inl a : Key) = Sum.inl b) = (a == b) := by
  by_cases e : a = b
  · subst e; simp
  · have h : ¬ (Sum.inl a : Key) = Sum.inl b := fun q => e (Sum.inl.inj q)
    rw [decide_eq_false h]
    exact (beq_eq_false_iff_ne.mpr e).symm
theorem key_rr (a b : Str) : decide ((Sum.inr a : Key) = Sum.inr b) = decide (a = b) := by
  by_cases e : a = b
  · subst e; simp
  · have h : ¬ (Sum.inr a : Key) = Sum.inr b := fun q => e (Sum.inr.inj q)
    rw [decide_eq_false h, decide_eq_false e]
theorem key_lr (a : Int) (b : Str) : decide ((Sum.inl a : Key) = Sum.inr b) = false := decide_eq_false (fun q => nomatch q)
theorem key_rl (a : Str) (b : Int) : decide ((Sum.inr a : Key) = Sum.inl b) = false := decide_eq_false (fun q => nomatch q)
def mixKind (prog : Program) (w : World) : PySem.KeyKind prog w Key where
  is := keyIs
  hash := keyH w
  inj := fun v a b ha hb => by
    rcases keyIs_shape ha with ⟨i, t, rfl, rfl⟩ | ⟨x, t, rfl, rfl⟩
    · rcases keyIs_shape hb with ⟨j, u, rfl, e⟩ | ⟨y, u, rfl, e⟩
      · injection e with e1 _; rw [e1]
      · exact nomatch e
    · rcases keyIs_shape hb with ⟨j, u, rfl, e⟩ | ⟨y, u, rfl, e⟩
      · exact nomatch e
      · injection e with e1 _; rw [e1]
  byValue := fun k v h => by
    rcases keyIs_shape h with ⟨i, t, rfl, rfl⟩ | ⟨x, t, rfl, rfl⟩ <;> rfl
  pyHash := fun hv h => by
    rcases keyIs_shape hv with ⟨i, t, rfl, rfl⟩ | ⟨x, t, rfl, rfl⟩
    · exact wpAny_pyHash_int h
    · exact wpAny_pyHash_str h
  eqBool := fun hu hv h => by
    rcases keyIs_shape hu with ⟨i, t, rfl, rfl⟩ | ⟨x, t, rfl, rfl⟩
    · rcases keyIs_shape hv with ⟨j, u, rfl, rfl⟩ | ⟨y, u, rfl, rfl⟩
      · rw [key_ll] at h; exact wpAny_eqBool_int h
      · rw [key_lr] at h; exact SeqAt.EqAt.int_str i t y u _ _ _ _ h
    · rcases keyIs_shape hv with ⟨j, u, rfl, rfl⟩ | ⟨y, u, rfl, rfl⟩
      · rw [key_rl] at h; exact SeqAt.EqAt.str_int x t j u _ _ _ _ h
      · rw [key_rr] at h; exact wpAny_eqBool_str h
  «strs» := fun k x t v h => by
    rcases keyIs_shape h with ⟨i, u, rfl, e⟩ | ⟨y, u, rfl, e⟩
    · exact nomatch e
    · injection e with e1 _
      subst e1
      cases v <;> rfl
theorem mixKind_int (prog : Program) (w : World) (i : Int) (t : Tok) : (mixKind prog w).is (.inl i) (.int i t) = true := keyIs_int i t
theorem mixKind_str (prog : Program) (w : World) (x : Str) (t : Tok) : (mixKind prog w).is (.inr x) (.str x t) = true := keyIs_str x t
end L2
namespace L2
open PySem PySem.Spec PyProof.Rows
inductive V where
  | non | bl (b : Bool) | int (i : Int) | str (x : Str) | byt (b : Array UInt8) | flt (b : UInt64) | ref (a : Addr) | ty (n : String)
  deriving DecidableEq
def RelV : V → Value → Prop
  | .non, u => u = Value.none
  | .bl b, u => u = Value.bool b
  | .int i, u => ∃ t, u = Value.int i t
  | .str x, u => ∃ t, u = Value.str x t
  | .byt b, u => ∃ t, u = Value.bytes b t
  | .flt b, u => ∃ t, u = Value.float b t
  | .ref a, u => u = Value.ref a
  | .ty n, u => u = Value.type n
abbrev Vals : List V → List Value → Prop := Paired RelV
theorem Vals.length {xs : List V} {us : List Value} (r : Vals xs us) : xs.length = us.length := Paired.length r
theorem Vals.get : ∀ {xs : List V} {us : List Value} {i : Nat} {x : V}, Vals xs us → xs[i]? = some x → ∃ u, us[i]? = some u ∧ RelV x u
  | _, _, _, _, .nil, e => by simp at e
  | _, _, 0, _, .cons r _, e => by simp at e; subst e; exact ⟨_, rfl, r⟩
  | _, _, i + 1, x, .cons _ t, e => by
    obtain ⟨u, h1, h2⟩ := Vals.get (i := i) (x := x) t (by simpa using e)
    exact ⟨u, by simpa using h1, h2⟩
theorem Vals.set {x : V} {u : Value} (r : RelV x u) : ∀ {xs : List V} {us : List Value} (i : Nat), Vals xs us → Vals (xs.set i x) (us.set i u)
  | _, _, _, .nil => .nil
  | _, _, 0, .cons _ t => .cons r t
  | _, _, i + 1, .cons q t => .cons q (Vals.set r i t)
theorem Vals.append : ∀ {xs ys : List V} {us ws : List Value}, Vals xs us → Vals ys ws → Vals (xs ++ ys) (us ++ ws)
  | _, _, _, _, .nil, s => s
  | _, _, _, _, .cons r t, s => .cons r (Vals.append t s)
theorem Vals.take : ∀ {xs : List V} {us : List Value} (n : Nat), Vals xs us → Vals (xs.take n) (us.take n)
  | _, _, 0, _ => .nil
  | _, _, _ + 1, .nil => .nil
  | _, _, n + 1, .cons r t => .cons r (Vals.take n t)
theorem Vals.drop : ∀ {xs : List V} {us : List Value} (n : Nat), Vals xs us → Vals (xs.drop n) (us.drop n)
  | _, _, 0, r => r
  | _, _, _ + 1, .nil => .nil
  | _, _, n + 1, .cons _ t => Vals.drop n t
def RelO : Option V → Option Value → Prop
  | some v, some u => RelV v u
  | none, none => True
  | _, _ => False
def KV {κ : Type} : List (κ × V) → List (κ × Value) → Prop := Paired fun (p : κ × V) (q : κ × Value) => p.1 = q.1 ∧ RelV p.2 q.2
def kV : Key → V
  | .inl i => .int i
  | .inr x => .str x
inductive HO where
    | lst (xs : List V)
    | tup (xs : List V)
    | dK (kvs : List (Key × V)) | dT (kvs : List (List Key × V))
    | set (S : Int → Bool) (n : Nat)
    | ins (C dx : Addr) (fs : List (Str × V))
    | own (x : Addr)
    | xd (fs : List (Str × V))
    | met (f x : Addr)
    | rng (lo hi : Int)
    | frz (o : Obj) (u : HO)
    | tbl (ps : Array Value)
    | ext (φ : Heap → Prop)
abbrev Hp := Addr → Option HO
def upd (H : Hp) (a : Addr) (o : HO) : Hp := fun b => if b = a then some o else H b
theorem upd_same {H : Hp} {a : Addr} {o : HO} : upd H a o a = some o := by unfold upd; rw [if_pos rfl]
theorem upd_ne {H : Hp} {a b : Addr} {o : HO} (h : b ≠ a) : upd H a o b = H b := by unfold upd; rw [if_neg h]
theorem upd_upd {H : Hp} {a : Addr} {o u : HO} : upd (upd H a o) a u = upd H a u := by
  funext b; unfold upd; split <;> rfl
theorem ne_of_none {H : Hp} {a b : Addr} {o : HO} (h : H a = some o) (h' : H b = none) : a ≠ b := by
  intro e; subst e; rw [h] at h'; cases h'
section
variable (P : Program) (w : World)
def ObjOk (H : Hp) (h : Heap) (a : Addr) : HO → Prop
  | .lst xs => xs.length ≤ sizeLine ∧ ∃ (its : List Value) (n : Nat), Vals xs its ∧ h.get? a = some { cls := .type "list", data := .seq its.toArray n }
  | .tup xs => xs.length ≤ sizeLine ∧ ∃ its : List Value, Vals xs its ∧ IsTup h a its.toArray
  | .dK kvs => kvs.length ≤ sizeLine ∧ (a == sysModules) = false ∧ ∃ vs, KV kvs vs ∧ h.DictOf (mixKind P w) a vs
  | .dT kvs => kvs.length ≤ sizeLine ∧ (a == sysModules) = false ∧ ∃ xs : List (List Key × Addr × Value),
      Paired (fun (p : List Key × V) (q : List Key × Addr × Value) => p.1 = q.1 ∧ H q.2.1 = some (.tup (p.1.map kV)) ∧ RelV p.2 q.2.2) kvs xs ∧
      ∃ o es ep, h.get? a = some o ∧ o.ExactDict ∧ o.data = .dict es ep ∧ es.toList = xs.map (entryOfKey (tupleKind (mixKind P w))) ∧ (xs.map (·.1)).Nodup
  | .set S n => h.SetOf (intKind P w) a S n
  | .ins C dx fs => H dx = some (.own a) ∧ fs.length ≤ 1000 ∧ dx ≠ a ∧ h.get? a = some (PySem.W.instObj C dx) ∧
      ∃ mA, h.Ns1 dx mA ∧ (∀ f, RelO (fs.lookup f) (mA f)) ∧ PySem.Within mA (fs.map (·.1))
  | .own _ => ∃ o, h.get? a = some o
  | .xd fs => ∃ mA, h.Ns1 a mA ∧ ∀ f, RelO (fs.lookup f) (mA f)
  | .rng lo hi => ∃ t u v, h.get? a = some { cls := .type "range", data := .fields #[.int lo t, .int hi u, .int 1 v] }
  | .frz o u => h.get? a = some o ∧ ObjOk H h a u
  | .tbl ps => h.get? a = some { cls := .none, data := .fields ps }
  | .met f x => h.get? a = some (PySem.W.methodObj (.ref f) (.ref x))
  | .ext φ => φ h ∧ (∃ o, h.get? a = some o) ∧ ∀ h1 h2 : Heap, φ h1 → (∀ o, h1.get? a = some o → h2.get? a = some o) → φ h2
def HOk (H : Hp) (h : Heap) : Prop := ∀ a o, H a = some o → ObjOk P w H h a o
end
section
variable {P : Program} {w : World} {H H' : Hp} {h h' : Heap} {a : Addr} {o : HO}
theorem ObjOk.lt (x : ObjOk P w H h a o) : a < h.objs.size := by
  cases o with
  | lst xs => obtain ⟨_, _, _, _, e⟩ := x; exact Heap.lt_size e
  | tup xs => obtain ⟨_, _, _, p⟩ := x; exact p.lt
  | dK kvs => obtain ⟨_, _, _, _, o, _, _, e, _⟩ := x; exact Heap.lt_size e
  | dT kvs => obtain ⟨_, _, _, _, o, _, _, e, _⟩ := x; exact Heap.lt_size e
  | set S n => obtain ⟨o, _, _, _, e, _⟩ := x; exact Heap.lt_size e
  | ins C dx fs => obtain ⟨_, _, _, e, _⟩ := x; exact Heap.lt_size e
  | own y => obtain ⟨_, e⟩ := x; exact Heap.lt_size e
  | xd fs => obtain ⟨_, ⟨_, _, _, e, _⟩, _⟩ := x; exact Heap.lt_size e
  | rng lo hi => obtain ⟨_, _, _, e⟩ := x; exact Heap.lt_size e
  | frz ob u => obtain ⟨e, _⟩ := x; exact Heap.lt_size e
  | tbl ps => exact Heap.lt_size (show h.get? a = some _ from x)
  | met f y => exact Heap.lt_size (show h.get? a = some _ from x)
  | ext φ => obtain ⟨_, ⟨_, e⟩, _⟩ := x; exact Heap.lt_size e
theorem Paired.mapP {α β : Type} {F G : α → β → Prop} : ∀ {l₁ : List α} {l₂ : List β}, Paired F l₁ l₂ → (∀ a b, F a b → G a b) → Paired G l₁ l₂
  | _, _, .nil, _ => .nil
  | _, _, .cons r t, f => .cons (f _ _ r) (Paired.mapP t f)
theorem ObjOk.stay (x : ObjOk P w H h a o) (k : ∀ b u, (b = a ∨ H b = some (.own a)) → h.get? b = some u → h'.get? b = some u)
    (ho : ∀ b, H b = some (.own a) → H' b = some (.own a)) (ht : ∀ b xs, H b = some (.tup xs) → H' b = some (.tup xs)) : ObjOk P w H' h' a o := by
  induction o with
  | lst xs => obtain ⟨z, its, n, r, e⟩ := x; exact ⟨z, its, n, r, k _ _ (.inl rfl) e⟩
  | tup xs => obtain ⟨z, its, r, ob, e, c⟩ := x; exact ⟨z, its, r, ob, k _ _ (.inl rfl) e, c⟩
  | dK kvs => obtain ⟨z, y, vs, r, ob, es, ep, e, c⟩ := x; exact ⟨z, y, vs, r, ob, es, ep, k _ _ (.inl rfl) e, c⟩
  | dT kvs =>
    obtain ⟨z, y, xs, r, ob, es, ep, e, c⟩ := x
    exact ⟨z, y, xs, Paired.mapP r fun p q z => ⟨z.1, ht _ _ z.2.1, z.2.2⟩, ob, es, ep, k _ _ (.inl rfl) e, c⟩
  | set S n => obtain ⟨ob, es, ep, t, e, c⟩ := x; exact ⟨ob, es, ep, t, k _ _ (.inl rfl) e, c⟩
  | ins C dx fs =>
    obtain ⟨d, z, ne, e, mA, ⟨od, es, ep, e2, c⟩, r⟩ := x
    exact ⟨ho _ d, z, ne, k _ _ (.inl rfl) e, mA, ⟨od, es, ep, k _ _ (.inr d) e2, c⟩, r⟩
  | own y => obtain ⟨ob, e⟩ := x; exact ⟨ob, k _ _ (.inl rfl) e⟩
  | xd fs => obtain ⟨mA, ⟨od, es, ep, e, c⟩, r⟩ := x; exact ⟨mA, ⟨od, es, ep, k _ _ (.inl rfl) e, c⟩, r⟩
  | rng lo hi => obtain ⟨t, u, v, e⟩ := x; exact ⟨t, u, v, k _ _ (.inl rfl) e⟩
  | frz ob u ih => obtain ⟨e, q⟩ := x; exact ⟨k _ _ (.inl rfl) e, ih q⟩
  | tbl ps =>
    have e : h.get? a = some { cls := .none, data := .fields ps } := x
    show h'.get? a = some { cls := .none, data := .fields ps }
    exact k a _ (.inl rfl) e
  | met f y =>
    have e : h.get? a = some (PySem.W.methodObj (.ref f) (.ref y)) := x
    show h'.get? a = some (PySem.W.methodObj (.ref f) (.ref y))
    exact k a _ (.inl rfl) e
  | ext φ => obtain ⟨p, ⟨o, e⟩, st⟩ := x; exact ⟨st _ _ p fun o q => k _ _ (.inl rfl) q, ⟨o, k _ _ (.inl rfl) e⟩, st⟩
theorem HOk.lt (x : HOk P w H h) (e : H a = some o) : a < h.objs.size := (x a o e).lt
theorem HOk.fresh (x : HOk P w H h) (e : h.objs.size ≤ a) : H a = none := by
  cases q : H a with
  | none => rfl
  | some u => exact absurd (Nat.lt_of_lt_of_le (x.lt q) e) (Nat.lt_irrefl _)
theorem HOk.kept (x : HOk P w H h) (k : ∀ b u, h.get? b = some u → h'.get? b = some u) : HOk P w H h' := fun a o e =>
  (x a o e).stay (fun b u _ q => k b u q) (fun _ q => q) fun _ _ q => q
theorem HOk.laid (x : HOk P w H h) (k : ∀ b u, h.get? b = some u → h'.get? b = some u) (hp : h.objs.size ≤ a) (new : ObjOk P w (upd H a o) h' a o) : HOk P w (upd H a o) h' := fun b u e => by
  have hn := x.fresh hp
  by_cases hb : b = a
  · subst hb; rw [upd_same] at e; cases e; exact new
  · rw [upd_ne hb] at e
    exact (x b u e).stay (fun c v _ q => k c v q) (fun c q => by rw [upd_ne (ne_of_none q hn)]; exact q) fun c xs q => by rw [upd_ne (ne_of_none q hn)]; exact q
end
def Rd (H : Hp) (a : Addr) (u : HO) : Prop := H a = some u ∨ ∃ o, H a = some (.frz o u)
theorem Rd.ok {P : Program} {w : World} {H : Hp} {h : Heap} {a : Addr} {u : HO} (r : Rd H a u) (x : HOk P w H h) : ObjOk P w H h a u := by
  rcases r with r | ⟨o, r⟩
  · exact x a u r
  · obtain ⟨_, q⟩ := x a _ r
    exact q
def Mut : Option HO → Prop
  | some (.lst _) => True
  | some (.dK _) => True
  | some (.dT _) => True
  | some (.set _ _) => True
  | some (.ins _ _ _) => True
  | some (.ext _) => True
  | _ => False
section
variable {P : Program} {w : World} {H : Hp} {h h' : Heap} {x e : Addr} {o' : HO}
theorem HOk.write (ok : HOk P w H h) (mu : Mut (H x)) (he : e = x ∨ H e = some (.own x)) (k : ∀ b u, b ≠ e → h.get? b = some u → h'.get? b = some u) (heo : ∃ u, h'.get? e = some u)
    (new : ObjOk P w (upd H x o') h' x o') : HOk P w (upd H x o') h' := fun b u q => by
  have nown : ∀ c y, H c = some (.own y) → c ≠ x := fun c y r z => by subst z; rw [r] at mu; exact mu
  have ntup : ∀ c xs, H c = some (.tup xs) → c ≠ x := fun c xs r z => by subst z; rw [r] at mu; exact mu
  by_cases hb : b = x
  · subst hb; rw [upd_same] at q; cases q; exact new
  · rw [upd_ne hb] at q
    by_cases hbe : b = e
    · have q' : H b = some (.own x) := by
        rcases he with z | z
        · exact absurd (hbe.trans z) hb
        · rw [hbe]; exact z
      rw [q] at q'; cases q'
      obtain ⟨v, hv⟩ := heo
      exact ⟨v, by rw [hbe]; exact hv⟩
    · refine (ok b u q).stay (fun c v hc r => k c v ?_ r) (fun c r => by rw [upd_ne (nown c b r)]; exact r) fun c xs r => by rw [upd_ne (ntup c xs r)]; exact r
      rcases hc with rfl | hc
      · exact hbe
      · rintro rfl
        rcases he with z | z
        · exact nown c b hc z
        · rw [hc] at z; cases z; exact hb rfl
end
structure Un (fs ex : List Addr) (H H' : Hp) (h h' : Heap) : Prop where
  keep : ∀ b o, h.get? b = some o → H b = none → b ∉ fs → b ∉ ex → h'.get? b = some o
  slot : ∀ b o, h.get? b = some o → H b = none → b ∈ fs → b ∉ ex → ∃ sl, h'.get? b = some { o with slots := sl }
  free : ∀ b o, h.get? b = some o → H b = none → b ∉ ex → H' b = none
  there : ∀ b o, h.get? b = some o → b ∉ ex → ∃ o', h'.get? b = some o'
  tups : ∀ b xs, H b = some (.tup xs) → H' b = some (.tup xs)
  frzs : ∀ b o u, H b = some (.frz o u) → H' b = some (.frz o u)
  tbls : ∀ b ps, H b = some (.tbl ps) → ∃ more, H' b = some (.tbl (ps ++ more))
section
variable {fs fs' ex ex' : List Addr} {H H1 H2 : Hp} {h h1 h2 h' : Heap} {a x e : Addr} {o : HO}
theorem Un.any (u : Un fs ex H H1 h h1) {b : Addr} {ob : Obj} (q : h.get? b = some ob) (n : H b = none) (hx : b ∉ ex) : ∃ sl, h1.get? b = some { ob with slots := sl } := by
  by_cases hb : b ∈ fs
  · exact u.slot b ob q n hb hx
  · exact ⟨ob.slots, u.keep b ob q n hb hx⟩
theorem Un.kept (k : ∀ b u, h.get? b = some u → h'.get? b = some u) : Un fs ex H H h h' :=
  ⟨fun b ob q _ _ _ => k b ob q, fun b ob q _ _ _ => ⟨ob.slots, k b ob q⟩, fun _ _ _ n _ => n, fun b ob q _ => ⟨ob, k b ob q⟩, fun _ _ q => q, fun _ _ _ q => q, fun _ ps q => ⟨#[], by rw [q]; simp⟩⟩
theorem Un.refl : Un fs ex H H h h := Un.kept fun _ _ q => q
theorem Un.laid (k : ∀ b u, h.get? b = some u → h'.get? b = some u) (hp : h.objs.size ≤ a) (hn : H a = none) : Un fs ex H (upd H a o) h h' where
  keep := fun b u q _ _ _ => k b u q
  slot := fun b u q _ _ _ => ⟨u.slots, k b u q⟩
  free := fun b u q n _ => by rw [upd_ne (Nat.ne_of_lt (Nat.lt_of_lt_of_le (Heap.lt_size q) hp))]; exact n
  there := fun b u q _ => ⟨u, k b u q⟩
  tups := fun b xs q => by rw [upd_ne (ne_of_none q hn)]; exact q
  frzs := fun b u xs q => by rw [upd_ne (ne_of_none q hn)]; exact q
  tbls := fun b ps q => ⟨#[], by rw [upd_ne (ne_of_none q hn), q]; simp⟩
theorem Un.write (mu : Mut (H x)) (he : e = x ∨ H e = some (.own x)) (k : ∀ b u, b ≠ e → h.get? b = some u → h'.get? b = some u) (heo : ∃ u, h'.get? e = some u) : Un fs ex H (upd H x o) h h' := by
  have hx : ∀ b, H b = none → b ≠ x := fun b n z => by subst z; rw [n] at mu; exact mu
  have hb : ∀ b, H b = none → b ≠ e := fun b n z => by
    subst z
    rcases he with r | r
    · exact hx b n r
    · rw [n] at r; cases r
  have hm : ∀ b u, H b = some u → ¬ Mut (some u) → b ≠ x := fun b u q nm z => by subst z; rw [q] at mu; exact nm mu
  refine ⟨fun b u q n _ _ => k b u (hb b n) q, fun b u q n _ _ => ⟨u.slots, k b u (hb b n) q⟩, fun b u q n _ => by rw [upd_ne (hx b n)]; exact n, fun b u q _ => ?_,
    fun b xs q => by rw [upd_ne (hm b _ q fun z => z)]; exact q, fun b u xs q => by rw [upd_ne (hm b _ q fun z => z)]; exact q, fun b ps q => ⟨#[], by rw [upd_ne (hm b _ q fun z => z), q]; simp⟩⟩
  by_cases hbe : b = e
  · subst hbe; exact heo
  · exact ⟨u, k b u hbe q⟩
end
def trk (h : Heap) (H : Hp) : List Addr := (List.range h.objs.size).filter fun a => (H a).isSome
def hidT (h : Heap) (H : Hp) : Heap := PySem.W.hideAll h (trk h H)
theorem hidT_size (h : Heap) (H : Hp) : (hidT h H).objs.size = h.objs.size := PySem.W.hideAll_size _ _
theorem hidT_get {h : Heap} {H : Hp} {b : Addr} {o : Obj} (e : h.get? b = some o) (n : H b = none) : (hidT h H).get? b = some o :=
  PySem.W.hideAll_get _ e fun hm => by
    have q : (H b).isSome = true := (List.mem_filter.mp hm).2
    rw [n] at q; simp at q
theorem of_hidT {h : Heap} {H : Hp} {b : Addr} {o : Obj} (e : (hidT h H).get? b = some o) : h.get? b = some o ∧ H b = none := by
  have e' : h.get? b = some o := PySem.W.of_hideAll (trk h H) e
  refine ⟨e', ?_⟩
  cases q : H b with
  | none => rfl
  | some x =>
    have hm : b ∈ trk h H := List.mem_filter.mpr ⟨List.mem_range.mpr (Heap.lt_size e'), by simp [q]⟩
    have z : (hidT h H).get? b = none := PySem.W.hideAll_none (trk h H) hm
    rw [z] at e; cases e
def allNews (g h : Heap) (L : Addr) : List (Addr × Obj) := (List.range h.objs.size).filterMap fun a => if a = L ∨ (g.get? a).isSome = true then none else (h.get? a).map fun o => (a, o)
def rest (g h : Heap) (L d : Addr) : List (Addr × Obj) := (allNews g h L).filter fun p => decide (p.1 ≠ d)
end L2
namespace L2
open PySem PySem.Spec PyProof.Rows
structure Mod (K : PySem.W.Frag) (mg : Str → Option Value) (base : Heap) : Prop where
  kin : K.In base
  glob : base.Ns mainGlobals mg
  blt : ∃ mb, base.Ns builtinsNs mb ∧ ∀ x : Str, x ≠ "__name__" → mb x = bootBuiltins x
  nolimit : base.NoLimit
structure Cx where
  prog : Program
  w : World
  K : PySem.W.Frag
  mg : Str → Option Value
  base : Heap
  A : Around
  N : List Str
  s₀ : Shared
  H₀ : Hp
  env : Env
  outer : List Env
  stack : List Env
  ex : List Addr
  fn : Str → Bool
  calm : Bool
  pn : List (Addr × Obj)
  xe : Value → Shared → Prop
def frs (l : List Env) : List Addr := l.filterMap (·.frame)
abbrev Cx.fs (X : Cx) : List Addr := frs X.outer
def Vis (sc : Scope) (x : Str) : Prop := sc.names.lookup x = some .local ∨ sc.names.lookup x = some .cell ∨ sc.names.lookup x = some .free
def Loc (sc : Scope) (x : Str) : Prop := sc.names.lookup x = some .local ∨ sc.names.lookup x = some .cell
def Look (env : Env) (h : Heap) (m : Str → Option Value) (x : Str) (u : Value) : Prop :=
  (env.kindOf x = some .local ∧ m x = some u) ∨ ((env.kindOf x = some .cell ∨ env.kindOf x = some .free) ∧ ∃ c, env.cells.lookup x = some c ∧ h.IsCell c (some u))
structure Cx.Ok (X : Cx) : Prop where
  mod : Mod X.K X.mg X.base
  kind : X.env.scope.kind = .function
  glob : X.env.globals = mainGlobals
  blt : X.env.builtins = builtinsNs
  above : X.s₀.heap.objs.size ≤ X.env.locals
  inj : ∀ x y c, X.env.cells.lookup x = some c → X.env.cells.lookup y = some c → x = y
  has : ∀ x, (X.env.kindOf x = some .cell ∨ X.env.kindOf x = some .free) → ∃ c, X.env.cells.lookup x = some c
  cab : ∀ x c, X.fn x = true → X.env.cells.lookup x = some c → X.s₀.heap.objs.size ≤ c
  hd : X.calm = true → X.A.handled = none
  frames : X.A.frames = some X.stack
  stk : X.stack = X.outer ∨ (X.stack = X.env :: X.outer ∧ X.env.frame = some X.env.locals)
  exf : ∀ b ∈ X.ex, b ≠ X.env.locals ∧ ∀ x c, X.env.cells.lookup x = some c → c ≠ b
  bs : ∀ b o, X.base.get? b = some o → X.s₀.heap.get? b = some o ∧ X.H₀ b = none
  bsz : X.base.objs.size ≤ X.s₀.heap.objs.size
  noex : ∀ b o, X.base.get? b = some o → b ∉ X.ex
  exfs : ∀ b ∈ X.ex, b ∉ X.fs
  funs : X.s₀.heap.FunFrames X.base X.outer
  frf : ∀ b ∈ X.fs, X.H₀ b = none
structure Inv (X : Cx) (pins : List (Addr × Obj)) (σ : List (Option V)) (H : Hp) (s : Shared) : Prop where
  ok : X.Ok
  os : s.os = X.s₀.os
  bare : AllBare s.gens
  base : Un X.fs X.ex X.H₀ H X.s₀.heap s.heap
  loc : ∃ m, s.heap.Ns X.env.locals m ∧ ∀ (i : Nat) (x : Str) (v : V), X.N[i]? = some x → σ[i]? = some (some v) → Vis X.env.scope x → ∃ u, RelV v u ∧ Look X.env s.heap m x u
  cell : ∀ x c, X.env.cells.lookup x = some c → ∃ v, s.heap.IsCell c v
  free : H X.env.locals = none
  freeC : ∀ x c, X.env.cells.lookup x = some c → H c = none
  pin : ∀ p ∈ X.pn ++ pins, s.heap.get? p.1 = some p.2 ∧ H p.1 = none ∧ p.1 ≠ X.env.locals ∧ p.1 ∉ X.fs ∧ ∀ v, p.2.data ≠ .cell v
  hok : HOk X.prog X.w H s.heap
  len : σ.length = X.N.length
section
variable {X : Cx} {pins : List (Addr × Obj)} {σ : List (Option V)} {H H' : Hp} {s : Shared} {h' : Heap}
theorem Cx.Ok.nofr (ok : X.Ok) {b : Addr} {o : Obj} (e : X.base.get? b = some o) : b ∉ X.fs := fun hb => by
  have := (ok.funs.mem hb).1
  rw [e] at this; cases this
theorem Inv.bs (I : Inv X pins σ H s) : ∀ b o, X.base.get? b = some o → s.heap.get? b = some o ∧ H b = none := fun b o e =>
  ⟨I.base.keep b o (I.ok.bs b o e).1 (I.ok.bs b o e).2 (I.ok.nofr e) (I.ok.noex b o e), I.base.free b o (I.ok.bs b o e).1 (I.ok.bs b o e).2 (I.ok.noex b o e)⟩
theorem Inv.bk (I : Inv X pins σ H s) : ∀ b o, X.base.get? b = some o → s.heap.get? b = some o := fun b o e => (I.bs b o e).1
theorem Inv.mod (I : Inv X pins σ H s) : Mod X.K X.mg X.base := I.ok.mod
theorem Inv.kIn (I : Inv X pins σ H s) : X.K.In s.heap := I.ok.mod.kin.keeps I.bk
theorem Inv.lt (I : Inv X pins σ H s) : X.env.locals < s.heap.objs.size := let ⟨_, hn, _⟩ := I.loc; hn.lt
theorem Inv.sz (I : Inv X pins σ H s) : X.s₀.heap.objs.size ≤ s.heap.objs.size := Nat.le_trans I.ok.above (Nat.le_of_lt I.lt)
theorem Inv.nofs (I : Inv X pins σ H s) {a : Addr} (h : s.heap.objs.size ≤ a) : a ∉ X.fs := fun hb => by
  obtain ⟨_, o, ho, _⟩ := I.ok.funs.mem hb
  exact absurd (Nat.lt_of_lt_of_le (Heap.lt_size ho) (Nat.le_trans I.sz h)) (Nat.lt_irrefl _)
theorem Inv.cne (I : Inv X pins σ H s) : ∀ x c, X.env.cells.lookup x = some c → c ≠ X.env.locals := fun x c e z => by
  obtain ⟨v, o, ho, hd⟩ := I.cell x c e
  obtain ⟨m, ⟨o', es, ep, ho', hd', _⟩, _⟩ := I.loc
  rw [z, ho'] at ho; cases ho; rw [hd'] at hd; cases hd
theorem Inv.funs (I : Inv X pins σ H s) : s.heap.FunFrames X.base X.outer := by
  have all : ∀ (l : List Env), (∀ b ∈ frs l, b ∈ X.fs) → X.s₀.heap.FunFrames X.base l → s.heap.FunFrames X.base l := by
    intro l
    induction l with
    | nil => intro _ _; trivial
    | cons env r ih =>
      intro hs hl
      obtain ⟨hk, ⟨L, o, hf, hn, ho, hd⟩, hr⟩ := hl
      have hL : L ∈ X.fs := hs L (by unfold frs; rw [List.filterMap_cons, hf]; exact List.mem_cons_self)
      obtain ⟨sl, e⟩ := I.base.slot L o ho (I.ok.frf L hL) hL fun z => I.ok.exfs L z hL
      exact ⟨hk, ⟨L, _, hf, hn, e, hd⟩, ih (fun b hb => hs b (by unfold frs; rw [List.filterMap_cons, hf]; exact List.mem_cons_of_mem _ hb)) hr⟩
  exact all X.outer (fun _ hb => hb) I.ok.funs
theorem Inv.stack (I : Inv X pins σ H s) : s.heap.FunFrames X.base X.stack := by
  rcases I.ok.stk with e | ⟨e, hf⟩
  · rw [e]; exact I.funs
  · rw [e]
    obtain ⟨m, hn, _⟩ := I.loc
    refine .cons (by rw [I.ok.kind]; decide) hf hn ?_ I.funs
    exact Heap.get?_none_of_le (Nat.le_trans I.ok.bsz I.ok.above)
theorem Inv.stkSub (I : Inv X pins σ H s) : ∀ b ∈ frs X.stack, b ∈ X.env.locals :: X.fs := fun b hb => by
  rcases I.ok.stk with e | ⟨e, hf⟩
  · rw [e] at hb; exact List.mem_cons_of_mem _ hb
  · rw [e] at hb
    unfold frs at hb
    rw [List.filterMap_cons, hf] at hb
    exact hb
theorem Inv.stkFree (I : Inv X pins σ H s) : ∀ b ∈ frs X.stack, H b = none := fun b hb => by
  rcases List.mem_cons.mp (I.stkSub b hb) with e | hb
  · rw [e]; exact I.free
  · obtain ⟨_, o, ho, _⟩ := I.ok.funs.mem hb
    exact I.base.free b o ho (I.ok.frf b hb) fun z => I.ok.exfs b z hb
theorem Inv.step {g' : Array GenState} {t' : Nat} {d' : Drawn} {ch : List Addr} (I : Inv X pins σ H s)
    (hch : ∀ b ∈ ch, (b ∈ X.ex ∨ X.s₀.heap.objs.size ≤ b) ∧ b ≠ X.env.locals ∧ (∀ x c, X.env.cells.lookup x = some c → c ≠ b) ∧ ∀ p ∈ X.pn ++ pins, p.1 ≠ b)
    (keep : ∀ b o, b ≠ X.env.locals → b ∉ X.fs → b ∉ ch → s.heap.get? b = some o → H b = none → h'.get? b = some o)
    (slot : ∀ b o, b ≠ X.env.locals → b ∈ X.fs → b ∉ ch → s.heap.get? b = some o → H b = none → ∃ sl, h'.get? b = some { o with slots := sl }) (free : ∀ b o, b ∉ ch → s.heap.get? b = some o → H b = none → H' b = none)
    (there : ∀ b o, b ∉ ch → s.heap.get? b = some o → ∃ o', h'.get? b = some o')
    (tups : ∀ b xs, H b = some (.tup xs) → H' b = some (.tup xs)) (frzs : ∀ b o u, H b = some (.frz o u) → H' b = some (.frz o u)) (tbls : ∀ b ps, H b = some (.tbl ps) → ∃ more, H' b = some (.tbl (ps ++ more)))
    (ns : ∀ m, s.heap.Ns X.env.locals m → h'.Ns X.env.locals m) (hok : HOk X.prog X.w H' h') (hg : AllBare g') :
    Inv X pins σ H' { s with heap := h', gens := g', drawn := d', toks := t' } := by
  have neL : ∀ b o, X.s₀.heap.get? b = some o → b ≠ X.env.locals := fun b o e => Nat.ne_of_lt (Nat.lt_of_lt_of_le (Heap.lt_size e) I.ok.above)
  have neC : ∀ b o, X.s₀.heap.get? b = some o → b ∉ X.ex → b ∉ ch := fun b o e hx hb => by
    rcases (hch b hb).1 with z | z
    · exact hx z
    · exact absurd (Nat.lt_of_lt_of_le (Heap.lt_size e) z) (Nat.lt_irrefl _)
  have cellK : ∀ x c, X.env.cells.lookup x = some c → ∀ v, s.heap.IsCell c v → h'.IsCell c v := fun x c e v ⟨o, ho, hd⟩ => by
    have nch : c ∉ ch := fun z => (hch c z).2.2.1 x c e rfl
    by_cases hc : c ∈ X.fs
    · obtain ⟨sl, q⟩ := slot c o (I.cne x c e) hc nch ho (I.freeC x c e)
      exact ⟨_, q, hd⟩
    · exact ⟨o, keep c o (I.cne x c e) hc nch ho (I.freeC x c e), hd⟩
  refine ⟨I.ok, I.os, hg, ⟨fun b o e n hb hx => ?_, fun b o e n hb hx => ?_, fun b o e n hx => ?_, fun b o e hx => ?_, fun b xs e => tups b xs (I.base.tups b xs e), fun b o xs e => frzs b o xs (I.base.frzs b o xs e), fun b ps e => ?_⟩, ?_, fun x c e => ?_, ?_, fun x c e => ?_, fun p hp => ?_, hok, I.len⟩
  · exact keep b o (neL b o e) hb (neC b o e hx) (I.base.keep b o e n hb hx) (I.base.free b o e n hx)
  · obtain ⟨sl, e1⟩ := I.base.slot b o e n hb hx
    obtain ⟨sl', e2⟩ := slot b _ (neL b o e) hb (neC b o e hx) e1 (I.base.free b o e n hx)
    exact ⟨sl', e2⟩
  · obtain ⟨o', e1⟩ := I.base.there b o e hx
    exact free b o' (neC b o e hx) e1 (I.base.free b o e n hx)
  · obtain ⟨o', e1⟩ := I.base.there b o e hx
    exact there b o' (neC b o e hx) e1
  · obtain ⟨m1, e1⟩ := I.base.tbls b ps e
    obtain ⟨m2, e2⟩ := tbls b _ e1
    exact ⟨m1 ++ m2, by rw [e2, Array.append_assoc]⟩
  · obtain ⟨m, hn, hl⟩ := I.loc
    refine ⟨m, ns m hn, fun i x v e1 e2 e3 => ?_⟩
    obtain ⟨u, r, l⟩ := hl i x v e1 e2 e3
    refine ⟨u, r, ?_⟩
    rcases l with l | ⟨k, c, e, z⟩
    · exact .inl l
    · exact .inr ⟨k, c, e, cellK x c e _ z⟩
  · obtain ⟨v, z⟩ := I.cell x c e
    exact ⟨v, cellK x c e v z⟩
  · obtain ⟨m, ⟨o, _, _, ho, _⟩, _⟩ := I.loc
    exact free _ o (fun z => (hch _ z).2.1 rfl) ho I.free
  · obtain ⟨v, o, ho, hd⟩ := I.cell x c e
    exact free c o (fun z => (hch c z).2.2.1 x c e rfl) ho (I.freeC x c e)
  · obtain ⟨e, n, ne, nf, d⟩ := I.pin p hp
    have nch : p.1 ∉ ch := fun z => (hch p.1 z).2.2.2 p hp rfl
    exact ⟨keep p.1 p.2 ne nf nch e n, free p.1 p.2 nch e n, ne, nf, d⟩
theorem Inv.un {t' : Nat} (I : Inv X pins σ H s) (u : Un X.fs [] H H' s.heap h') (hok : HOk X.prog X.w H' h') : Inv X pins σ H' { s with heap := h', toks := t' } := by
  obtain ⟨m, ⟨o, es, ep, ho, r⟩, _⟩ := id I.loc
  obtain ⟨sl, hL⟩ := u.any ho I.free (by simp)
  exact I.step (g' := s.gens) (d' := s.drawn) (ch := []) (fun _ z => nomatch z) (fun b o _ hb _ e n => u.keep b o e n hb (by simp)) (fun b o _ hb _ e n => u.slot b o e n hb (by simp)) (fun b o _ e n => u.free b o e n (by simp)) (fun b o _ e => u.there b o e (by simp)) u.tups u.frzs u.tbls (fun m' hm => by
    obtain ⟨o', es', ep', ho', r'⟩ := hm
    rw [ho] at ho'; cases ho'
    exact ⟨_, es', ep', hL, r'⟩) hok I.bare
theorem Inv.call {g' : Array GenState} {t' : Nat} {d' : Drawn} {ch : List Addr} (I : Inv X pins σ H s) (u : Un (frs X.stack) ch H H' s.heap h') (hok : HOk X.prog X.w H' h') (hg : AllBare g')
    (hch : ∀ b ∈ ch, (b ∈ X.ex ∨ X.s₀.heap.objs.size ≤ b) ∧ b ≠ X.env.locals ∧ (∀ x c, X.env.cells.lookup x = some c → c ≠ b) ∧ ∀ p ∈ X.pn ++ pins, p.1 ≠ b) :
    Inv X pins σ H' { s with heap := h', gens := g', drawn := d', toks := t' } := by
  obtain ⟨m, ⟨o, es, ep, ho, r⟩, _⟩ := id I.loc
  obtain ⟨sl, hL⟩ := u.any ho I.free fun z => (hch _ z).2.1 rfl
  exact I.step (ch := ch) hch (fun b o hL hb hc e n => u.keep b o e n (fun z => (List.mem_cons.mp (I.stkSub b z)).elim hL hb) hc) (fun b o _ _ hc e n => u.any e n hc) (fun b o hc e n => u.free b o e n hc) (fun b o hc e => u.there b o e hc) u.tups u.frzs u.tbls (fun m' hm => by
    obtain ⟨o', es', ep', ho', r'⟩ := hm
    rw [ho] at ho'; cases ho'
    exact ⟨_, es', ep', hL, r'⟩) hok hg
theorem Inv.turned {t' : Nat} {it : Addr} (I : Inv X pins σ H s) (k : ∀ b o, b ≠ it → s.heap.get? b = some o → h'.get? b = some o) (hn : H it = none) (hL : it ≠ X.env.locals)
    (h1 : it ∈ X.ex ∨ X.s₀.heap.objs.size ≤ it) (h2 : ∀ x c, X.env.cells.lookup x = some c → c ≠ it) (h3 : ∀ p ∈ X.pn ++ pins, p.1 ≠ it) : Inv X pins σ H { s with heap := h', toks := t' } := by
  have nit : ∀ b u, H b = some u → b ≠ it := fun b u e z => by rw [z, hn] at e; cases e
  refine I.step (g' := s.gens) (d' := s.drawn) (ch := [it]) (fun b hb => ?_) (fun b o _ _ hc e _ => k b o (fun z => hc (by simp [z])) e) (fun b o _ _ hc e _ => ⟨o.slots, k b o (fun z => hc (by simp [z])) e⟩) (fun _ _ _ _ n => n)
    (fun b o hc e => ⟨o, k b o (fun z => hc (by simp [z])) e⟩) (fun _ _ e => e) (fun _ _ _ e => e) (fun b ps e => ⟨#[], by rw [e]; simp⟩) (fun m hm => ?_) (fun b u e => ?_) I.bare
  · have e : b = it := by simpa using hb
    subst e
    exact ⟨h1, hL, h2, h3⟩
  · obtain ⟨o, es, ep, ho, r⟩ := hm
    exact ⟨o, es, ep, k _ o (Ne.symm hL) ho, r⟩
  · refine (I.hok b u e).stay (fun c v hc q => k c v ?_ q) (fun _ q => q) fun _ _ q => q
    rcases hc with z | z
    · rw [z]; exact nit b u e
    · exact nit c _ z
theorem Inv.tok (I : Inv X pins σ H s) (t : Nat) : Inv X pins σ H { s with toks := t } := I.un (h' := s.heap) (t' := t) Un.refl I.hok
theorem Inv.kept {t' : Nat} (I : Inv X pins σ H s) (k : ∀ b u, s.heap.get? b = some u → h'.get? b = some u) : Inv X pins σ H { s with heap := h', toks := t' } := I.un (Un.kept k) (I.hok.kept k)
theorem Inv.laid {a : Addr} {o : HO} {t' : Nat} (I : Inv X pins σ H s) (k : ∀ b u, s.heap.get? b = some u → h'.get? b = some u) (hp : s.heap.objs.size ≤ a) (new : ObjOk X.prog X.w (upd H a o) h' a o) :
    Inv X pins σ (upd H a o) { s with heap := h', toks := t' } := I.un (Un.laid k hp (I.hok.fresh hp)) (I.hok.laid k hp new)
theorem Inv.write {x e : Addr} {o : HO} {t' : Nat} (I : Inv X pins σ H s) (mu : Mut (H x)) (he : e = x ∨ H e = some (.own x)) (k : ∀ b u, b ≠ e → s.heap.get? b = some u → h'.get? b = some u) (heo : ∃ u, h'.get? e = some u)
    (new : ObjOk X.prog X.w (upd H x o) h' x o) : Inv X pins σ (upd H x o) { s with heap := h', toks := t' } := I.un (Un.write mu he k heo) (I.hok.write mu he k heo new)
theorem Inv.pins_of {pins' : List (Addr × Obj)} (I : Inv X pins σ H s) (h : ∀ p ∈ pins', s.heap.get? p.1 = some p.2 ∧ H p.1 = none ∧ p.1 ≠ X.env.locals ∧ p.1 ∉ X.fs ∧ ∀ v, p.2.data ≠ .cell v) : Inv X pins' σ H s :=
  ⟨I.ok, I.os, I.bare, I.base, I.loc, I.cell, I.free, I.freeC, fun p hp => (List.mem_append.mp hp).elim (fun z => I.pin p (List.mem_append_left _ z)) (h p), I.hok, I.len⟩
theorem nodup_ix {N : List Str} (hN : N.Nodup) {i j : Nat} {x : Str} (a : N[i]? = some x) (b : N[j]? = some x) : i = j := by
  obtain ⟨h1, e1⟩ := List.getElem?_eq_some_iff.mp a
  obtain ⟨h2, e2⟩ := List.getElem?_eq_some_iff.mp b
  exact (List.getElem_inj hN).mp (e1.trans e2.symm)
theorem store_ok2 {M : Model} {A : Around} {E : Value → Shared → Prop} {i : Nat} {x : Str} {v : V} {u : Value} {Q : Unit → Shared → Prop} (I : Inv X pins σ H s) (hN : X.N.Nodup) (hi : X.N[i]? = some x) (hx : Loc X.env.scope x) (r : RelV v u)
    (h : ∀ s', Inv X pins (σ.set i (some v)) H s' → (∃ a, Heap.SameBut a s.heap s'.heap ∧ (a = X.env.locals ∨ X.env.cells.lookup x = some a)) → Q () s') (hf : X.fn x = true ∨ X.env.scope.names.lookup x = some .local := by first | exact .inl rfl | exact .inr rfl | assumption) : wpAny M A (storeName X.env x u) Q E s := by
  obtain ⟨m, hn, hl⟩ := id I.loc
  have hcls : (X.env.scope.kind == .class || (X.env.scope.kind == .module && X.env.locals != X.env.globals)) = false := by rw [I.ok.kind]; rfl
  have hiσ : i < σ.length := by rw [I.len]; exact (List.getElem?_eq_some_iff.mp hi).1
  have cne := I.cne
  have tracked : ∀ {a : Addr} {h' : Heap}, (∃ o, s.heap.get? a = some o ∧ H a = none) → Heap.SameBut a s.heap h' → HOk X.prog X.w H h' := fun {a h'} ha hs b ob e => by
    obtain ⟨_, _, hfree⟩ := ha
    refine (I.hok b ob e).stay (fun c w' hc q => (hs.2 c ?_).trans q) (fun _ q => q) fun _ _ q => q
    rintro rfl
    rcases hc with rfl | hc
    · rw [hfree] at e; cases e
    · rw [hfree] at hc; cases hc
  rcases hx with hk | hk
  · refine wpAny_storeName_local hk hn (fun h' hn' hs => ?_) hcls
    obtain ⟨oL, _, _, hoL, _⟩ := id hn
    refine h _ ⟨I.ok, I.os, I.bare, ⟨fun b o e n hb hx => ?_, fun b o e n hb hx => ?_, I.base.free, fun b o e hx => ?_, I.base.tups, I.base.frzs, I.base.tbls⟩, ⟨_, hn', fun j y v' e1 e2 e3 => ?_⟩, fun y c e => ?_, I.free, I.freeC, fun p hp => ?_, tracked ⟨oL, hoL, I.free⟩ hs, by simpa using I.len⟩ ⟨_, hs, .inl rfl⟩
    · exact (hs.2 b (Nat.ne_of_lt (Nat.lt_of_lt_of_le (Heap.lt_size e) I.ok.above))).trans (I.base.keep b o e n hb hx)
    · obtain ⟨sl, e1⟩ := I.base.slot b o e n hb hx
      exact ⟨sl, (hs.2 b (Nat.ne_of_lt (Nat.lt_of_lt_of_le (Heap.lt_size e) I.ok.above))).trans e1⟩
    · obtain ⟨o', e1⟩ := I.base.there b o e hx
      exact ⟨o', (hs.2 b (Nat.ne_of_lt (Nat.lt_of_lt_of_le (Heap.lt_size e) I.ok.above))).trans e1⟩
    · by_cases hj : j = i
      · subst hj
        rw [hi] at e1; cases e1
        rw [List.getElem?_set_self hiσ] at e2
        cases e2
        exact ⟨u, r, .inl ⟨hk, by simp⟩⟩
      · rw [List.getElem?_set_ne (Ne.symm hj)] at e2
        obtain ⟨u', r', q⟩ := hl j y v' e1 e2 e3
        refine ⟨u', r', ?_⟩
        rcases q with ⟨k, e⟩ | ⟨k, c, e, z⟩
        · refine .inl ⟨k, ?_⟩
          have : y ≠ x := fun e => hj (nodup_ix hN e1 (e ▸ hi))
          simp [this, e]
        · exact .inr ⟨k, c, e, z.sameBut hs (cne y c e)⟩
    · obtain ⟨w', z⟩ := I.cell y c e
      exact ⟨w', z.sameBut hs (cne y c e)⟩
    · obtain ⟨e, n, ne, nf, d⟩ := I.pin p hp
      exact ⟨(hs.2 p.1 ne).trans e, n, ne, nf, d⟩
  · have hfn : X.fn x = true := by
      rcases hf with z | z
      · exact z
      · rw [z] at hk; cases hk
    obtain ⟨c, hc⟩ := I.ok.has x (.inl hk)
    obtain ⟨w', z⟩ := I.cell x c hc
    refine wpAny_storeName_cell I.ok.kind hk hc z (fun h' hc' hs => ?_)
    obtain ⟨oc, hoc, hocd⟩ := id z
    refine h { s with heap := h' } ⟨I.ok, I.os, I.bare, ⟨fun b o e n hb hx => ?_, fun b o e n hb hx => ?_, I.base.free, fun b o e hx => ?_, I.base.tups, I.base.frzs, I.base.tbls⟩, ⟨m, hn.sameBut hs (Ne.symm (cne x c hc)), fun j y v' e1 e2 e3 => ?_⟩, fun y c' e => ?_, I.free, I.freeC, fun p hp => ?_, tracked ⟨oc, hoc, I.freeC x c hc⟩ hs, by simpa using I.len⟩ ⟨c, hs, .inr hc⟩
    · exact (hs.2 b (Nat.ne_of_lt (Nat.lt_of_lt_of_le (Heap.lt_size e) (I.ok.cab x c hfn hc)))).trans (I.base.keep b o e n hb hx)
    · obtain ⟨sl, e1⟩ := I.base.slot b o e n hb hx
      exact ⟨sl, (hs.2 b (Nat.ne_of_lt (Nat.lt_of_lt_of_le (Heap.lt_size e) (I.ok.cab x c hfn hc)))).trans e1⟩
    · obtain ⟨o', e1⟩ := I.base.there b o e hx
      exact ⟨o', (hs.2 b (Nat.ne_of_lt (Nat.lt_of_lt_of_le (Heap.lt_size e) (I.ok.cab x c hfn hc)))).trans e1⟩
    · by_cases hj : j = i
      · subst hj
        rw [hi] at e1; cases e1
        rw [List.getElem?_set_self hiσ] at e2
        cases e2
        exact ⟨u, r, .inr ⟨.inl hk, c, hc, hc'⟩⟩
      · rw [List.getElem?_set_ne (Ne.symm hj)] at e2
        obtain ⟨u', r', q⟩ := hl j y v' e1 e2 e3
        refine ⟨u', r', ?_⟩
        rcases q with q | ⟨k, c', e, z'⟩
        · exact .inl q
        · refine .inr ⟨k, c', e, z'.sameBut hs ?_⟩
          rintro rfl
          exact hj (nodup_ix hN e1 (I.ok.inj _ _ _ e hc ▸ hi))
    · by_cases hcc : c' = c
      · subst hcc; exact ⟨_, hc'⟩
      · obtain ⟨w2, z2⟩ := I.cell y c' e
        exact ⟨w2, z2.sameBut hs hcc⟩
    · obtain ⟨e, n, ne, nf, d⟩ := I.pin p hp
      refine ⟨(hs.2 p.1 ?_).trans e, n, ne, nf, d⟩
      intro q
      rw [q, hoc] at e
      have q' : oc = p.2 := Option.some.inj e
      exact d w' (by rw [← q']; exact hocd)
theorem store_ok {M : Model} {A : Around} {E : Value → Shared → Prop} {i : Nat} {x : Str} {v : V} {u : Value} {Q : Unit → Shared → Prop} (I : Inv X pins σ H s) (hN : X.N.Nodup) (hi : X.N[i]? = some x) (hx : Loc X.env.scope x) (r : RelV v u)
    (h : ∀ s', Inv X pins (σ.set i (some v)) H s' → Q () s') (hf : X.fn x = true ∨ X.env.scope.names.lookup x = some .local := by first | exact .inl rfl | exact .inr rfl | assumption) : wpAny M A (storeName X.env x u) Q E s :=
  store_ok2 I hN hi hx r (fun s' I' _ => h s' I') hf
theorem Inv.call' {s' : Shared} {ch : List Addr} (I : Inv X pins σ H s) (ho : s'.os = s.os) (u : Un (frs X.stack) ch H H' s.heap s'.heap) (hok : HOk X.prog X.w H' s'.heap) (hg : AllBare s'.gens)
    (hch : ∀ b ∈ ch, (b ∈ X.ex ∨ X.s₀.heap.objs.size ≤ b) ∧ b ≠ X.env.locals ∧ (∀ x c, X.env.cells.lookup x = some c → c ≠ b) ∧ ∀ p ∈ X.pn ++ pins, p.1 ≠ b) : Inv X pins σ H' s' := by
  obtain ⟨h', g', d', t', o'⟩ := s'
  have e : o' = s.os := ho
  subst e
  exact I.call (g' := g') (t' := t') (d' := d') u hok hg hch
end
abbrev XK := Value → Option Addr → Hp → Prop
abbrev St := List (Option V)
abbrev VK := V → Hp → Prop
abbrev TE := St → Hp → VK → Prop
abbrev TT := St → Hp → (Bool → Hp → Prop) → Prop
abbrev TA := St → Hp → (List V → Hp → Prop) → Prop
structure Ends where
  nx : St → Hp → Prop
  rt : VK
  bk : St → Hp → Prop := fun _ _ => False
  ct : St → Hp → Prop := fun _ _ => False
abbrev TS := Ends → St → Hp → Prop
def EP (X : Cx) (pins : List (Addr × Obj)) (σ : St) (Q : VK) (u : Value) (s' : Shared) : Prop := ∃ v H', Inv X pins σ H' s' ∧ RelV v u ∧ Q v H'
def TP (X : Cx) (pins : List (Addr × Obj)) (σ : St) (Q : Bool → Hp → Prop) (b : Bool) (s' : Shared) : Prop := ∃ H', Inv X pins σ H' s' ∧ Q b H'
def AP (X : Cx) (pins : List (Addr × Obj)) (σ : St) (Q : List V → Hp → Prop) (us : List Value) (s' : Shared) : Prop := ∃ vs H', Inv X pins σ H' s' ∧ Vals vs us ∧ Q vs H'
def SP (X : Cx) (pins : List (Addr × Obj)) (D : Ends) (f : Flow) (s' : Shared) : Prop :=
  match f with
  | .next => ∃ σ' H', Inv X pins σ' H' s' ∧ D.nx σ' H'
  | .brk => ∃ σ' H', Inv X pins σ' H' s' ∧ D.bk σ' H'
  | .cont => ∃ σ' H', Inv X pins σ' H' s' ∧ D.ct σ' H'
  | .ret u => ∃ v σ' H', Inv X pins σ' H' s' ∧ RelV v u ∧ D.rt v H'
def PE (X : Cx) (e : Expr) (t : TE) : Prop :=
  ∀ (pins : List (Addr × Obj)) (s : Shared) (σ : St) (H : Hp) (Q : VK), Inv X pins σ H s → t σ H Q → wpAny (model X.prog X.w) X.A (eval e X.env) (EP X pins σ Q) X.xe s
def PT (X : Cx) (e : Expr) (t : TT) : Prop :=
  ∀ (pins : List (Addr × Obj)) (s : Shared) (σ : St) (H : Hp) (Q : Bool → Hp → Prop), Inv X pins σ H s → t σ H Q → wpAny (model X.prog X.w) X.A (isTrue e X.env (eval e X.env)) (TP X pins σ Q) X.xe s
def PW (X : Cx) (e : Expr) (t : TT) : Prop :=
  ∀ (whole : Sem Value) (pins : List (Addr × Obj)) (s : Shared) (σ : St) (H : Hp) (Q : Bool → Hp → Prop), Inv X pins σ H s → t σ H Q → wpAny (model X.prog X.w) X.A (isTrue e X.env whole) (TP X pins σ Q) X.xe s
theorem PW.pt {X : Cx} {e : Expr} {t : TT} (h : PW X e t) : PT X e t := h _
def PA (X : Cx) (es : List Expr) (t : TA) : Prop :=
  ∀ (pos : Pos) (pins : List (Addr × Obj)) (s : Shared) (σ : St) (H : Hp) (Q : List V → Hp → Prop), Inv X pins σ H s → t σ H Q → wpAny (model X.prog X.w) X.A (spliced (backTo pos (starEach es X.env))) (AP X pins σ Q) X.xe s
def PS (X : Cx) (st : Stmt) (t : TS) : Prop :=
  ∀ (pins : List (Addr × Obj)) (s : Shared) (σ : St) (H : Hp) (D : Ends), Inv X pins σ H s → t D σ H → wpAny (model X.prog X.w) X.A (exec st X.env) (SP X pins D) X.xe s
def PSs (X : Cx) (st : List Stmt) (t : TS) : Prop :=
  ∀ (pins : List (Addr × Obj)) (s : Shared) (σ : St) (H : Hp) (D : Ends), Inv X pins σ H s → t D σ H → wpAny (model X.prog X.w) X.A (execs st X.env) (SP X pins D) X.xe s
theorem thn {α : Type} {t : Sem α} {Q Q' : α → Shared → Prop} {M : Model} {A : Around} {E : Value → Shared → Prop} {s : Shared} (h : wpAny M A t Q E s) (hQ : ∀ a s, Q a s → Q' a s) : wpAny M A t Q' E s := wpAny_mono h hQ fun _ _ x => x
end L2
namespace L2
open PySem PySem.Spec PyProof.Rows
section
variable {X : Cx}
def tVar (i : Nat) : TE := fun σ H Q => ∃ v, σ[i]? = some (some v) ∧ Q v H
def tC (v : V) : TE := fun _ H Q => Q v H
theorem pe_var {i : Nat} {x : Str} {pos : Pos} (hN : X.N[i]? = some x) (hv : Vis X.env.scope x) (hd : (x == ("__debug__" : Str)) = false := by decide) (hcd : (x == ("__classdict__" : Str)) = false := by decide) : PE X (.Name x pos) (tVar i) := by
  intro pins s σ H Q I h
  obtain ⟨v, e, h⟩ := h
  obtain ⟨m, hn, hl⟩ := I.loc
  obtain ⟨u, r, l⟩ := hl i x v hN e hv
  have fin : EP X pins σ Q u s := ⟨v, H, I, r, h⟩
  rcases l with ⟨hk, hm⟩ | ⟨hk, c, hc, hcell⟩
  · exact wpAny_Name (wpAny_loadName_local I.ok.kind hk hn hm fin) hd
  · rcases hk with hk | hk
    · exact wpAny_Name (wpAny_loadName_cell I.ok.kind hk hc hcell fin) hd
    · exact wpAny_Name (wpAny_loadName_free I.ok.kind hk hc hcell fin hcd) hd
theorem pe_int {i j pos} : PE X (.Constant (.int i) j pos) (tC (.int i)) := fun _ _ _ H _ I h => wpAny_Constant_int ⟨.int i, H, I.tok _, ⟨_, rfl⟩, h⟩
theorem pe_bl {b j pos} : PE X (.Constant (.bool b) j pos) (tC (.bl b)) := fun _ _ _ H _ I h => Constant_bool ⟨.bl b, H, I, rfl, h⟩
theorem pe_non {j pos} : PE X (.Constant .none j pos) (tC .non) := fun _ _ _ H _ I h => Constant_none ⟨.non, H, I, rfl, h⟩
theorem pe_str {x j pos} : PE X (.Constant (.str x) j pos) (tC (.str x)) := fun _ _ _ H _ I h => Calls.Constant_str ⟨.str x, H, I.tok _, ⟨_, rfl⟩, h⟩
def Gl (X : Cx) (x : Str) : Prop := X.env.kindOf x = some .globalImplicit
theorem ld_glob {E : Value → Shared → Prop} {pins : List (Addr × Obj)} {s : Shared} {σ : St} {H : Hp} {x : Str} {u : Value} {pos : Pos} {Q : Value → Shared → Prop} (I : Inv X pins σ H s) (hg : Gl X x) (hm : X.mg x = some u) (h : Q u s)
    (hd : (x == ("__debug__" : Str)) = false := by decide) : wpAny (model X.prog X.w) X.A (eval (.Name x pos) X.env) Q E s :=
  Calls.Name_function_global I.ok.kind hg (Calls.loadGlobal_global (by rw [I.ok.glob]; exact I.mod.glob.keeps I.bk) hm h) hd
theorem ld_blt {E : Value → Shared → Prop} {pins : List (Addr × Obj)} {s : Shared} {σ : St} {H : Hp} {x : Str} {u : Value} {pos : Pos} {Q : Value → Shared → Prop} (I : Inv X pins σ H s) (hg : Gl X x) (hm : X.mg x = none) (hv : bootBuiltins x = some u) (h : Q u s)
    (hn : x ≠ "__name__" := by decide) (hd : (x == ("__debug__" : Str)) = false := by decide) : wpAny (model X.prog X.w) X.A (eval (.Name x pos) X.env) Q E s := by
  obtain ⟨mb, h1, h2⟩ := I.mod.blt
  exact Calls.Name_function_global I.ok.kind hg (Calls.loadGlobal_builtin (by rw [I.ok.glob]; exact I.mod.glob.keeps I.bk) hm (by rw [I.ok.blt]; exact h1.keeps I.bk) ((h2 x hn).trans hv) h) hd
theorem pe_glob {x : Str} {v : V} {u : Value} {pos : Pos} (hg : Gl X x) (hm : X.mg x = some u) (r : RelV v u) (hd : (x == ("__debug__" : Str)) = false := by decide) : PE X (.Name x pos) (tC v) :=
  fun _ _ _ H _ I h => ld_glob I hg hm ⟨v, H, I, r, h⟩ hd
theorem pe_bltn {x : Str} {v : V} {u : Value} {pos : Pos} (hg : Gl X x) (hm : X.mg x = none) (hv : bootBuiltins x = some u) (r : RelV v u) (hn : x ≠ "__name__" := by decide) (hd : (x == ("__debug__" : Str)) = false := by decide) : PE X (.Name x pos) (tC v) :=
  fun _ _ _ H _ I h => ld_blt I hg hm hv ⟨v, H, I, r, h⟩ hn hd
variable {a b : Expr} {ta tb : TE} {pos : Pos}
def PC (X : Cx) (op : CmpOp) (a b : Expr) (t : TE) : Prop :=
  ∀ (pins : List (Addr × Obj)) (s : Shared) (σ : St) (H : Hp) (Q : VK), Inv X pins σ H s → t σ H Q →
    wpAny (model X.prog X.w) X.A (eval a X.env) (fun v s₁ => wpAny (model X.prog X.w) X.A (eval b X.env) (fun u s₂ => wpAny (model X.prog X.w) X.A (compareOp op v u) (EP X pins σ Q) X.xe s₂) X.xe s₁) X.xe s
def tB (t : TE) : TT := fun σ H Q => t σ H fun x H1 => ∃ c, x = .bl c ∧ Q c H1
theorem pt_cmp {op : CmpOp} {t : TE} (h : PC X op a b t) (h1 : behindInMarks op b = false := by first | exact nobehind _ (by decide) (by decide) | rfl) : PT X (.Compare a [op] [b] pos) (tB t) := by
  intro pins s σ H Q I hw
  refine wpAny_isTrue_Compare1 (thn (h pins s σ H _ I hw) fun v s1 h1 => thn h1 fun u s2 h2 => thn h2 fun c s3 ⟨x, H1, I1, r1, q1⟩ => ?_) h1
  obtain ⟨d, rfl, q⟩ := q1
  cases r1
  exact wpAny_truthy_bool ⟨H1, I1, q⟩
theorem pt_val {e : Expr} {t : TE} (h : PE X e t) (he : ∀ whole, isTrue e X.env whole = (do let v ← whole; standAt e.pos; holding [v] (truthy v)) := by intro _; rfl) : PT X e (tB t) := by
  intro pins s σ H Q I hw
  refine isTrue_plain (thn (h pins s σ H _ I hw) fun v s1 ⟨x, H1, I1, r1, q1⟩ => ?_) (he _)
  obtain ⟨d, rfl, q⟩ := q1
  cases r1
  exact wpAny_truthy_bool ⟨H1, I1, q⟩
variable {tA tB' : TT} {rest : List Expr}
def tAnd (t u : TT) : TT := fun σ H Q => t σ H fun c H1 => if c = true then u σ H1 Q else Q false H1
def tOr (t u : TT) : TT := fun σ H Q => t σ H fun c H1 => if c = true then Q true H1 else u σ H1 Q
def tNot (t : TT) : TT := fun σ H Q => t σ H fun c H1 => Q (!c) H1
theorem pw_and1 (ha : PT X a tA) : PW X (.BoolOp .And [a] pos) tA := by
  intro wh pins s σ H Q I h
  refine isTrue_and (thn (ha pins s σ H Q I h) fun c s1 e => ?_)
  cases c with
  | true => exact isTrue_and_nil e
  | false => exact e
theorem pw_or1 (ha : PT X a tA) : PW X (.BoolOp .Or [a] pos) tA := by
  intro wh pins s σ H Q I h
  refine isTrue_or (thn (ha pins s σ H Q I h) fun c s1 e => ?_)
  cases c with
  | false => exact isTrue_or_nil e
  | true => exact e
theorem pw_and (ha : PT X a tA) (hb : PW X (.BoolOp .And (b :: rest) pos) tB') : PW X (.BoolOp .And (a :: b :: rest) pos) (tAnd tA tB') := by
  intro wh pins s σ H Q I h
  refine isTrue_and (thn (ha pins s σ H _ I h) fun c s1 ⟨H1, I1, q1⟩ => ?_)
  cases c with
  | true => exact hb wh pins s1 σ H1 Q I1 q1
  | false => exact ⟨H1, I1, q1⟩
theorem pw_or (ha : PT X a tA) (hb : PW X (.BoolOp .Or (b :: rest) pos) tB') : PW X (.BoolOp .Or (a :: b :: rest) pos) (tOr tA tB') := by
  intro wh pins s σ H Q I h
  refine isTrue_or (thn (ha pins s σ H _ I h) fun c s1 ⟨H1, I1, q1⟩ => ?_)
  cases c with
  | true => exact ⟨H1, I1, q1⟩
  | false => exact hb wh pins s1 σ H1 Q I1 q1
theorem pt_not (ha : PT X a tA) : PT X (.UnaryOp .Not a pos) (tNot tA) := by
  intro pins s σ H Q I h
  exact isTrue_not (ha pins s σ H (fun c H1 => Q (!c) H1) I h)
def tAndV (ta tb : TE) : TE := fun σ H Q => ta σ H fun x H1 => ∃ c, x = .bl c ∧ if c = true then tb σ H1 Q else Q (.bl false) H1
def tOrV (ta tb : TE) : TE := fun σ H Q => ta σ H fun x H1 => ∃ c, x = .bl c ∧ if c = true then Q (.bl true) H1 else tb σ H1 Q
def tNotV (ta : TE) : TE := fun σ H Q => ta σ H fun x H1 => ∃ c, x = .bl c ∧ Q (.bl (!c)) H1
theorem pe_one {op} {t : TE} (h : PE X a t) : PE X (.BoolOp op [a] pos) t := fun pins s σ H Q I hw => BoolOp_one (h pins s σ H Q I hw)
theorem pe_and (ha : PE X a ta) (hb : PE X (.BoolOp .And (b :: rest) pos) tb) : PE X (.BoolOp .And (a :: b :: rest) pos) (tAndV ta tb) := by
  intro pins s σ H Q I h
  refine BoolOp_and (thn (ha pins s σ H _ I h) fun v s1 ⟨x, H1, I1, r1, q1⟩ => ?_)
  obtain ⟨c, rfl, q1⟩ := q1
  cases r1
  refine wpAny_truthy_bool ?_
  cases c with
  | true => exact hb pins s1 σ H1 Q I1 q1
  | false => exact ⟨.bl false, H1, I1, rfl, q1⟩
theorem pe_or (ha : PE X a ta) (hb : PE X (.BoolOp .Or (b :: rest) pos) tb) : PE X (.BoolOp .Or (a :: b :: rest) pos) (tOrV ta tb) := by
  intro pins s σ H Q I h
  refine BoolOp_or (thn (ha pins s σ H _ I h) fun v s1 ⟨x, H1, I1, r1, q1⟩ => ?_)
  obtain ⟨c, rfl, q1⟩ := q1
  cases r1
  refine wpAny_truthy_bool ?_
  cases c with
  | false => exact hb pins s1 σ H1 Q I1 q1
  | true => exact ⟨.bl true, H1, I1, rfl, q1⟩
theorem pe_not (ha : PE X a ta) : PE X (.UnaryOp .Not a pos) (tNotV ta) := by
  intro pins s σ H Q I h
  refine UnaryOp_ (thn (ha pins s σ H _ I h) fun v s1 ⟨x, H1, I1, r1, q1⟩ => ?_)
  obtain ⟨c, rfl, q1⟩ := q1
  cases r1
  exact not_of (wpAny_truthy_bool ⟨.bl (!c), H1, I1, rfl, q1⟩)
def tIf (t : TT) (ta tb : TE) : TE := fun σ H Q => t σ H fun c H1 => if c = true then ta σ H1 Q else tb σ H1 Q
end
end L2
namespace L2
open PySem PySem.Spec PyProof.Rows
def SqL (K : PySem.W.Frag) (H : Hp) (a : Addr) (xs : List V) : Prop :=
  Rd H a (.lst xs) ∨
    ∃ (o : Obj) (its : Array Value) (n : Nat), K.lookup a = some o ∧ o.cls = .type "list" ∧ o.dict = none ∧ o.data = .seq its n ∧ its.size ≤ sizeLine ∧ Vals xs its.toList
def SqT (K : PySem.W.Frag) (H : Hp) (a : Addr) (xs : List V) : Prop :=
  Rd H a (.tup xs) ∨
    ∃ (o : Obj) (its : Array Value) (n : Nat), K.lookup a = some o ∧ o.cls = .type "tuple" ∧ o.data = .seq its n ∧ its.size ≤ sizeLine ∧ Vals xs its.toList
def absV : Value → Option V
  | .none => some .non
  | .bool b => some (.bl b)
  | .int i _ => some (.int i)
  | .str x _ => some (.str x)
  | .bytes b _ => some (.byt b)
  | .float b _ => some (.flt b)
  | .ref a => some (.ref a)
  | .type n => some (.ty n)
  | _ => none
theorem RelV.abs {x : V} {u : Value} (r : RelV x u) : absV u = some x := by
  cases x with
  | non => cases r; rfl
  | bl _ => cases r; rfl
  | int _ => obtain ⟨t, rfl⟩ := r; rfl
  | str _ => obtain ⟨t, rfl⟩ := r; rfl
  | byt _ => obtain ⟨t, rfl⟩ := r; rfl
  | flt _ => obtain ⟨t, rfl⟩ := r; rfl
  | ref _ => cases r; rfl
  | ty _ => cases r; rfl
theorem RelV.inj {x y : V} {u : Value} (r : RelV x u) (q : RelV y u) : x = y := Option.some.inj (r.abs.symm.trans q.abs)
theorem Vals.inj : ∀ {xs ys : List V} {us : List Value}, Vals xs us → Vals ys us → xs = ys
  | _, _, _, .nil, .nil => rfl
  | _, _, _, .cons r t, .cons r' t' => by rw [r.inj r', Vals.inj t t']
section
variable {X : Cx} {pins : List (Addr × Obj)} {σ : St} {H : Hp} {s : Shared} {a : Addr} {xs ys : List V}
theorem SqL.of {K : PySem.W.Frag} (h : H a = some (.lst xs)) : SqL K H a xs := .inl (.inl h)
theorem SqT.of {K : PySem.W.Frag} (h : H a = some (.tup xs)) : SqT K H a xs := .inl (.inl h)
theorem Inv.list (I : Inv X pins σ H s) (h : SqL X.K H a xs) : ∃ its : List Value, Vals xs its ∧ PlainL s.heap a its.toArray ∧ xs.length ≤ sizeLine := by
  rcases h with h | ⟨o, its, n, hk, hc, hd, hs, hz, r⟩
  · obtain ⟨z, its, n, r, e⟩ := h.ok I.hok
    exact ⟨its, r, ⟨_, n, e, rfl, rfl, rfl⟩, z⟩
  · refine ⟨its.toList, r, ⟨o, n, I.kIn a o hk, hc, hd, by simpa using hs⟩, ?_⟩
    have e := r.length
    simp only [Array.length_toList] at e
    omega
theorem Inv.tuple (I : Inv X pins σ H s) (h : SqT X.K H a xs) : ∃ its : List Value, Vals xs its ∧ IsTup s.heap a its.toArray ∧ xs.length ≤ sizeLine := by
  rcases h with h | ⟨o, its, n, hk, hc, hs, hz, r⟩
  · obtain ⟨z, its, r, p⟩ := h.ok I.hok
    exact ⟨its, r, p, z⟩
  · refine ⟨its.toList, r, ⟨o, I.kIn a o hk, hc, n, by simpa using hs⟩, ?_⟩
    have e := r.length
    simp only [Array.length_toList] at e
    omega
theorem Inv.list_inj (I : Inv X pins σ H s) (h : SqL X.K H a xs) (h' : SqL X.K H a ys) : xs = ys := by
  obtain ⟨its, r, ⟨o, n, e, _, _, d⟩, _⟩ := I.list h
  obtain ⟨its', r', ⟨o', n', e', _, _, d'⟩, _⟩ := I.list h'
  rw [e] at e'; cases e'
  rw [d] at d'
  injection d' with d1 _
  have : its = its' := by simpa using congrArg Array.toList d1
  subst this
  exact r.inj r'
theorem Inv.tuple_inj (I : Inv X pins σ H s) (h : SqT X.K H a xs) (h' : SqT X.K H a ys) : xs = ys := by
  obtain ⟨its, r, ⟨o, e, _, n, d⟩, _⟩ := I.tuple h
  obtain ⟨its', r', ⟨o', e', _, n', d'⟩, _⟩ := I.tuple h'
  rw [e] at e'; cases e'
  rw [d] at d'
  injection d' with d1 _
  have : its = its' := by simpa using congrArg Array.toList d1
  subst this
  exact r.inj r'
end
abbrev Cx.wish (X : Cx) (E : Value → Shared → Prop) : Cx := { X with xe := E }
abbrev Cx.nox (X : Cx) : Cx := X.wish fun _ _ => False
theorem Cx.Ok.wish {X : Cx} (ok : X.Ok) (E : Value → Shared → Prop) : (X.wish E).Ok :=
  ⟨ok.mod, ok.kind, ok.glob, ok.blt, ok.above, ok.inj, ok.has, ok.cab, ok.hd, ok.frames, ok.stk, ok.exf, ok.bs, ok.bsz, ok.noex, ok.exfs, ok.funs, ok.frf⟩
theorem Cx.Ok.unwish {X : Cx} {E : Value → Shared → Prop} (ok : (X.wish E).Ok) : X.Ok :=
  ⟨ok.mod, ok.kind, ok.glob, ok.blt, ok.above, ok.inj, ok.has, ok.cab, ok.hd, ok.frames, ok.stk, ok.exf, ok.bs, ok.bsz, ok.noex, ok.exfs, ok.funs, ok.frf⟩
section
variable {X : Cx} {pins : List (Addr × Obj)} {σ : St} {H : Hp} {s : Shared} {E : Value → Shared → Prop}
theorem Inv.wish (I : Inv X pins σ H s) (E : Value → Shared → Prop) : Inv (X.wish E) pins σ H s := ⟨I.ok.wish E, I.os, I.bare, I.base, I.loc, I.cell, I.free, I.freeC, I.pin, I.hok, I.len⟩
theorem Inv.unwish (I : Inv (X.wish E) pins σ H s) : Inv X pins σ H s := ⟨I.ok.unwish, I.os, I.bare, I.base, I.loc, I.cell, I.free, I.freeC, I.pin, I.hok, I.len⟩
theorem SP.unwish {D : Ends} {f : Flow} {s' : Shared} (h : SP (X.wish E) pins D f s') : SP X pins D f s' := by
  cases f with
  | next => obtain ⟨σ', H', I, q⟩ := h; exact ⟨σ', H', I.unwish, q⟩
  | brk => obtain ⟨σ', H', I, q⟩ := h; exact ⟨σ', H', I.unwish, q⟩
  | cont => obtain ⟨σ', H', I, q⟩ := h; exact ⟨σ', H', I.unwish, q⟩
  | ret u => obtain ⟨v, σ', H', I, r, q⟩ := h; exact ⟨v, σ', H', I.unwish, r, q⟩
theorem PSs.nox {st : List Stmt} {t : TS} (h : PSs X.nox st t) : PSs X st t := fun pins s σ H D I hw =>
  wpAny_mono (h pins s σ H D (I.wish _) hw) (fun _ _ q => q.unwish) fun _ _ z => False.elim z
end
section
variable {X : Cx} {st : Stmt} {rest : List Stmt} {t u : TS} {e : Expr} {te : TE} {pos : Pos}
def tNext : TS := fun D σ H => D.nx σ H
def tSeq (t u : TS) : TS := fun D σ H => t { D with nx := u D } σ H
theorem pss_nil : PSs X [] tNext := fun _ _ σ H _ I h => wpAny_execs_nil ⟨σ, H, I, h⟩
theorem pss_cons (h1 : PS X st t) (h2 : PSs X rest u) : PSs X (st :: rest) (tSeq t u) := by
  intro pins s σ H D I h
  refine wpAny_execs_cons (thn (h1 pins s σ H { D with nx := u D } I h) fun f s1 q => ?_)
  cases f with
  | next =>
    obtain ⟨σ', H', I', q⟩ := q
    exact h2 pins s1 σ' H' D I' q
  | ret v => exact q
  | brk => exact q
  | cont => exact q
theorem pss_one (h1 : PS X st t) : PSs X [st] t := by
  intro pins s σ H D I h
  refine wpAny_execs_cons (thn (h1 pins s σ H D I h) fun f s1 q => ?_)
  cases f with
  | next => exact wpAny_execs_nil q
  | ret v => exact q
  | brk => exact q
  | cont => exact q
def tBreak : TS := fun D σ H => D.bk σ H
def tCont : TS := fun D σ H => D.ct σ H
theorem Inv.quiet {pins : List (Addr × Obj)} {σ : St} {H : Hp} {s : Shared} (I : Inv X pins σ H s) : interactive X.env = false := by simp [interactive, I.ok.kind]
def tDrop (te : TE) : TS := fun D σ H => te σ H fun _ H1 => D.nx σ H1
theorem ps_expr (he : PE X e te) (hs : swapsWith e none pos.line X.env = pure false := by rfl) : PS X (.Expr e pos) (tDrop te) := by
  intro pins s σ H D I h
  exact wpAny_Expr_any (thn (he pins s σ H _ I h) fun v s1 ⟨x, H1, I1, r1, q1⟩ => ⟨σ, H1, I1, q1⟩) I.quiet hs
def tRet (te : TE) : TS := fun D σ H => te σ H D.rt
theorem ps_ret (he : PE X e te) : PS X (.Return (some e) pos) (tRet te) := by
  intro pins s σ H D I h
  exact wpAny_Return_some (thn (he pins s σ H _ I h) fun v s1 ⟨x, H1, I1, r1, q1⟩ => ⟨x, σ, H1, I1, r1, q1⟩)
def tRetN : TS := fun D _ H => D.rt .non H
def tIfS (c : TT) (t u : TS) : TS := fun D σ H => c σ H fun b H1 => if b = true then t D σ H1 else u D σ H1
theorem ps_if {c : Expr} {a b : List Stmt} {tc : TT} (hc : PT X c tc) (ha : PSs X a t) (hb : PSs X b u) : PS X (.If c a b pos) (tIfS tc t u) := by
  intro pins s σ H D I h
  refine wpAny_If (thn (hc pins s σ H _ I h) fun d s1 ⟨H1, I1, q1⟩ => ?_)
  cases d with
  | true => exact ha pins s1 σ H1 D I1 q1
  | false => exact hb pins s1 σ H1 D I1 q1
end
abbrev TG := V → St → Hp → (St → Hp → Prop) → Prop
abbrev TGs := List V → St → Hp → (St → Hp → Prop) → Prop
def PG (X : Cx) (target : Expr) (t : TG) : Prop :=
  ∀ (pins : List (Addr × Obj)) (s : Shared) (σ : St) (H : Hp) (v : V) (u : Value) (Q : St → Hp → Prop), Inv X pins σ H s → RelV v u → t v σ H Q →
    wpAny (model X.prog X.w) X.A (assign target X.env u) (fun _ s' => ∃ σ' H', Inv X pins σ' H' s' ∧ Q σ' H') X.xe s
def PGs (X : Cx) (ts : List Expr) (t : TGs) : Prop :=
  ∀ (pins : List (Addr × Obj)) (s : Shared) (σ : St) (H : Hp) (vs : List V) (us : List Value) (Q : St → Hp → Prop), Inv X pins σ H s → Vals vs us → t vs σ H Q →
    wpAny (model X.prog X.w) X.A (assignInOrder ((assignEach ts X.env).map (·.2)) us) (fun _ s' => ∃ σ' H', Inv X pins σ' H' s' ∧ Q σ' H') X.xe s
abbrev TSet := V → V → V → Hp → (Hp → Prop) → Prop
def PSet (X : Cx) (t : TSet) : Prop :=
  ∀ (pins : List (Addr × Obj)) (s : Shared) (σ : St) (H : Hp) (o i v : V) (ov iv u : Value) (Q : Hp → Prop), Inv X pins σ H s → RelV o ov → RelV i iv → RelV v u → t o i v H Q →
    wpAny (model X.prog X.w) X.A (setItem ov iv u) (fun _ s' => ∃ H', Inv X pins σ H' s' ∧ Q H') X.xe s
section
variable {X : Cx} {pos : Pos}
def gName (i : Nat) : TG := fun v σ H Q => Q (σ.set i (some v)) H
theorem pg_name {i : Nat} {x : Str} (hN : X.N.Nodup) (hi : X.N[i]? = some x) (hx : Loc X.env.scope x) (hf : X.fn x = true ∨ X.env.scope.names.lookup x = some .local := by first | exact .inl rfl | exact .inr rfl | assumption) : PG X (.Name x pos) (gName i) := by
  intro pins s σ H v u Q I r h
  exact wpAny_assign_Name (store_ok I hN hi hx r (fun s' I' => ⟨_, H, I', h⟩) hf)
def gNil : TGs := fun vs σ H Q => vs = [] ∧ Q σ H
def gCons (t : TG) (u : TGs) : TGs := fun vs σ H Q => ∃ v r, vs = v :: r ∧ t v σ H fun σ' H' => u r σ' H' Q
theorem pgs_nil : PGs X [] gNil := by
  intro pins s σ H vs us Q I r h
  obtain ⟨e, h⟩ := h
  subst e
  cases r
  exact assignInOrder_nil ⟨σ, H, I, h⟩
theorem pgs_cons {e : Expr} {es : List Expr} {t : TG} {u : TGs} (h1 : PG X e t) (h2 : PGs X es u)
    (hs : (assignEach (e :: es) X.env).map (·.2) = assign e X.env :: (assignEach es X.env).map (·.2) := by rfl) : PGs X (e :: es) (gCons t u) := by
  intro pins s σ H vs us Q I r h
  obtain ⟨v, vr, e1, h⟩ := h
  subst e1
  cases r with
  | cons r rr =>
    rw [hs]
    refine assignInOrder_cons (thn (h1 pins s σ H _ _ _ I r h) fun _ s1 ⟨σ1, H1, I1, q1⟩ => ?_)
    exact h2 pins s1 σ1 H1 _ _ Q I1 rr q1
def gTup (K : PySem.W.Frag) (n : Nat) (t : TGs) : TG := fun v σ H Q => ∃ a xs, v = .ref a ∧ SqT K H a xs ∧ xs.length = n ∧ t xs σ H Q
theorem pg_tup {es : List Expr} {k : Nat} {t : TGs} {n : Nat} (hc : X.calm = true) (h : PGs X es t)
    (hn : (assignEach es X.env).length = n := by rfl) (hst : (assignEach es X.env).findIdx? (·.1) = none := by rfl) : PG X (.Tuple es k pos) (gTup X.K n t) := by
  intro pins s σ H v u Q I r hw
  obtain ⟨a, xs, e1, hq, hl, hw⟩ := hw
  subst e1
  cases r
  obtain ⟨its, rv, ht, hz⟩ := I.tuple hq
  refine assign_Tuple_tuple (I.ok.hd hc) ht (by simp [hn, ← hl, rv.length]) hst fun h' hx => ?_
  have I1 : Inv X pins σ H { s with heap := h' } := I.kept (t' := s.toks) fun b o e => hx b o (Nat.ne_of_lt (Heap.lt_size e)) e
  exact h pins _ σ H xs _ Q I1 (by simpa using rv) hw
def gSub (to ti : TE) (t : TSet) : TG := fun v σ H Q => to σ H fun o H1 => ti σ H1 fun i H2 => t o i v H2 fun H3 => Q σ H3
theorem pg_sub {o i : Expr} {to ti : TE} {t : TSet} (ho : PE X o to) (hi : PE X i ti) (hs : PSet X t)
    (ha : ∀ v, assign (.Subscript o i pos) X.env v = (do
      let ov ← holding [v] (eval o X.env)
      let iv ← holding [v, ov] (eval i X.env)
      standAt pos
      holding [v, ov, iv] (setItem ov iv v)
      release [v, ov, iv] []) := by intro _; rfl) : PG X (.Subscript o i pos) (gSub to ti t) := by
  intro pins s σ H v u Q I r h
  rw [ha]
  refine wpAny_bind (wpAny_holding (thn (ho pins s σ H _ I h) fun ov s1 ⟨x, H1, I1, r1, q1⟩ => ?_))
  refine wpAny_bind (wpAny_holding (thn (hi pins s1 σ H1 _ I1 q1) fun iv s2 ⟨y, H2, I2, r2, q2⟩ => ?_))
  refine wpAny_bind (wpAny_standAt (wpAny_bind (wpAny_holding (thn (hs pins s2 σ H2 x y v ov iv u _ I2 r1 r2 r q2) fun _ s3 ⟨H3, I3, q3⟩ => ?_))))
  exact wpAny_release ⟨σ, H3, I3, q3⟩
def tAsg (te : TE) (g : TG) : TS := fun D σ H => te σ H fun x H1 => g x σ H1 D.nx
theorem ps_asg {tg e : Expr} {te : TE} {g : TG} (he : PE X e te) (hg : PG X tg g) (hs : swapsWithSole [tg] e pos.line X.env = pure false := by rfl) (hw : swappedStores [tg] e X.env = pure none := by rfl)
    (h1 : (assignEach [tg] X.env).map (·.2) = [assign tg X.env] := by rfl) : PS X (.Assign [tg] e pos) (tAsg te g) := by
  intro pins s σ H D I h
  refine wpAny_Assign_stores (thn (he pins s σ H _ I h) fun v s1 ⟨x, H1, I1, r1, q1⟩ => ?_) hs hw
  rw [h1]
  exact thn (hg pins s1 σ H1 x v _ I1 r1 q1) fun _ s2 q => q
theorem ps_set {i : Nat} {x : Str} {e : Expr} {te : TE} {pos' : Pos} (hN : X.N.Nodup) (hi : X.N[i]? = some x) (hx : Loc X.env.scope x) (he : PE X e te) (hs : swapsWith e (some (.Name x pos')) pos.line X.env = pure false := by rfl) (hf : X.fn x = true ∨ X.env.scope.names.lookup x = some .local := by first | exact .inl rfl | exact .inr rfl | assumption) :
    PS X (.Assign [.Name x pos'] e pos) (tAsg te (gName i)) := by
  intro pins s σ H D I h
  refine wpAny_Assign_Name (thn (he pins s σ H _ I h) fun v s1 ⟨y, H1, I1, r1, q1⟩ => ?_) hs
  exact store_ok I1 hN hi hx r1 (fun s2 I2 => ⟨_, H1, I2, q1⟩) hf
end
section
variable {X : Cx} {pos : Pos}
def tWhile (c : TT) (tb : TS) : TS := fun D σ H => ∃ W : Nat → St → Hp → Prop, (∃ m, W m σ H) ∧ ∀ m σ H, W m σ H →
  c σ H fun b H1 => if b = true then ∃ N : St → Hp → Prop, (∀ σ' H', N σ' H' → ∃ m', m' < m ∧ W m' σ' H') ∧ tb { D with nx := N, ct := N, bk := D.nx } σ H1 else D.nx σ H1
theorem ps_while {c : Expr} {body : List Stmt} {tc : TT} {tb : TS} (hp : PassesOwn (model X.prog X.w) X.A X.env X.xe) (hc : PT X c tc) (hb : PSs X body tb) : PS X (.While c body [] pos) (tWhile tc tb) := by
  intro pins s σ H D I h
  obtain ⟨W, ⟨m0, w0⟩, turn⟩ := h
  refine wpAny_While (codeAny_whileLoop (fun n s' => ∃ σ' H', Inv X pins σ' H' s' ∧ W n σ' H') ?_ m0 ⟨σ, H, I, w0⟩)
  rintro n s1 ⟨σ1, H1, I1, w1⟩
  refine wpAny_passesOwn hp (thn (hc pins s1 σ1 H1 _ I1 (turn n σ1 H1 w1)) fun b s2 ⟨H2, I2, q2⟩ => ?_)
  cases b with
  | true =>
    obtain ⟨N, hN, q2⟩ := q2
    rw [if_pos rfl]
    refine wpAny_passesOwn hp (thn (hb pins s2 σ1 H2 _ I2 q2) fun f s3 q3 => ?_)
    cases f with
    | next =>
      obtain ⟨σ3, H3, I3, n3⟩ := q3
      obtain ⟨m', hm, w3⟩ := hN σ3 H3 n3
      exact ⟨m', hm, σ3, H3, I3, w3⟩
    | cont =>
      obtain ⟨σ3, H3, I3, n3⟩ := q3
      obtain ⟨m', hm, w3⟩ := hN σ3 H3 n3
      exact ⟨m', hm, σ3, H3, I3, w3⟩
    | brk => exact q3
    | ret v => exact q3
  | false =>
    rw [if_neg Bool.false_ne_true]
    exact wpAny_execs_nil ⟨σ1, H2, I2, q2⟩
end
structure It where
  go : Nat → Hp → Prop
  yld : Nat → Hp → V → Hp → Prop
  stop : Nat → Hp → Prop
def FpOk (X : Cx) (pins : List (Addr × Obj)) (H : Hp) (b : Addr) : Prop :=
  H b = none ∧ b ≠ X.env.locals ∧ b ∉ X.fs ∧ (b ∈ X.ex ∨ X.s₀.heap.objs.size ≤ b) ∧ (∀ x c, X.env.cells.lookup x = some c → c ≠ b) ∧ ∀ p ∈ X.pn ++ pins, p.1 ≠ b
theorem Inv.fpOk {X : Cx} {pins : List (Addr × Obj)} {σ : St} {H H' : Hp} {s : Shared} {b : Addr} (I : Inv X pins σ H s) (hb : s.heap.objs.size ≤ b) (hn : H' b = none) : FpOk X pins H' b := by
  refine ⟨hn, Nat.ne_of_gt (Nat.lt_of_lt_of_le I.lt hb), I.nofs hb, .inr (Nat.le_trans I.sz hb), fun x c e z => ?_, fun p hp z => ?_⟩
  · obtain ⟨v, q⟩ := I.cell x c e
    exact absurd (Nat.lt_of_lt_of_le q.lt (by rw [z]; exact hb)) (Nat.lt_irrefl _)
  · exact absurd (Nat.lt_of_lt_of_le (Heap.lt_size (I.pin p hp).1) (by rw [z]; exact hb)) (Nat.lt_irrefl _)
structure Turn (P : Program) (w : World) (K : PySem.W.Frag) (tg : Expr) (J : It) (fp : List Addr) (it : Addr) (tn : Nat → Heap → Prop) : Prop where
  mem : it ∈ fp
  obj : ∀ i h, tn i h → ∀ b ∈ fp, ∃ o, h.get? b = some o ∧ ∀ v, o.data ≠ .cell v
  keep : ∀ i h h', tn i h → (∀ b ∈ fp, ∀ o, h.get? b = some o → h'.get? b = some o) → tn i h'
  item : ∀ (X : Cx), X.prog = P → X.w = w → X.K = K → X.calm = true → ∀ (i : Nat) (pins : List (Addr × Obj)) (s : Shared) (σ : St) (H : Hp) (E : Value → Shared → Prop), Inv X pins σ H s → (∀ b ∈ fp, FpOk X pins H b) → tn i s.heap → J.go i H →
    wpAny (model P w) X.A (pyNext (.ref it)) (fun r s1 => ∃ u, r = some u ∧
      wpAny (model P w) X.A (letOwnedTupleGo tg (.ref it) u) (fun _ s2 => ∃ x H', Inv X pins σ H' s2 ∧ RelV x u ∧ J.yld i H x H' ∧ tn (i + 1) s2.heap ∧ ∀ b ∈ fp, H' b = none) E s1) E s
  done : ∀ (X : Cx), X.prog = P → X.w = w → X.K = K → X.calm = true → ∀ (i : Nat) (pins : List (Addr × Obj)) (s : Shared) (σ : St) (H : Hp) (E : Value → Shared → Prop), Inv X pins σ H s → (∀ b ∈ fp, FpOk X pins H b) → tn i s.heap → J.stop i H →
    wpAny (model P w) X.A (pyNext (.ref it)) (fun r s1 => r = none ∧ Inv X pins σ H s1) E s
  self : ∀ (A : Around) (i : Nat) (s : Shared) (Q : Value → Shared → Prop) (E : Value → Shared → Prop), tn i s.heap → Q (.ref it) s → wpAny (model P w) A (pyIter (.ref it)) Q E s
abbrev TI := St → Hp → (It → Hp → Prop) → Prop
def PIE (X : Cx) (pins : List (Addr × Obj)) (σ : St) (tg : Expr) (R : It → Hp → Prop) (itv : Value) (s2 : Shared) : Prop :=
  ∃ (it : Addr) (fp : List Addr) (tn : Nat → Heap → Prop) (J : It) (H' : Hp), itv = .ref it ∧ Inv X pins σ H' s2 ∧ Turn X.prog X.w X.K tg J fp it tn ∧ tn 0 s2.heap ∧ (∀ b ∈ fp, FpOk X pins H' b) ∧ R J H'
def PI (X : Cx) (tg iter : Expr) (wi : TI) : Prop :=
  ∀ (pins : List (Addr × Obj)) (s : Shared) (σ : St) (H : Hp) (R : It → Hp → Prop), Inv X pins σ H s → wi σ H R →
    wpAny (model X.prog X.w) X.A (eval iter X.env) (fun v s1 => wpAny (model X.prog X.w) X.A (pyIter v) (PIE X pins σ tg R) X.xe s1) X.xe s
theorem go_of {M : Model} {A : Around} {E : Value → Shared → Prop} {s : Shared} {tg : Expr} {it : Addr} {u : Value} {o : Obj} {n : String} {vs : Array Value} {Q : Unit → Shared → Prop} (ho : s.heap.get? it = some o) (hc : o.cls = .type n) (hd : o.data = .fields vs)
    (hn : ["enumerate", "zip", "dict_itemiterator", "dict_reverseitemiterator", "odict_iterator", "itertools.zip_longest", "itertools.pairwise"].contains n = false) (hQ : Q () s) : wpAny M A (letOwnedTupleGo tg (.ref it) u) Q E s := by
  unfold letOwnedTupleGo
  cases tg <;> first
    | exact wpAny_pure hQ
    | (cases u <;> first
        | exact wpAny_pure hQ
        | (refine wpAny_bind (wpAny_load ho ?_)
           rw [hc, hd]
           show wpAny M A (if (["enumerate", "zip", "dict_itemiterator", "dict_reverseitemiterator", "odict_iterator", "itertools.zip_longest", "itertools.pairwise"].contains n && vs[0]? == some (rawInt _)) = true then _ else _) Q E s
           rw [if_neg (by intro h; rw [hn, Bool.false_and] at h; cases h)]
           exact wpAny_pure hQ))
def Itl (K : PySem.W.Frag) (a : Addr) : It :=
  ⟨fun i H => ∃ xs x, SqL K H a xs ∧ xs[i]? = some x, fun i H x H' => H' = H ∧ ∀ xs, SqL K H a xs → xs[i]? = some x, fun i H => ∃ xs, SqL K H a xs ∧ xs.length ≤ i⟩
def Itr (lo : Int) (n : Nat) : It := ⟨fun i _ => i < n, fun i H x H' => H' = H ∧ x = .int (lo + i), fun i _ => n ≤ i⟩
theorem turn_list {P : Program} {w : World} {K : PySem.W.Frag} {tg : Expr} (a it : Addr) : Turn P w K tg (Itl K a) [it] it (fun i h => h.IsListIter it a i) where
  mem := by simp
  obj := fun i h st b hb => by
    have e : b = it := by simpa using hb
    subst e
    obtain ⟨o, e, c, d⟩ := st
    exact ⟨o, e, fun v z => by rw [d] at z; cases z⟩
  keep := fun i h h' st k => st.at fun o e => k it (by simp) o e
  item := by
    intro X hP hw hK hc i pins s σ H E I hf st hg
    subst hP hw hK
    obtain ⟨xs, x, hq, hx⟩ := hg
    obtain ⟨its, rv, p, hz⟩ := I.list hq
    obtain ⟨u, hu, ru⟩ := rv.get hx
    obtain ⟨f0, f1, f2, f3, f4, f5⟩ := hf it (by simp)
    refine wpAny_pyNext_list_item st p.isList (x := u) (by simpa using hu) fun h' st' sb => ?_
    have I1 : Inv X pins σ H { s with heap := h' } := I.turned (t' := s.toks) (fun b o hb e => (sb.2 b hb).trans e) f0 f1 f3 f4 f5
    obtain ⟨o, e, c, d⟩ := id st'
    exact ⟨u, rfl, go_of (s := { s with heap := h' }) e c d (by decide) ⟨x, H, I1, ru, ⟨rfl, fun ys hy => by rw [I.list_inj hy hq]; exact hx⟩, st', fun b hb => (hf b hb).1⟩⟩
  done := by
    intro X hP hw hK hc i pins s σ H E I hf st hg
    subst hP hw hK
    obtain ⟨xs, hq, hx⟩ := hg
    obtain ⟨its, rv, p, hz⟩ := I.list hq
    obtain ⟨f0, f1, f2, f3, f4, f5⟩ := hf it (by simp)
    have hl := rv.length
    exact wpAny_pyNext_list_end (I.ok.hd hc) st p.isList (by simp; omega) fun h' eb => ⟨rfl, I.turned (t' := s.toks) (fun b o hb e => eb b o hb e) f0 f1 f3 f4 f5⟩
  self := fun _ _ _ _ _ st h => wpAny_pyIter_listiter st h
theorem turn_range {P : Program} {w : World} {K : PySem.W.Frag} {tg : Expr} (it : Addr) (lo : Int) (n : Nat) : Turn P w K tg (Itr lo n) [it] it (fun i h => IsRangeIter h it (lo + (i : Nat) * 1) ((n : Int) - (i : Nat)) 1) where
  mem := by simp
  obj := fun i h st b hb => by
    have e : b = it := by simpa using hb
    subst e
    exact ⟨_, st, fun v z => by
      have z' : Data.fields _ = Data.cell v := z
      cases z'⟩
  keep := fun i h h' st k => k it (by simp) _ st
  item := by
    intro X hP hw hK hc i pins s σ H E I hf st hg
    subst hP hw hK
    obtain ⟨f0, f1, f2, f3, f4, f5⟩ := hf it (by simp)
    have W := Walks.range (prog := X.prog) (w := X.w) (I.ok.hd hc) it lo 1 n
    refine W.item i s _ _ hg st fun v h' tk hv st' kk => ?_
    obtain ⟨t, rfl⟩ := hv
    have I1 : Inv X pins σ H { s with heap := h', toks := tk } := I.turned (fun b o hb e => kk b o (by simpa using hb) e) f0 f1 f3 f4 f5
    refine ⟨_, rfl, go_of (s := { s with heap := h', toks := tk }) (n := "range_iterator") st' rfl rfl (by decide) ⟨.int (lo + i), H, I1, ⟨t, ?_⟩, ⟨rfl, rfl⟩, st', fun b hb => (hf b hb).1⟩⟩
    rw [Int.mul_one]
  done := by
    intro X hP hw hK hc i pins s σ H E I hf st hg
    subst hP hw hK
    obtain ⟨f0, f1, f2, f3, f4, f5⟩ := hf it (by simp)
    exact wpAny_pyNext_range_end (I.ok.hd hc) st (by have : n ≤ i := hg; omega) fun h' eb => ⟨rfl, I.turned (t' := s.toks) (fun b o hb e => eb b o hb e) f0 f1 f3 f4 f5⟩
  self := fun _ _ _ _ _ st h => wpAny_pyIter_rangeiter st h
end L2
namespace L2
open PySem PySem.Spec PyProof.Rows
section
variable {X : Cx} {tg : Expr}
def iList (K : PySem.W.Frag) (tl : TE) : TI := fun σ H R => tl σ H fun x H1 => ∃ a, x = .ref a ∧ (∃ xs, SqL K H1 a xs) ∧ R (Itl K a) H1
theorem pi_list {l : Expr} {tl : TE} (hl : PE X l tl) : PI X tg l (iList X.K tl) := by
  intro pins s σ H R I h
  refine thn (hl pins s σ H _ I h) fun v s1 ⟨x, H1, I1, r1, q1⟩ => ?_
  obtain ⟨a, e, ⟨xs, hq⟩, q⟩ := q1
  subst e
  cases r1
  obtain ⟨its, rv, p, hz⟩ := I1.list hq
  refine wpAny_pyIter_list p.isList ?_
  refine ⟨s1.heap.objs.size, [s1.heap.objs.size], _, _, H1, rfl, I1.kept (t' := s1.toks) fun b o e => Heap.get?_push_of_some _ e, turn_list a _, ⟨_, Heap.get?_push_size _ rfl, rfl, rfl⟩, fun b hb => ?_, q⟩
  have e : b = s1.heap.objs.size := by simpa using hb
  subst e
  exact I1.fpOk (Nat.le_refl _) (I1.hok.fresh (Nat.le_refl _))
theorem range_it {pins : List (Addr × Obj)} {σ : St} {H : Hp} {s : Shared} {R : It → Hp → Prop} {E : Value → Shared → Prop} {lo hi : Int} {t u v : Tok} {tk : Nat} (I : Inv X pins σ H s) (h1 : -(2 ^ 62) ≤ lo) (h2 : lo < 2 ^ 62) (h3 : -(2 ^ 62) ≤ hi) (h4 : hi < 2 ^ 62)
    (q : R (Itr lo (hi - lo).toNat) H) : wpAny (model X.prog X.w) X.A (pyIter (.ref s.heap.objs.size)) (PIE X pins σ tg R) E { s with heap := s.heap.push { cls := .type "range", data := .fields #[.int lo t, .int hi u, .int 1 v] }, toks := tk } := by
  refine wpAny_pyIter_range (IsRange.new ..) (small_one h1 h2 h3 h4) ?_
  have I1 : Inv X pins σ H { s with heap := s.heap.push { cls := .type "range", data := .fields #[.int lo t, .int hi u, .int 1 v] }, toks := tk } := I.kept fun b o e => Heap.get?_push_of_some _ e
  refine ⟨(s.heap.push { cls := .type "range", data := .fields #[.int lo t, .int hi u, .int 1 v] }).objs.size, [(s.heap.push { cls := .type "range", data := .fields #[.int lo t, .int hi u, .int 1 v] }).objs.size], _, _, H, rfl,
    I1.kept (t' := tk) fun b o e => Heap.get?_push_of_some _ e, turn_range _ lo (hi - lo).toNat, ?_, fun b hb => ?_, q⟩
  · have e1 : lo + ((0 : Nat) : Int) * 1 = lo := by simp
    have e2 : (((hi - lo).toNat : Nat) : Int) - ((0 : Nat) : Int) = Builtin.Range.rangeSize lo hi 1 := by rw [rangeSize_one]; split <;> omega
    show IsRangeIter _ _ (lo + ((0 : Nat) : Int) * 1) ((((hi - lo).toNat : Nat) : Int) - ((0 : Nat) : Int)) 1
    rw [e1, e2]
    exact Heap.get?_push_size _ rfl
  · have e : b = (s.heap.push { cls := .type "range", data := .fields #[.int lo t, .int hi u, .int 1 v] }).objs.size := by simpa using hb
    subst e
    exact I1.fpOk (Nat.le_refl _) (I1.hok.fresh (Nat.le_refl _))
def iRng1 (ta : TA) : TI := fun σ H R => ta σ H fun vs H1 => ∃ j : Int, vs = [.int j] ∧ -(2 ^ 62) ≤ j ∧ j < 2 ^ 62 ∧ R (Itr 0 j.toNat) H1
theorem pi_range1 {a : Expr} {ta : TA} {p pos : Pos} (hg : Gl X "range") (hm : X.mg "range" = none) (ha : PA X [a] ta) (hs : starEach [a] X.env = [(false, eval a X.env)] := by rfl) : PI X tg (.Call (.Name "range" p) [a] [] pos) (iRng1 ta) := by
  intro pins s σ H R I h
  refine Call_ (ld_blt I hg hm boot_range (PyProof.Rows.callWith_type1 (thn (ha pos pins s σ H _ I h) fun us s1 ⟨vs, H1, I1, r1, q1⟩ => ?_) hs rfl))
  obtain ⟨j, e, q1, q2, q⟩ := q1
  subst e
  cases r1 with
  | cons r rr =>
    cases rr
    obtain ⟨t, rfl⟩ := r
    exact call_range_1 (range_it I1 (by omega) (by omega) q1 q2 (by simpa using q))
def tFor (wi : TI) (g : TG) (tb : TS) : TS := fun D σ H => wi σ H fun J H1 => ∃ W : Nat → Nat → St → Hp → Prop, (∃ m, W 0 m σ H1) ∧ ∀ i m σ H, W i m σ H →
  (J.stop i H ∧ D.nx σ H) ∨ (J.go i H ∧ ∃ N : St → Hp → Prop, (∀ σ' H', N σ' H' → ∃ m', m' < m ∧ W (i + 1) m' σ' H') ∧ ∀ x H', J.yld i H x H' → g x σ H' fun σ2 H2 => tb { D with nx := N, ct := N, bk := D.nx } σ2 H2)
def pinsAt (fp : List Addr) (h : Heap) : List (Addr × Obj) := fp.filterMap fun b => (h.get? b).map fun o => (b, o)
theorem mem_pinsAt {fp : List Addr} {h : Heap} {b : Addr} {o : Obj} (hb : b ∈ fp) (e : h.get? b = some o) : (b, o) ∈ pinsAt fp h := List.mem_filterMap.mpr ⟨b, hb, by rw [e]; rfl⟩
theorem of_pinsAt {fp : List Addr} {h : Heap} {p : Addr × Obj} (hp : p ∈ pinsAt fp h) : p.1 ∈ fp ∧ h.get? p.1 = some p.2 := by
  obtain ⟨b, hb, e⟩ := List.mem_filterMap.mp hp
  cases q : h.get? b with
  | none => rw [q] at e; cases e
  | some o =>
    rw [q] at e
    have e' : (b, o) = p := Option.some.inj e
    subst e'
    exact ⟨hb, q⟩
theorem Inv.pinned {pins : List (Addr × Obj)} {σ : St} {H : Hp} {s : Shared} {fp : List Addr} (I : Inv X pins σ H s) (hf : ∀ b ∈ fp, FpOk X pins H b) (ho : ∀ b ∈ fp, ∃ o, s.heap.get? b = some o ∧ ∀ v, o.data ≠ .cell v) : Inv X (pins ++ pinsAt fp s.heap) σ H s :=
  I.pins_of fun p hp => (List.mem_append.mp hp).elim (fun z => I.pin p (List.mem_append_right _ z)) fun z => by
    obtain ⟨hb, e⟩ := of_pinsAt z
    obtain ⟨f0, f1, f2, _⟩ := hf p.1 hb
    obtain ⟨o, e', d⟩ := ho p.1 hb
    rw [e] at e'; cases e'
    exact ⟨e, f0, f1, f2, d⟩
theorem Inv.unpinned {pins pl : List (Addr × Obj)} {σ : St} {H : Hp} {s : Shared} (I : Inv X (pins ++ pl) σ H s) : Inv X pins σ H s := I.pins_of fun p hp => I.pin p (List.mem_append_right _ (List.mem_append_left _ hp))
theorem ps_for {iter : Expr} {body : List Stmt} {wi : TI} {g : TG} {tb : TS} {pos : Pos} (hp : PassesOwn (model X.prog X.w) X.A X.env X.xe) (hc : X.calm = true) (hi : PI X tg iter wi) (hg : PG X tg g) (hb : PSs X body tb)
    (hs : ∀ x, foldedSetIterable iter X.env x = pure x := by intro _; rfl) : PS X (.For tg iter body [] pos) (tFor wi g tb) := by
  intro pins s σ H D I h
  refine wpAny_For (thn (hi pins s σ H _ I h) fun v s1 h1 => thn h1 fun itv s2 h2 => ?_) hs
  obtain ⟨it, fp, tn, J, H2, e, I2, T, st2, f2, W, ⟨m0, w0⟩, turn⟩ := h2
  subst e
  -- what stays true of the iterator's objects through the loop
  have stat : ∀ {H' : Hp}, (∀ b ∈ fp, H' b = none) → ∀ b ∈ fp, FpOk X pins H' b := fun hn b hb => ⟨hn b hb, (f2 b hb).2⟩
  refine codeAny_forLoop_any (fun n s' => ∃ i σ' H', Inv X pins σ' H' s' ∧ tn i s'.heap ∧ (∀ b ∈ fp, H' b = none) ∧ W i n σ' H') ?_ m0 ⟨0, σ, H2, I2, st2, fun b hb => (f2 b hb).1, w0⟩
  rintro n s3 ⟨i, σ3, H3, I3, st3, fr3, w3⟩
  rcases turn i n σ3 H3 w3 with ⟨stop, qn⟩ | ⟨go, N, hN, step⟩
  · refine wpAny_passesOwn hp (thn (T.done X rfl rfl rfl hc i pins s3 σ3 H3 X.xe I3 (stat fr3) st3 stop) fun r s4 ⟨hr, I4⟩ => ?_)
    subst hr
    exact wpAny_execs_nil ⟨σ3, H3, I4, qn⟩
  · refine wpAny_passesOwn hp (thn (T.item X rfl rfl rfl hc i pins s3 σ3 H3 X.xe I3 (stat fr3) st3 go) fun r s4 ⟨u, hr, h4⟩ => ?_)
    subst hr
    refine wpAny_passesOwn hp (thn h4 fun _ s5 ⟨x, H5, I5, r5, y5, st5, fr5⟩ => ?_)
    have I5' := I5.pinned (stat fr5) (T.obj _ _ st5)
    refine wpAny_passesOwn hp (thn (hg _ s5 σ3 H5 x u _ I5' r5 (step x H5 y5)) fun _ s6 ⟨σ6, H6, I6, q6⟩ => ?_)
    refine wpAny_passesOwn hp (thn (hb _ s6 σ6 H6 _ I6 q6) fun f s7 q7 => ?_)
    have again : ∀ {σ7 : St} {H7 : Hp}, Inv X (pins ++ pinsAt fp s5.heap) σ7 H7 s7 → N σ7 H7 → ∃ m, m < n ∧ ∃ i σ' H', Inv X pins σ' H' s7 ∧ tn i s7.heap ∧ (∀ b ∈ fp, H' b = none) ∧ W i m σ' H' := fun {σ7 H7} I7 n7 => by
      obtain ⟨m', hm, w7⟩ := hN σ7 H7 n7
      refine ⟨m', hm, i + 1, σ7, H7, I7.unpinned, T.keep _ _ _ st5 fun b hb o e => (I7.pin (b, o) (List.mem_append_right _ (List.mem_append_right _ (mem_pinsAt hb e)))).1, fun b hb => ?_, w7⟩
      obtain ⟨o, e, d⟩ := T.obj _ _ st5 b hb
      exact (I7.pin (b, o) (List.mem_append_right _ (List.mem_append_right _ (mem_pinsAt hb e)))).2.1
    cases f with
    | next => obtain ⟨σ7, H7, I7, n7⟩ := q7; exact again I7 n7
    | cont => obtain ⟨σ7, H7, I7, n7⟩ := q7; exact again I7 n7
    | brk => obtain ⟨σ7, H7, I7, q7⟩ := q7; exact ⟨σ7, H7, I7.unpinned, q7⟩
    | ret v => obtain ⟨x7, σ7, H7, I7, r7, q7⟩ := q7; exact ⟨x7, σ7, H7, I7.unpinned, r7, q7⟩
end
theorem for_list {K : PySem.W.Frag} {a : Addr} {xs : List V} {g : TG} {tb : TS} {D : Ends} {σ : St} {H : Hp} (Pv : Nat → St → Hp → Prop) (h0 : Pv 0 σ H) (hl : ∀ i σ H, i ≤ xs.length → Pv i σ H → SqL K H a xs)
    (hs : ∀ i x σ H, xs[i]? = some x → Pv i σ H → g x σ H fun σ2 H2 => tb { D with nx := Pv (i + 1), ct := Pv (i + 1), bk := D.nx } σ2 H2) (hd : ∀ σ H, Pv xs.length σ H → D.nx σ H) :
    ∃ W : Nat → Nat → St → Hp → Prop, (∃ m, W 0 m σ H) ∧ ∀ i m σ H, W i m σ H →
      ((Itl K a).stop i H ∧ D.nx σ H) ∨ ((Itl K a).go i H ∧ ∃ N : St → Hp → Prop, (∀ σ' H', N σ' H' → ∃ m', m' < m ∧ W (i + 1) m' σ' H') ∧ ∀ x H', (Itl K a).yld i H x H' → g x σ H' fun σ2 H2 => tb { D with nx := N, ct := N, bk := D.nx } σ2 H2) := by
  refine ⟨fun i m σ H => m = xs.length - i ∧ i ≤ xs.length ∧ Pv i σ H, ⟨xs.length, by simp, Nat.zero_le _, h0⟩, ?_⟩
  rintro i m σ H ⟨rfl, hi, p⟩
  have q := hl i σ H hi p
  by_cases hlt : i < xs.length
  · refine .inr ⟨⟨xs, xs[i], q, by simp [hlt]⟩, Pv (i + 1), fun σ' H' p' => ⟨xs.length - (i + 1), by omega, rfl, hlt, p'⟩, fun x H' y => ?_⟩
    obtain ⟨e, y⟩ := y
    subst e
    exact hs i x σ _ (y xs q) p
  · have e : i = xs.length := by omega
    subst e
    exact .inl ⟨⟨xs, q, Nat.le_refl _⟩, hd σ H p⟩
end L2
namespace L2
open PySem PySem.Spec PyProof.Rows
abbrev R2 := V → V → Hp → VK → Prop
def OpR (X : Cx) (f : Value → Value → Sem Value) (r : R2) : Prop :=
  ∀ (pins : List (Addr × Obj)) (s : Shared) (σ : St) (H : Hp) (x y : V) (v u : Value) (Q : VK), Inv X pins σ H s → RelV x v → RelV y u → r x y H Q →
    wpAny (model X.prog X.w) X.A (f v u) (EP X pins σ Q) X.xe s
def UnR (X : Cx) (f : Value → Sem Value) (r : V → Hp → VK → Prop) : Prop :=
  ∀ (pins : List (Addr × Obj)) (s : Shared) (σ : St) (H : Hp) (x : V) (v : Value) (Q : VK), Inv X pins σ H s → RelV x v → r x H Q →
    wpAny (model X.prog X.w) X.A (f v) (EP X pins σ Q) X.xe s
def CallR (X : Cx) (f : Value) (r : List V → Hp → VK → Prop) : Prop :=
  ∀ (pins : List (Addr × Obj)) (s : Shared) (σ : St) (H : Hp) (xs : List V) (us : List Value) (Q : VK), Inv X pins σ H s → Vals xs us → r xs H Q →
    wpAny (model X.prog X.w) X.A (call f us) (EP X pins σ Q) X.xe s
def TruR (X : Cx) (r : V → Hp → (Bool → Hp → Prop) → Prop) : Prop :=
  ∀ (pins : List (Addr × Obj)) (s : Shared) (σ : St) (H : Hp) (x : V) (v : Value) (Q : Bool → Hp → Prop), Inv X pins σ H s → RelV x v → r x H Q →
    wpAny (model X.prog X.w) X.A (truthy v) (TP X pins σ Q) X.xe s
def tOp (r : R2) (ta tb : TE) : TE := fun σ H Q => ta σ H fun x H1 => tb σ H1 fun y H2 => r x y H2 Q
def tUn (r : V → Hp → VK → Prop) (ta : TE) : TE := fun σ H Q => ta σ H fun x H1 => r x H1 Q
def rI (C : Int → Int → Prop) (g : Int → Int → V) : R2 := fun x y H Q => ∃ i j, x = .int i ∧ y = .int j ∧ C i j ∧ Q (g i j) H
def rI0 (g : Int → Int → V) : R2 := fun x y H Q => ∃ i j, x = .int i ∧ y = .int j ∧ Q (g i j) H
def rU (g : Int → V) : V → Hp → VK → Prop := fun x H Q => ∃ i, x = .int i ∧ Q (g i) H
section
variable {X : Cx} {a b c : Expr} {ta tb tc : TE} {pos : Pos}
theorem binT (ha : PE X a ta) (hb : PE X b tb) {pins : List (Addr × Obj)} {s : Shared} {σ : St} {H : Hp} {R : V → V → Hp → Prop} (I : Inv X pins σ H s)
    (h : ta σ H fun x H1 => tb σ H1 fun y H2 => R x y H2) {Q : Value → Shared → Prop} {f : Value → Value → Sem Value}
    (hf : ∀ v u s2 x y H2, Inv X pins σ H2 s2 → RelV x v → RelV y u → R x y H2 → wpAny (model X.prog X.w) X.A (f v u) Q X.xe s2) :
    wpAny (model X.prog X.w) X.A (eval a X.env) (fun v s₁ => wpAny (model X.prog X.w) X.A (eval b X.env) (fun u s₂ => wpAny (model X.prog X.w) X.A (f v u) Q X.xe s₂) X.xe s₁) X.xe s := by
  refine thn (ha pins s σ H _ I h) fun v s1 ⟨x, H1, I1, r1, q1⟩ => ?_
  refine thn (hb pins s1 σ H1 _ I1 q1) fun u s2 ⟨y, H2, I2, r2, q2⟩ => ?_
  exact hf v u s2 x y H2 I2 r1 r2 q2
theorem pe_op {op : Operator} {r : R2} (ho : OpR X (binaryOp op) r) (ha : PE X a ta) (hb : PE X b tb) : PE X (.BinOp a op b pos) (tOp r ta tb) := by
  intro pins s σ H Q I h
  exact wpAny_BinOp (binT ha hb I h fun v u s2 x y H2 I2 rx ry q => ho pins s2 σ H2 x y v u Q I2 rx ry q)
theorem pe_un {op : UnaryOp} {r : V → Hp → VK → Prop} (ho : UnR X (unaryOp op) r) (ha : PE X a ta) : PE X (.UnaryOp op a pos) (tUn r ta) := by
  intro pins s σ H Q I h
  exact UnaryOp_ (thn (ha pins s σ H _ I h) fun v s1 ⟨x, H1, I1, r1, q1⟩ => ho pins s1 σ H1 x v Q I1 r1 q1)
theorem opI {f : Value → Value → Sem Value} {C : Int → Int → Prop} {g : Int → Int → Int}
    (rule : ∀ (i j : Int) (t u : Tok) (s : Shared) (Q : Value → Shared → Prop) (E : Value → Shared → Prop), C i j → Q (.int (g i j) s.toks) { s with toks := s.toks + 1 } → wpAny (model X.prog X.w) X.A (f (.int i t) (.int j u)) Q E s) :
    OpR X f (rI C fun i j => .int (g i j)) := by
  intro pins s σ H x y v u Q I rx ry h
  obtain ⟨i, j, rfl, rfl, hc, q⟩ := h
  obtain ⟨t, rfl⟩ := rx
  obtain ⟨t', rfl⟩ := ry
  exact rule i j t t' s _ _ hc ⟨.int (g i j), H, I.tok _, ⟨_, rfl⟩, q⟩
theorem opI0 {f : Value → Value → Sem Value} {g : Int → Int → Int}
    (rule : ∀ (i j : Int) (t u : Tok) (s : Shared) (Q : Value → Shared → Prop) (E : Value → Shared → Prop), Q (.int (g i j) s.toks) { s with toks := s.toks + 1 } → wpAny (model X.prog X.w) X.A (f (.int i t) (.int j u)) Q E s) :
    OpR X f (rI0 fun i j => .int (g i j)) := by
  intro pins s σ H x y v u Q I rx ry h
  obtain ⟨i, j, rfl, rfl, q⟩ := h
  obtain ⟨t, rfl⟩ := rx
  obtain ⟨t', rfl⟩ := ry
  exact rule i j t t' s _ _ ⟨.int (g i j), H, I.tok _, ⟨_, rfl⟩, q⟩
theorem opB0 {f : Value → Value → Sem Value} {g : Int → Int → Bool}
    (rule : ∀ (i j : Int) (t u : Tok) (s : Shared) (Q : Value → Shared → Prop) (E : Value → Shared → Prop), Q (.bool (g i j)) s → wpAny (model X.prog X.w) X.A (f (.int i t) (.int j u)) Q E s) :
    OpR X f (rI0 fun i j => .bl (g i j)) := by
  intro pins s σ H x y v u Q I rx ry h
  obtain ⟨i, j, rfl, rfl, q⟩ := h
  obtain ⟨t, rfl⟩ := rx
  obtain ⟨t', rfl⟩ := ry
  exact rule i j t t' s _ _ ⟨.bl (g i j), H, I, rfl, q⟩
def CDiv (i j : Int) : Prop := 0 < j ∧ j < 1073741824
def CPow (i j : Int) : Prop := 0 ≤ j ∧ j ≤ 1000000 ∧ i.natAbs < 2 ^ 64
def CMul (i j : Int) : Prop := (-(2 ^ 64) < i ∧ i < 2 ^ 64) ∨ (-(2 ^ 64) < j ∧ j < 2 ^ 64)
theorem CMul.ok {i j : Int} (h : CMul i j) : IntMulOk i j := by
  rcases h with ⟨h1, h2⟩ | ⟨h1, h2⟩
  · exact .of_left (intBits_le_64 h1 h2)
  · exact .of_right (intBits_le_64 h1 h2)
theorem two_pow_nn (k : Nat) : (0 : Int) ≤ 2 ^ k := by
  rw [two_pow_cast]
  exact Int.natCast_nonneg _
theorem op_add : OpR X (binaryOp .Add) (rI0 fun i j => .int (i + j)) := opI0 fun _ _ _ _ _ _ _ q => add_int q
theorem op_sub : OpR X (binaryOp .Sub) (rI0 fun i j => .int (i - j)) := opI0 fun _ _ _ _ _ _ _ q => sub_int q
theorem op_mul : OpR X (binaryOp .Mult) (rI CMul fun i j => .int (i * j)) := opI fun _ _ _ _ _ _ _ hc q => mul_int q hc.ok
theorem op_fdiv : OpR X (binaryOp .FloorDiv) (rI CDiv fun i j => .int (i / j)) := opI fun i j _ _ _ _ _ hc q => by
  have h1 : (0 : Int) < j := hc.1
  have h2 : j < 1073741824 := hc.2
  exact floordiv_int (by omega) (by rw [Int.fdiv_eq_ediv_of_nonneg i (by omega)]; exact q) (.inl (PyProof.noPylong_small (by omega)))
theorem op_mod : OpR X (binaryOp .Mod) (rI (fun _ j => 0 < j) fun i j => .int (i % j)) := opI fun i j _ _ _ _ _ hc q => by
  have h1 : (0 : Int) < j := hc
  exact mod_int' (by omega) (by rw [Int.fmod_eq_emod_of_nonneg i (by omega)]; exact q)
theorem op_pow : OpR X (binaryOp .Pow) (rI CPow fun i j => .int (i ^ j.toNat)) := opI fun _ _ _ _ _ _ _ hc q => pow_int_small hc.1 hc.2.1 hc.2.2 q
theorem op_shr : OpR X (binaryOp .RShift) (rI (fun _ j => 0 ≤ j) fun i j => .int (i / 2 ^ j.toNat)) := opI fun i j _ _ _ _ _ hc q =>
  rshift_int hc (by rw [Int.fdiv_eq_ediv_of_nonneg i (two_pow_nn _)]; exact q)
theorem unI {f : Value → Sem Value} {g : Int → Int}
    (rule : ∀ (i : Int) (t : Tok) (s : Shared) (Q : Value → Shared → Prop) (E : Value → Shared → Prop), Q (.int (g i) s.toks) { s with toks := s.toks + 1 } → wpAny (model X.prog X.w) X.A (f (.int i t)) Q E s) :
    UnR X f (rU fun i => .int (g i)) := by
  intro pins s σ H x v Q I rx h
  obtain ⟨i, rfl, q⟩ := h
  obtain ⟨t, rfl⟩ := rx
  exact rule i t s _ _ ⟨.int (g i), H, I.tok _, ⟨_, rfl⟩, q⟩
theorem un_neg : UnR X (unaryOp .USub) (rU fun i => .int (-i)) := unI fun _ _ _ _ _ q => neg_int q
end
def scal : V → V → Bool
  | .non, .non => true | .non, .int _ => true | .int _, .non => true | .non, .bl _ => true | .bl _, .non => true | .non, .str _ => true | .str _, .non => true
  | .int _, .int _ => true | .bl _, .bl _ => true | .str _, .str _ => true | .byt _, .byt _ => true
  | .int _, .str _ => true | .str _, .int _ => true | .bl _, .str _ => true | .str _, .bl _ => true
  | _, _ => false
def rEq : R2 := fun x y H Q => scal x y = true ∧ Q (.bl (decide (x = y))) H
def rNe : R2 := fun x y H Q => scal x y = true ∧ Q (.bl (!decide (x = y))) H
theorem dec_int {i j : Int} : decide (V.int i = V.int j) = (i == j) := by
  rw [Bool.eq_iff_iff]
  simp
theorem dec_bl {i j : Bool} : decide (V.bl i = V.bl j) = (i == j) := by
  rw [Bool.eq_iff_iff]
  simp
theorem dec_str {i j : Str} : decide (V.str i = V.str j) = (i == j) := by
  rw [Bool.eq_iff_iff]
  simp
theorem dec_byt {i j : Array UInt8} : decide (V.byt i = V.byt j) = (i.toList == j.toList) := by
  rw [Bool.eq_iff_iff]
  cases i
  cases j
  simp
section
variable {X : Cx} {a b c : Expr} {ta tb tc : TE} {pos : Pos}
theorem fin_bl {pins : List (Addr × Obj)} {σ : St} {H : Hp} {s : Shared} {Q : VK} {k k' : Bool} (I : Inv X pins σ H s) (q : Q (.bl k) H) (e : k = k') : EP X pins σ Q (.bool k') s := by
  subst e
  exact ⟨.bl k, H, I, rfl, q⟩
theorem op_eq : OpR X (compareOp .Eq) rEq := by
  intro pins s σ H x y v u Q I rx ry h
  obtain ⟨hs, q⟩ := h
  cases x with
  | non =>
    cases rx
    cases y with
    | non => cases ry; exact PySem.EqNone.eq_none_none (fin_bl I q (by simp))
    | bl j => cases ry; exact PySem.EqNone.eq_none_bool (fin_bl I q (by simp))
    | int j => obtain ⟨t', rfl⟩ := ry; exact PySem.EqNone.eq_none_int (fin_bl I q (by simp))
    | str j => obtain ⟨t', rfl⟩ := ry; exact PySem.EqNone.eq_none_str (fin_bl I q (by simp))
    | _ => exact absurd (show false = true from hs) Bool.false_ne_true
  | bl i =>
    cases rx
    cases y with
    | non => cases ry; exact PySem.EqNone.eq_bool_none (fin_bl I q (by simp))
    | bl j => cases ry; exact eq_bool (fin_bl I q dec_bl)
    | str j => obtain ⟨t', rfl⟩ := ry; exact PySem.EqMixed.eq_bool_str (fin_bl I q (by simp))
    | _ => exact absurd (show false = true from hs) Bool.false_ne_true
  | int i =>
    obtain ⟨t, rfl⟩ := rx
    cases y with
    | non => cases ry; exact PySem.EqNone.eq_int_none (fin_bl I q (by simp))
    | int j => obtain ⟨t', rfl⟩ := ry; exact eq_int (fin_bl I q dec_int)
    | str j => obtain ⟨t', rfl⟩ := ry; exact PySem.EqMixed.eq_int_str (fin_bl I q (by simp))
    | _ => exact absurd (show false = true from hs) Bool.false_ne_true
  | str i =>
    obtain ⟨t, rfl⟩ := rx
    cases y with
    | non => cases ry; exact PySem.EqNone.eq_str_none (fin_bl I q (by simp))
    | bl j => cases ry; exact PySem.EqMixed.eq_str_bool (fin_bl I q (by simp))
    | int j => obtain ⟨t', rfl⟩ := ry; exact PySem.EqMixed.eq_str_int (fin_bl I q (by simp))
    | str j => obtain ⟨t', rfl⟩ := ry; exact eq_str (fin_bl I q dec_str)
    | _ => exact absurd (show false = true from hs) Bool.false_ne_true
  | byt i =>
    obtain ⟨t, rfl⟩ := rx
    cases y with
    | byt j => obtain ⟨t', rfl⟩ := ry; exact PySem.W.eq_bytes (fin_bl I q dec_byt)
    | _ => exact absurd (show false = true from hs) Bool.false_ne_true
  | _ => cases y <;> exact absurd (show false = true from hs) Bool.false_ne_true
theorem op_ne : OpR X (compareOp .NotEq) rNe := by
  intro pins s σ H x y v u Q I rx ry h
  obtain ⟨hs, q⟩ := h
  cases x with
  | non =>
    cases rx
    cases y with
    | non => cases ry; exact PySem.EqNone.ne_none_none (fin_bl I q (by simp))
    | bl j => cases ry; exact PySem.EqNone.ne_none_bool (fin_bl I q (by simp))
    | int j => obtain ⟨t', rfl⟩ := ry; exact PySem.EqNone.ne_none_int (fin_bl I q (by simp))
    | str j => obtain ⟨t', rfl⟩ := ry; exact PySem.EqNone.ne_none_str (fin_bl I q (by simp))
    | _ => exact absurd (show false = true from hs) Bool.false_ne_true
  | bl i =>
    cases rx
    cases y with
    | non => cases ry; exact PySem.EqNone.ne_bool_none (fin_bl I q (by simp))
    | bl j => cases ry; exact ne_bool (fin_bl I q (congrArg not dec_bl))
    | str j => obtain ⟨t', rfl⟩ := ry; exact PySem.EqMixed.ne_bool_str (fin_bl I q (by simp))
    | _ => exact absurd (show false = true from hs) Bool.false_ne_true
  | int i =>
    obtain ⟨t, rfl⟩ := rx
    cases y with
    | non => cases ry; exact PySem.EqNone.ne_int_none (fin_bl I q (by simp))
    | int j => obtain ⟨t', rfl⟩ := ry; exact ne_int (fin_bl I q (congrArg not dec_int))
    | str j => obtain ⟨t', rfl⟩ := ry; exact PySem.EqMixed.ne_int_str (fin_bl I q (by simp))
    | _ => exact absurd (show false = true from hs) Bool.false_ne_true
  | str i =>
    obtain ⟨t, rfl⟩ := rx
    cases y with
    | non => cases ry; exact PySem.EqNone.ne_str_none (fin_bl I q (by simp))
    | bl j => cases ry; exact PySem.EqMixed.ne_str_bool (fin_bl I q (by simp))
    | int j => obtain ⟨t', rfl⟩ := ry; exact PySem.EqMixed.ne_str_int (fin_bl I q (by simp))
    | str j => obtain ⟨t', rfl⟩ := ry; exact ne_str (fin_bl I q (congrArg not dec_str))
    | _ => exact absurd (show false = true from hs) Bool.false_ne_true
  | byt i =>
    obtain ⟨t, rfl⟩ := rx
    cases y with
    | byt j => obtain ⟨t', rfl⟩ := ry; exact PySem.W.ne_bytes (fin_bl I q (congrArg not dec_byt))
    | _ => exact absurd (show false = true from hs) Bool.false_ne_true
  | _ => cases y <;> exact absurd (show false = true from hs) Bool.false_ne_true
theorem op_lt : OpR X (compareOp .Lt) (rI0 fun i j => .bl (decide (i < j))) := opB0 fun _ _ _ _ _ _ _ q => lt_int q
theorem op_le : OpR X (compareOp .LtE) (rI0 fun i j => .bl (decide (i ≤ j))) := opB0 fun _ _ _ _ _ _ _ q => le_int q
theorem op_gt : OpR X (compareOp .Gt) (rI0 fun i j => .bl (decide (j < i))) := opB0 fun _ _ _ _ _ _ _ q => gt_int q
theorem op_ge : OpR X (compareOp .GtE) (rI0 fun i j => .bl (decide (j ≤ i))) := opB0 fun _ _ _ _ _ _ _ q => ge_int q
theorem op_in_str : OpR X (compareOp .In) (fun x y H Q => ∃ i j, x = .str i ∧ y = .str j ∧ Q (.bl (!(Builtin.Str.occurrences j i 0 j.length 1).isEmpty)) H) := by
  intro pins s σ H x y v u Q I rx ry h
  obtain ⟨i, j, rfl, rfl, q⟩ := h
  obtain ⟨t, rfl⟩ := rx
  obtain ⟨t', rfl⟩ := ry
  exact in_str (fin_bl I q rfl)
theorem nomark (b : Expr) {op : CmpOp} (h : op ≠ .In := by decide) (h2 : op ≠ .NotIn := by decide) : behindInMarks op b = false := by
  have e1 : (op == CmpOp.In) = false := by cases op <;> first | rfl | exact absurd rfl h
  have e2 : (op == CmpOp.NotIn) = false := by cases op <;> first | rfl | exact absurd rfl h2
  cases b <;> simp [behindInMarks, e1, e2]
theorem pe_cmpR {op : CmpOp} {r : R2} (ho : OpR X (compareOp op) r) (ha : PE X a ta) (hb : PE X b tb) (hm : behindInMarks op b = false) : PE X (.Compare a [op] [b] pos) (tOp r ta tb) := by
  intro pins s σ H Q I h
  exact wpAny_Compare1 (binT ha hb I h fun v u s2 x y H2 I2 rx ry q => ho pins s2 σ H2 x y v u Q I2 rx ry q) hm
def tTest (t : TE) : TT := fun σ H Q => t σ H fun x H' => ∃ k, x = .bl k ∧ Q k H'
theorem pt_cmpR {op : CmpOp} {r : R2} (ho : OpR X (compareOp op) r) (ha : PE X a ta) (hb : PE X b tb) (hm : behindInMarks op b = false) : PT X (.Compare a [op] [b] pos) (tTest (tOp r ta tb)) := by
  intro pins s σ H Q I h
  refine wpAny_isTrue_Compare1 (thn (ha pins s σ H _ I h) fun v s1 ⟨x, H1, I1, r1, q1⟩ => thn (hb pins s1 σ H1 _ I1 q1) fun u s2 ⟨y, H2, I2, r2, q2⟩ =>
    thn (ho pins s2 σ H2 x y v u _ I2 r1 r2 q2) fun c s3 ⟨z, H3, I3, r3, k, e, q3⟩ => ?_) hm
  subst e
  cases r3
  exact wpAny_truthy_bool ⟨H3, I3, q3⟩
def tChain (r r' : R2) (ta tb tc : TE) : TE := fun σ H Q => ta σ H fun x H1 => tb σ H1 fun y H2 => r x y H2 fun z H3 => ∃ k, z = .bl k ∧
  (if k = true then tc σ H3 fun w' H4 => r' y w' H4 Q else Q (.bl false) H3)
theorem pe_chain {op op' : CmpOp} {r r' : R2} (ho : OpR X (compareOp op) r) (ho' : OpR X (compareOp op') r') (ha : PE X a ta) (hb : PE X b tb) (hc : PE X c tc)
    (hm : lastMarks [op, op'] [b, c] = false := by with_unfolding_all rfl) : PE X (.Compare a [op, op'] [b, c] pos) (tChain r r' ta tb tc) := by
  intro pins s σ H Q I h
  refine Compare_chain (thn (ha pins s σ H _ I h) fun v s1 ⟨x, H1, I1, r1, q1⟩ => chain_link (thn (hb pins s1 σ H1 _ I1 q1) fun u s2 ⟨y, H2, I2, r2, q2⟩ =>
    thn (ho pins s2 σ H2 x y v u _ I2 r1 r2 q2) fun d s3 ⟨z, H3, I3, r3, k, e, q3⟩ => ?_)) hm
  subst e
  cases r3
  refine wpAny_truthy_bool ?_
  cases k with
  | false => exact ite_ff ⟨.bl false, H3, I3, rfl, q3⟩
  | true => exact ite_tt (chain_last (thn (hc pins s3 σ H3 _ I3 q3) fun w' s4 ⟨z', H4, I4, r4, q4⟩ => ho' pins s4 σ H4 y z' u w' Q I4 r2 r4 q4))
theorem pt_chain {op op' : CmpOp} {r r' : R2} (ho : OpR X (compareOp op) r) (ho' : OpR X (compareOp op') r') (ha : PE X a ta) (hb : PE X b tb) (hc : PE X c tc)
    (hm : lastMarks [op, op'] [b, c] = false := by with_unfolding_all rfl) : PT X (.Compare a [op, op'] [b, c] pos) (tTest (tChain r r' ta tb tc)) := by
  intro pins s σ H Q I h
  refine isTrue_chain (thn (ha pins s σ H _ I h) fun v s1 ⟨x, H1, I1, r1, q1⟩ => test_link (thn (hb pins s1 σ H1 _ I1 q1) fun u s2 ⟨y, H2, I2, r2, q2⟩ =>
    thn (ho pins s2 σ H2 x y v u _ I2 r1 r2 q2) fun d s3 ⟨z, H3, I3, r3, k, e, q3⟩ => ?_)) hm
  subst e
  cases r3
  refine wpAny_truthy_bool ?_
  cases k with
  | false =>
    obtain ⟨k', e', q'⟩ := q3
    cases e'
    exact ite_ff ⟨H3, I3, q'⟩
  | true =>
    refine ite_tt (test_last (thn (hc pins s3 σ H3 _ I3 q3) fun w' s4 ⟨z', H4, I4, r4, q4⟩ => thn (ho' pins s4 σ H4 y z' u w' _ I4 r2 r4 q4) fun d' s5 ⟨z2, H5, I5, r5, k2, e2, q5⟩ => ?_))
    subst e2
    cases r5
    exact wpAny_truthy_bool ⟨H5, I5, q5⟩
def TruV (K : PySem.W.Frag) (x : V) (H : Hp) (k : Bool) : Prop :=
  match x with
  | .non => k = false
  | .bl b => k = b
  | .int i => k = (i != 0)
  | .str y => y.length ≤ sizeLine ∧ k = ((y.length : Int) != 0)
  | .byt y => y.size ≤ sizeLine ∧ k = ((y.size : Int) != 0)
  | .ref p => (∃ xs, SqL K H p xs ∧ k = !xs.isEmpty) ∨ (∃ xs, SqT K H p xs ∧ k = !xs.isEmpty) ∨ ∃ kvs, H p = some (.dK kvs) ∧ k = !kvs.isEmpty
  | _ => False
theorem isEmpty_kv {κ : Type} {kvs : List (κ × V)} {vs : List (κ × Value)} (r : KV kvs vs) : (!vs.isEmpty) = !kvs.isEmpty := by
  cases r <;> rfl
theorem isEmpty_of {xs : List V} {its : List Value} (r : Vals xs its) : (!its.toArray.isEmpty) = !xs.isEmpty := by
  cases r <;> simp
theorem line63 : (sizeLine : Nat) < 2 ^ 63 := by rw [sizeLine_eq]; decide
theorem tru_ok : TruR X (fun x H Q => ∃ k, TruV X.K x H k ∧ Q k H) := by
  intro pins s σ H x v Q I rx h
  obtain ⟨k, e, q⟩ := h
  have hl := line63
  have hs : sizeLine = 16777216 := sizeLine_eq
  cases x with
  | non =>
    cases rx
    have e' : k = false := e
    subst e'
    exact truthy_none ⟨H, I, q⟩
  | bl b =>
    cases rx
    have e' : k = b := e
    subst e'
    exact wpAny_truthy_bool ⟨H, I, q⟩
  | int i =>
    obtain ⟨t, rfl⟩ := rx
    have e' : k = (i != 0) := e
    subst e'
    exact PySem.P.truthy_int ⟨H, I, q⟩
  | str y =>
    obtain ⟨t, rfl⟩ := rx
    obtain ⟨hy, e'⟩ : y.length ≤ sizeLine ∧ k = ((y.length : Int) != 0) := e
    subst e'
    exact PySem.P.truthy_str (by omega) ⟨H, I.tok _, q⟩
  | byt y =>
    obtain ⟨t, rfl⟩ := rx
    obtain ⟨hy, e'⟩ : y.size ≤ sizeLine ∧ k = ((y.size : Int) != 0) := e
    subst e'
    exact PySem.W.truthy_bytes (by omega) ⟨H, I.tok _, q⟩
  | ref p =>
    cases rx
    have e' : (∃ xs, SqL X.K H p xs ∧ k = !xs.isEmpty) ∨ (∃ xs, SqT X.K H p xs ∧ k = !xs.isEmpty) ∨ ∃ kvs, H p = some (.dK kvs) ∧ k = !kvs.isEmpty := e
    rcases e' with ⟨xs, hx, e'⟩ | ⟨xs, hx, e'⟩ | ⟨kvs, hx, e'⟩
    · subst e'
      obtain ⟨its, r, pl, hz⟩ := I.list hx
      have hlen := r.length
      exact wpAny_truthy_list pl.isList (by simp only [List.size_toArray]; omega) ⟨H, I.tok _, by rw [isEmpty_of r]; exact q⟩
    · subst e'
      obtain ⟨its, r, pl, hz⟩ := I.tuple hx
      have hlen := r.length
      exact truthy_tuple pl (by simp only [List.size_toArray]; omega) ⟨H, I.tok _, by rw [isEmpty_of r]; exact q⟩
    · subst e'
      obtain ⟨hz, hS, vs, r, m⟩ : kvs.length ≤ sizeLine ∧ (p == sysModules) = false ∧ ∃ vs, KV kvs vs ∧ s.heap.DictOf (mixKind X.prog X.w) p vs := I.hok p _ hx
      have hlen : kvs.length = vs.length := Paired.length r
      exact wpAny_truthy_dict hS m (by omega) ⟨H, I.tok _, by rw [isEmpty_kv r]; exact q⟩
  | _ => exact (show False from e).elim
theorem pt_truth (ha : PE X a ta) (he : ∀ whole, isTrue a X.env whole = (do let v ← whole; standAt a.pos; holding [v] (truthy v))) :
    PT X a (fun σ H Q => ta σ H fun x H' => ∃ k, TruV X.K x H' k ∧ Q k H') := by
  intro pins s σ H Q I h
  exact isTrue_plain (thn (ha pins s σ H _ I h) fun v s1 ⟨x, H1, I1, r1, q1⟩ => tru_ok pins s1 σ H1 x v Q I1 r1 q1) (he _)
theorem op_add_str : OpR X (binaryOp .Add) (fun x y H Q => ∃ i j, x = .str i ∧ y = .str j ∧ i.length + j.length ≤ sizeLine ∧ Q (.str (i ++ j)) H) := by
  intro pins s σ H x y v u Q I rx ry h
  obtain ⟨i, j, rfl, rfl, hz, q⟩ := h
  obtain ⟨t, rfl⟩ := rx
  obtain ⟨t', rfl⟩ := ry
  exact add_str (fun t' tk => ⟨.str (i ++ j), H, I.tok _, ⟨_, rfl⟩, q⟩) hz
theorem vals1 {x : V} {us : List Value} (r : Vals [x] us) : ∃ u, us = [u] ∧ RelV x u := by
  cases r with
  | cons r1 r2 => cases r2; exact ⟨_, rfl, r1⟩
theorem vals2 {x y : V} {us : List Value} (r : Vals [x, y] us) : ∃ u w', us = [u, w'] ∧ RelV x u ∧ RelV y w' := by
  cases r with
  | cons r1 r2 =>
    cases r2 with
    | cons r3 r4 => cases r4; exact ⟨_, _, rfl, r1, r3⟩
theorem call_int1 : CallR X (.type "int") (fun xs H Q => (∃ i, xs = [.int i] ∧ Q (.int i) H) ∨ ∃ k, xs = [.bl k] ∧ Q (.int (if k then 1 else 0)) H) := by
  intro pins s σ H xs us Q I r h
  rcases h with ⟨i, rfl, q⟩ | ⟨k, rfl, q⟩
  · obtain ⟨u, rfl, t, rfl⟩ := vals1 r
    exact call_int_int ⟨.int i, H, I, ⟨_, rfl⟩, q⟩
  · obtain ⟨u, rfl, r1⟩ := vals1 r
    cases r1
    exact call_int_bool ⟨.int (if k then 1 else 0), H, I.tok _, ⟨_, rfl⟩, q⟩
theorem call_str_int : CallR X (.type "str") (fun xs H Q => ∃ i, xs = [.int i] ∧ i.natAbs.log2 < 1920 ∧ Q (.str (toString i)) H) := by
  intro pins s σ H xs us Q I r h
  obtain ⟨i, rfl, hz, q⟩ := h
  obtain ⟨u, rfl, t, rfl⟩ := vals1 r
  exact PySem.P.str_of_int hz ⟨.str _, H, I.tok _, ⟨_, rfl⟩, q⟩
end
end L2
namespace L2
open PySem PySem.Spec PyProof.Rows
structure ObjM (h : Heap) (x dx C : Addr) (mA : Str → Option Value) : Prop where
  obj : h.get? x = some (PySem.W.instObj C dx)
  ns : h.Ns1 dx mA
  ne : dx ≠ x
section
variable {prog : Program} {w : World} {A : Around} {E : Value → Shared → Prop} {s : Shared} {K : PySem.W.Frag} {x dx C f : Addr} {mA : Str → Option Value} {name : Str} {v : Value}
end
def putF (f : Str) (v : V) : List (Str × V) → List (Str × V)
  | [] => [(f, v)]
  | (g, x) :: r => if g = f then (g, v) :: r else (g, x) :: putF f v r
theorem RelO.some_of {v : V} {o : Option Value} (r : RelO (some v) o) : ∃ u, o = some u ∧ RelV v u := by
  cases o with
  | none => exact (show False from r).elim
  | some u => exact ⟨u, rfl, r⟩
section
variable {P : Program} {w : World} {H H' : Hp} {h h' : Heap} {a C dx : Addr} {fs fs' : List (Str × V)}
end
structure Cls (K : PySem.W.Frag) (C : Addr) : Prop where
  pg : PySem.W.plainGet K C Str.empty = true
  hd : PySem.W.hasDictIn K C = true
  po : PySem.W.plainOver K C = true
  sa : PySem.W.findIn K (.ref C) "__setattr__" = some (some (.builtin "object.__setattr__"))
structure Con (K : PySem.W.Frag) (C : Addr) (f : Str) (v : V) (u : Value) : Prop where
  at_ : PySem.W.findIn K (.ref C) f = some (some u)
  rel : RelV v u
  get : PySem.W.specialIn K u "__get__" = some none
  cp : PySem.W.copiedNames.contains f = false
structure Meth (K : PySem.W.Frag) (C : Addr) (m : Str) (f : Addr) : Prop where
  at_ : PySem.W.findIn K (.ref C) m = some (some (.ref f))
  fn : PySem.W.isFn K (.ref f) = true
  kp : PySem.W.keepIn K (.ref f) = true
section
variable {X : Cx} {pins : List (Addr × Obj)} {σ : St} {H : Hp} {s : Shared} {a C dx : Addr} {fs : List (Str × V)} {f : Str} {v : V} {A : Around} {E : Value → Shared → Prop}
end
section
variable {X : Cx} {o e value : Expr} {f : Str} {pos pos' tpos : Pos} {ta tv : TE}
end
section
variable {X : Cx} {pins : List (Addr × Obj)} {σ : St} {H : Hp} {s : Shared} {A : Around} {E : Value → Shared → Prop} {Q : Value → Shared → Prop} {c : Value} {b : Bool}
inductive TyOf (K : PySem.W.Frag) (H : Hp) : V → Value → Prop where
  | non : TyOf K H .non (.type "NoneType")
  | bl (x : Bool) : TyOf K H (.bl x) (.type "bool")
  | int (i : Int) : TyOf K H (.int i) (.type "int")
  | str (x : Str) : TyOf K H (.str x) (.type "str")
  | flt (x : UInt64) : TyOf K H (.flt x) (.type "float")
  | lst {a : Addr} {xs : List V} (e : H a = some (.lst xs)) : TyOf K H (.ref a) (.type "list")
  | frz {a : Addr} {o : Obj} {xs : List V} (e : H a = some (.frz o (.lst xs))) : TyOf K H (.ref a) (.type "list")
  | tup {a : Addr} {xs : List V} (e : H a = some (.tup xs)) : TyOf K H (.ref a) (.type "tuple")
  | dK {a : Addr} {kvs : List (Key × V)} (e : H a = some (.dK kvs)) : TyOf K H (.ref a) (.type "dict")
  | dT {a : Addr} {kvs : List (List Key × V)} (e : H a = some (.dT kvs)) : TyOf K H (.ref a) (.type "dict")
  | ins {a C dx : Addr} {fs : List (Str × V)} (e : H a = some (.ins C dx fs)) (cl : Cls K C) (ha : PySem.W.findIn K (.ref C) "__class__" = some (some (.builtin "object.__class__")))
      (hn : PySem.W.specialIn K (.builtin "object.__class__") "__get__" = some (some (.builtin "getset_descriptor.__get__"))) (htk : PySem.W.takesIn K (.builtin "object.__class__") = some true)
      (hm : PySem.W.mroIn K C (.type "object") = some true) : TyOf K H (.ref a) (.ref C)
end
end L2
namespace L2
open PySem PySem.Spec PyProof.Rows
structure Room (k : Nat) (A : Around) : Prop where
  hd : A.handled = none
  dp : A.depth + 3 * k + 5 < recursionLimit
  un : A.units + 16 * k + 200 < cLine
theorem Room.mono {j k : Nat} {A : Around} (r : Room k A) (h : j ≤ k) : Room j A := ⟨r.hd, by have := r.dp; omega, by have := r.un; omega⟩
theorem Room.deeper {k : Nat} {A : Around} (r : Room (k + 1) A) (env : Env) : Room k (A.deeper env) :=
  ⟨r.hd, by have := r.dp; show A.depth + 1 + 3 * k + 5 < _; omega, by have := r.un; show A.units + 3 + 16 * k + 200 < _; omega⟩
theorem Room.depth {k : Nat} {A : Around} (r : Room k A) : A.depth < recursionLimit := by have := r.dp; omega
theorem Room.units {k : Nat} {A : Around} (r : Room k A) : A.units + 64 < cLine := by have := r.un; omega
def tNil : TA := fun _ H Q => Q [] H
def tCons (ta : TE) (tr : TA) : TA := fun σ H Q => ta σ H fun x H1 => tr σ H1 fun xs H2 => Q (x :: xs) H2
section
variable {X : Cx} {e : Expr} {es : List Expr} {te : TE} {t : TA} {pos : Pos}
theorem pa_nil : PA X [] tNil := fun _ _ _ _ H Q I h => Calls.spliced_nil ⟨[], H, I, .nil, h⟩
theorem pa_cons (ha : PE X e te) (hr : PA X es t) (hs : starEach (e :: es) X.env = (false, eval e X.env) :: starEach es X.env := by rfl) : PA X (e :: es) (tCons te t) := by
  intro pos pins s σ H Q I h
  rw [hs]
  show wpAny _ _ (spliced ((false, eval e X.env) :: backTo pos (starEach es X.env))) _ _ s
  refine Calls.spliced_cons (thn (ha pins s σ H _ I h) fun u s1 ⟨x, H1, I1, r1, q1⟩ => ?_)
  exact thn (hr pos pins s1 σ H1 _ I1 q1) fun us s2 ⟨xs, H2, I2, r2, q2⟩ => ⟨x :: xs, H2, I2, .cons r1 r2, q2⟩
def tTup (t : TA) : TE := fun σ H Q => t σ H fun xs H1 => xs.length ≤ sizeLine ∧ ∀ p, H1 p = none → Q (.ref p) (upd H1 p (.tup xs))
def tLst (t : TA) : TE := fun σ H Q => t σ H fun xs H1 => xs.length ≤ sizeLine ∧ ∀ p, H1 p = none → Q (.ref p) (upd H1 p (.lst xs))
theorem pe_tup {x1} (h : PA X es t) : PE X (.Tuple es x1 pos) (tTup t) := by
  intro pins s σ H Q I hq
  refine wpAny_Tuple_spliced (thn (h pos pins s σ H _ I hq) fun us s1 ⟨xs, H1, I1, r, z, q⟩ => ⟨by rw [← r.length]; exact z, ?_⟩)
  have hf : H1 s1.heap.objs.size = none := I1.hok.fresh (Nat.le_refl _)
  refine ⟨.ref s1.heap.objs.size, upd H1 s1.heap.objs.size (.tup xs), I1.laid (t' := s1.toks) (fun b u e => Heap.get?_push_of_some _ e) (Nat.le_refl _) ?_, rfl, q _ hf⟩
  exact ⟨z, us, r, ⟨_, Heap.get?_push_size _ rfl, rfl, _, rfl⟩⟩
theorem pe_lst (h : PA X es t) : PE X (.List es pos) (tLst t) := by
  intro pins s σ H Q I hq
  refine wpAny_List_spliced (thn (h pos pins s σ H _ I hq) fun us s1 ⟨xs, H1, I1, r, z, q⟩ => ⟨by rw [← r.length]; exact z, ?_⟩)
  have hf : H1 s1.heap.objs.size = none := I1.hok.fresh (Nat.le_refl _)
  refine ⟨.ref s1.heap.objs.size, upd H1 s1.heap.objs.size (.lst xs), I1.laid (t' := s1.toks) (fun b u e => Heap.get?_push_of_some _ e) (Nat.le_refl _) ?_, rfl, q _ hf⟩
  exact ⟨z, us, 0, r, Heap.get?_push_size _ rfl⟩
end
abbrev Sp := List V → Hp → VK → XK → Prop
abbrev CXT := List Env → Hp → Shared → XK → Value → Shared → Prop
structure Env0 (P : Program) (w : World) (K : PySem.W.Frag) (mg : Str → Option Value) (base : Heap) (A : Around) (outer : List Env) (s : Shared) (H : Hp) : Prop where
  frames : A.frames = some outer
  mod : Mod K mg base
  bs : ∀ b o, base.get? b = some o → s.heap.get? b = some o ∧ H b = none
  bsz : base.objs.size ≤ s.heap.objs.size
  funs : s.heap.FunFrames base outer
  frf : ∀ b ∈ frs outer, H b = none
  hok : HOk P w H s.heap
  bare : AllBare s.gens
def CE (outer : List Env) (P : Program) (w : World) (H : Hp) (s : Shared) (Q : VK) (u : Value) (s' : Shared) : Prop :=
  ∃ v H', s'.os = s.os ∧ AllBare s'.gens ∧ Un (frs outer) [] H H' s.heap s'.heap ∧ HOk P w H' s'.heap ∧ RelV v u ∧ Q v H'
def CR (CX : CXT) (outer : List Env) (P : Program) (w : World) (H : Hp) (s : Shared) (Q : VK) (E : XK) (r : Result) (s' : Shared) : Prop :=
  match r with
  | .ok (.ret u) => CE outer P w H s Q u s'
  | .ok _ => False
  | .error e => CX outer H s E e s'
structure FnOk (P : Program) (w : World) (K : PySem.W.Frag) (mg : Str → Option Value) (base : Heap) (CX : CXT) (k : Nat) (f : Addr) (fd : FuncData) (ps : List Str) (sp : Sp) : Prop where
  len : ∀ vs H Q E, sp vs H Q E → vs.length = ps.length
  run : ∀ (A : Around) (outer : List Env) (s : Shared) (H : Hp) (args : Args) (us : List Value) (vs : List V) (Q : VK) (E : XK), Room k A → Env0 P w K mg base A outer s H → BindsTo s fd args (ps.zip us) → Vals vs us → sp vs H Q E →
    codeAny (model P w) A (.call (.ref f) args) (CR CX outer P w H s Q E) s
section
variable {X : Cx} {pins : List (Addr × Obj)} {σ : St} {H : Hp} {s s' : Shared}
theorem Inv.env0 (I : Inv X pins σ H s) : Env0 X.prog X.w X.K X.mg X.base X.A X.stack s H :=
  ⟨I.ok.frames, I.ok.mod, I.bs, Nat.le_trans I.ok.bsz I.sz, I.stack, I.stkFree, I.hok, I.bare⟩
theorem Inv.after {Q : VK} {u : Value} (I : Inv X pins σ H s) (h : CE X.stack X.prog X.w H s Q u s') : EP X pins σ Q u s' := by
  obtain ⟨v, H', os, bare, un, hok, r, q⟩ := h
  obtain ⟨hh, g, d, t, os'⟩ := s'
  obtain rfl : os' = s.os := os
  exact ⟨v, H', I.call (h' := hh) (g' := g) (d' := d) (t' := t) (ch := []) un hok bare (fun b z => absurd z (by simp)), r, q⟩
end
def tCall (sp : Sp) (dvs : List V) (E : XK) (t : TA) : TE := fun σ H Q => t σ H fun vs H1 => sp (vs ++ dvs) H1 Q E
def Binds (K : PySem.W.Frag) (fd : FuncData) (ps : List Str) (ds : List Value) : Prop :=
  ∀ (s : Shared) (us : List Value), K.In s.heap → (us ++ ds).length = ps.length → BindsTo s fd ⟨us, []⟩ (ps.zip (us ++ ds))
theorem Binds.all {K : PySem.W.Frag} {fd : FuncData} {ps : List Str} (h : ∀ us : List Value, us.length = ps.length → bindArgs fd ⟨us, []⟩ = pure (ps.zip us)) : Binds K fd ps [] := fun s us _ hl => by
  rw [List.append_nil] at hl ⊢
  exact .of_eq (h us hl)
def Passes (CX : CXT) (X : Cx) (E : XK) : Prop := ∀ (pins : List (Addr × Obj)) (σ : St) (H : Hp) (s : Shared) (e : Value) (s' : Shared), Inv X pins σ H s → CX X.stack H s E e s' → X.xe e s'
section
variable {X : Cx} {CX : CXT} {k : Nat} {f C : Addr} {fd : FuncData} {ps : List Str} {sp : Sp} {dvs : List V} {ds : List Value} {E : XK} {x m : Str} {p pos apos : Pos} {e o : Expr} {es : List Expr} {ta : TE} {t : TA}
theorem run_fn {pins : List (Addr × Obj)} {σ : St} {H : Hp} {s : Shared} {Q : VK} {us : List Value} {vs : List V} (F : FnOk X.prog X.w X.K X.mg X.base CX k f fd ps sp) (hr : Room k X.A) (hb : Binds X.K fd ps ds) (hd : Vals dvs ds) (hx : Passes CX X E)
    (I : Inv X pins σ H s) (r : Vals vs us) (h : sp (vs ++ dvs) H Q E) : wpAny (model X.prog X.w) X.A (call (.ref f) us) (EP X pins σ Q) X.xe s := by
  have r2 : Vals (vs ++ dvs) (us ++ ds) := r.append hd
  have hl : (us ++ ds).length = ps.length := by rw [← r2.length]; exact F.len _ _ _ _ h
  refine wpAny_call (codeAny_mono (F.run X.A X.stack s H ⟨us, []⟩ (us ++ ds) (vs ++ dvs) Q E hr I.env0 (hb s us I.kIn hl) r2 h) fun r s' hq => ?_)
  cases r with
  | error e => exact hx pins σ H s e s' I hq
  | ok fl =>
    cases fl with
    | ret u => exact I.after hq
    | next => exact False.elim hq
    | brk => exact False.elim hq
    | cont => exact False.elim hq
theorem pe_call (F : FnOk X.prog X.w X.K X.mg X.base CX k f fd ps sp) (hr : Room k X.A) (hg : Gl X x) (hm : X.mg x = some (.ref f)) (hk : PySem.W.keepIn X.K (.ref f) = true) (hb : Binds X.K fd ps ds) (hd : Vals dvs ds) (hx : Passes CX X E)
    (ha : PA X (e :: es) t) (hdb : (x == ("__debug__" : Str)) = false := by decide) (he : starEach (e :: es) X.env = (false, eval e X.env) :: starEach es X.env := by rfl) (hpl : (backTo pos (starEach es X.env)).any (·.1) = false := by rfl) :
    PE X (.Call (.Name x p) (e :: es) [] pos) (tCall sp dvs E t) := by
  intro pins s σ H Q I h
  refine wpAny_Call_Name_kw (ld_glob I hg hm ?_ hdb)
  refine PySem.W.callWith_K (h₀ := X.base) I.ok.mod.kin hk (thn (ha pos pins s σ H _ I h) fun us s1 ⟨vs, H1, I1, r, q⟩ => ⟨I1.kIn, ?_⟩) he hpl
  exact run_fn F hr hb hd hx I1 r q
structure Mk (K : PySem.W.Frag) (C f : Addr) : Prop where
  makes : PySem.W.makesIn K C = true
  init : PySem.W.findIn K (.ref C) "__init__" = some (some (.ref f))
  fn : PySem.W.isFn K (.ref f) = true
  kp : PySem.W.keepIn K (.ref C) = true
end
section
variable {X : Cx} {CX : CXT} {k : Nat} {f C : Addr} {fd : FuncData} {ps ks : List Str} {sp : Sp} {E : XK} {x m : Str} {p pos apos kpos : Pos} {e o : Expr} {es : List Expr} {kws : List Keyword} {te ta : TE} {t tk : TA} {nm : Option Str}
structure KBinds (K : PySem.W.Frag) (fd : FuncData) (ps ks : List Str) (g : List Value → List Value → List Value) (gV : List V → List V → List V) : Prop where
  to : ∀ (s : Shared) (us ws : List Value), K.In s.heap → (g us ws).length = ps.length → BindsTo s fd ⟨us, ks.zip ws⟩ (ps.zip (g us ws))
  rel : ∀ {vs : List V} {us : List Value} {zs : List V} {ws : List Value}, Vals vs us → Vals zs ws → Vals (gV vs zs) (g us ws)
variable {g : List Value → List Value → List Value} {gV : List V → List V → List V}
end
structure FnScope (N P : List Str) (sc : Scope) : Prop where
  kind : sc.kind = .function
  co : sc.isCoroutine = false
  gen : sc.isGenerator = false
  nd : N.Nodup
  pre : N.take P.length = P
  par : ∀ x ∈ P, sc.names.lookup x = some .local ∨ sc.names.lookup x = some .cell
  nofree : ∀ y ∈ sc.names, y.2 ≠ .free
theorem bindL_out {kindOf : Str → Option NameKind} {x : Str} : ∀ {binds : List (Str × Value)} {m : Str → Option Value}, (∀ v, (x, v) ∉ binds) → bindL kindOf binds m x = m x
  | [], _, _ => rfl
  | (n, v) :: r, m, h => by
    unfold bindL
    rw [bindL_out fun w hw => h w (List.mem_cons_of_mem _ hw)]
    split
    · have : x ≠ n := by rintro rfl; exact h v List.mem_cons_self
      simp [this]
    · rfl
theorem bindC_out {kindOf : Str → Option NameKind} {x : Str} : ∀ {binds : List (Str × Value)} {m : Str → Option Value}, (∀ v, (x, v) ∉ binds) → bindC kindOf binds m x = m x
  | [], _, _ => rfl
  | (n, v) :: r, m, h => by
    unfold bindC
    rw [bindC_out fun w hw => h w (List.mem_cons_of_mem _ hw)]
    split
    · rfl
    · have : x ≠ n := by rintro rfl; exact h v List.mem_cons_self
      simp [this]
theorem bindL_get {kindOf : Str → Option NameKind} {x : Str} {v : Value} : ∀ {P : List Str} {vs : List Value} {i : Nat} {m : Str → Option Value}, P.Nodup → P[i]? = some x → vs[i]? = some v → kindOf x = some .local →
    bindL kindOf (P.zip vs) m x = some v
  | [], _, _, _, _, h, _, _ => by simp at h
  | _ :: _, [], _, _, _, _, h, _ => by simp at h
  | p :: P, w :: vs, 0, m, nd, h1, h2, hk => by
    simp at h1 h2; subst h1; subst h2
    show bindL kindOf ((p, w) :: P.zip vs) m p = _
    unfold bindL
    rw [bindL_out fun v hv => (List.nodup_cons.mp nd).1 (List.of_mem_zip hv).1, if_pos hk]
    simp
  | p :: P, w :: vs, i + 1, m, nd, h1, h2, hk => by
    show bindL kindOf ((p, w) :: P.zip vs) m x = _
    unfold bindL
    exact bindL_get (i := i) (List.nodup_cons.mp nd).2 (by simpa using h1) (by simpa using h2) hk
theorem bindC_get {kindOf : Str → Option NameKind} {x : Str} {v : Value} : ∀ {P : List Str} {vs : List Value} {i : Nat} {m : Str → Option Value}, P.Nodup → P[i]? = some x → vs[i]? = some v → kindOf x ≠ some .local →
    bindC kindOf (P.zip vs) m x = some v
  | [], _, _, _, _, h, _, _ => by simp at h
  | _ :: _, [], _, _, _, _, h, _ => by simp at h
  | p :: P, w :: vs, 0, m, nd, h1, h2, hk => by
    simp at h1 h2; subst h1; subst h2
    show bindC kindOf ((p, w) :: P.zip vs) m p = _
    unfold bindC
    rw [bindC_out fun v hv => (List.nodup_cons.mp nd).1 (List.of_mem_zip hv).1, if_neg hk]
    simp
  | p :: P, w :: vs, i + 1, m, nd, h1, h2, hk => by
    show bindC kindOf ((p, w) :: P.zip vs) m x = _
    unfold bindC
    exact bindC_get (i := i) (List.nodup_cons.mp nd).2 (by simpa using h1) (by simpa using h2) hk
def start (N : List Str) (vs : List V) : St := vs.map some ++ List.replicate (N.length - vs.length) none
def cxOf (CX : CXT) (P : Program) (w : World) (K : PySem.W.Frag) (mg : Str → Option Value) (base : Heap) (N : List Str) (qual : Str) (scope : Scope) (f : Addr) (cd : Value) (A : Around) (outer : List Env) (s : Shared) (H : Hp) (E : XK) : Cx where
  prog := P
  w := w
  K := K
  mg := mg
  base := base
  A := A.deeper (envOfC qual scope s.heap.objs.size f cd)
  N := N
  s₀ := s
  H₀ := H
  env := envOfC qual scope s.heap.objs.size f cd
  outer := outer
  stack := envOfC qual scope s.heap.objs.size f cd :: outer
  ex := []
  calm := true
  fn := fun _ => true
  pn := []
  xe := fun e s' => wpAny (model P w) (A.deeper (envOfC qual scope s.heap.objs.size f cd)) (leaving (envOfC qual scope s.heap.objs.size f cd) e) (fun _ s'' => CX outer H s E e s'') (fun e' s'' => CX outer H s E e' s'') s'
theorem cell_has {sc : Scope} {n : Nat} {x : Str} (h : sc.names.lookup x = some .cell) : ∃ c, (cellsFrom n sc.names []).lookup x = some c := by
  have q := PySem.W.cellsFrom_some sc.names n [] (.inl h)
  exact Option.isSome_iff_exists.mp q
theorem inv_start {CX : CXT} {P : Program} {w : World} {K : PySem.W.Frag} {mg : Str → Option Value} {base : Heap} {N ps : List Str} {qual : Str} {scope : Scope} {f : Addr} {cd : Value} {A : Around} {outer : List Env} {s s1 : Shared} {H : Hp} {E : XK} {us : List Value} {vs : List V}
    (S : FnScope N ps scope) (hd : A.handled = none) (e0 : Env0 P w K mg base A outer s H) (hl : vs.length = ps.length) (r : Vals vs us)
    (x : InCallC s s.heap.objs.size (bindL (envOfC qual scope s.heap.objs.size f cd).kindOf (ps.zip us) fun _ => none) (cellsFrom (s.heap.objs.size + 1) scope.names []) (bindC (envOfC qual scope s.heap.objs.size f cd).kindOf (ps.zip us) fun _ => none) s1) :
    Inv (cxOf CX P w K mg base N qual scope f cd A outer s H E) [] (start N vs) H s1 := by
  have hpl : ps.length ≤ N.length := by have := congrArg List.length S.pre; rw [List.length_take] at this; omega
  obtain ⟨h1, tk, rfl, hk⟩ := x.done
  have noA : ∀ b : Addr, b ∉ (cxOf CX P w K mg base N qual scope f cd A outer s H E).ex := fun b z => absurd (show b ∈ ([] : List Addr) from z) (by simp)
  refine ⟨⟨e0.mod, S.kind, rfl, rfl, Nat.le_refl _, fun y z c h1 h2 => ?_, fun y hy => ?_, fun y c _ h => ?_, fun _ => hd, Around.frames_deeper e0.frames, .inr ⟨rfl, rfl⟩, fun b z => absurd z (noA b), e0.bs, e0.bsz, fun b _ _ => noA b, fun b z => absurd z (noA b), e0.funs, e0.frf⟩,
    rfl, e0.bare, Un.kept hk, ⟨_, x.toInCall.ns, fun i y v h1 h2 h3 => ?_⟩, fun y c h => ⟨_, x.cell y c h⟩, e0.hok.fresh (Nat.le_refl _), fun y c h => ?_, fun p hp => absurd (show p ∈ ([] : List (Addr × Obj)) from hp) (by simp), e0.hok.kept hk, ?_⟩
  · exact name_of_addr x.apart (PySem.mem_of_lookup h1) (PySem.mem_of_lookup h2)
  · have hy : scope.names.lookup y = some .cell ∨ scope.names.lookup y = some .free := hy
    rcases hy with hy | hy
    · exact cell_has hy
    · exact absurd rfl (S.nofree _ (PySem.mem_of_lookup hy))
  · exact Nat.le_of_lt (x.above y c (PySem.mem_of_lookup h))
  · have hi : i < vs.length := by
      unfold start at h2
      by_cases hi : i < vs.length
      · exact hi
      · rw [List.getElem?_append_right (by simpa using hi)] at h2
        rw [List.getElem?_replicate] at h2
        split at h2 <;> cases h2
    have ha : vs[i]? = some v := by
      unfold start at h2
      rw [List.getElem?_append_left (by simpa using hi), List.getElem?_map] at h2
      cases e : vs[i]? with
      | none => rw [e] at h2; cases h2
      | some a => rw [e] at h2; cases h2; rfl
    obtain ⟨u, hu, rv⟩ := r.get ha
    have hp : ps[i]? = some y := by
      rw [← S.pre, List.getElem?_take_of_lt (by omega)]; exact h1
    have ndP : ps.Nodup := by rw [← S.pre]; exact S.nd.sublist (List.take_sublist _ _)
    refine ⟨u, rv, ?_⟩
    rcases S.par y (List.mem_of_getElem? hp) with k | k
    · exact .inl ⟨k, bindL_get ndP hp hu k⟩
    · obtain ⟨c, e⟩ := cell_has (n := s.heap.objs.size + 1) k
      refine .inr ⟨.inl k, c, e, ?_⟩
      have q := x.cell y c e
      rw [bindC_get ndP hp hu (by show scope.names.lookup y ≠ _; rw [k]; decide)] at q
      exact q
  · exact e0.hok.fresh (Nat.le_of_lt (x.above y c (PySem.mem_of_lookup h)))
  · unfold start
    show _ = N.length
    rw [List.length_append, List.length_map, List.length_replicate]
    omega
theorem fn_of {CX : CXT} {P : Program} {w : World} {K : PySem.W.Frag} {mg : Str → Option Value} {base : Heap} {k : Nat} {f : Addr} {name qual : Str} {params : Arguments} {body : List Stmt} {scope : Scope} {dV kV doc pm cdv ct oc : Value} {an od : Option Addr}
    {osl : Array (Option Value)} {N ps : List Str} {sp : Sp} (lk : K.lookup f = some ⟨oc, od, .func (PySem.W.fnOf name qual params body scope dV kV doc pm an cdv ct), osl⟩) (hcd : PySem.W.codeIn K cdv qual = true) (S : FnScope N ps scope)
    (len : ∀ vs H Q E, sp vs H Q E → vs.length = ps.length)
    (hbody : ∀ (A : Around) (outer : List Env) (s : Shared) (H : Hp) (vs : List V) (Q : VK) (E : XK), Room k (A.deeper (envOfC qual scope s.heap.objs.size f cdv)) → sp vs H Q E →
      ∃ t, PSs (cxOf CX P w K mg base N qual scope f cdv A outer s H E) body t ∧ t { nx := fun _ H' => Q .non H', rt := Q } (start N vs) H) :
    FnOk P w K mg base CX (k + 1) f (PySem.W.fnOf name qual params body scope dV kV doc pm an cdv ct) ps sp := by
  refine ⟨len, fun A outer s H args us vs Q E hr e0 hb r hsp => ?_⟩
  have hl := len _ _ _ _ hsp
  have KX : K.In s.heap := e0.mod.kin.keeps fun b o e => (e0.bs b o e).1
  have lim : s.heap.NoLimit := e0.mod.nolimit.keeps fun b o e => (e0.bs b o e).1
  have hkind : ∀ y ∈ ps.zip us, scope.names.lookup y.1 = some .local ∨ (scope.names.lookup y.1 = some .cell ∧ ((cellsFrom (s.heap.objs.size + 1) scope.names []).lookup y.1).isSome = true) := fun ⟨n, v⟩ hy => by
    rcases S.par n (List.of_mem_zip hy).1 with q | q
    · exact .inl q
    · exact .inr ⟨q, PySem.W.cellsFrom_some _ _ _ (.inl q)⟩
  refine codeAny_call_function hr.depth (KX _ _ lk) rfl S.co S.gen rfl (PySem.W.codeRec_of KX hcd) (hb _ _ _ _ ?_)
  refine wpAny_newFunctionEnv_cells S.kind hkind fun env he s1 x => ?_
  subst he
  refine ⟨lim.keeps x.toInCall.keep, codeAny_func ?_⟩
  obtain ⟨t, ht, hq⟩ := hbody A outer s H vs Q E (hr.deeper _) hsp
  have I : Inv (cxOf CX P w K mg base N qual scope f cdv A outer s H E) [] (start N vs) H s1 := inv_start S hr.hd e0 hl r x
  refine wpAny_mono (ht [] s1 (start N vs) H _ I hq) (fun fl s' hs => ?_) fun e s' hs => hs
  have fin : ∀ {σ' : St} {H' : Hp} {v : V} {u : Value}, Inv (cxOf CX P w K mg base N qual scope f cdv A outer s H E) [] σ' H' s' → RelV v u → Q v H' → CE outer P w H s Q u s' :=
    fun {σ' H' v u} J rv q => ⟨v, H', J.os, J.bare, J.base, J.hok, rv, q⟩
  cases fl with
  | ret u =>
    obtain ⟨v, σ', H', J, rv, q⟩ := hs
    exact fin J rv q
  | next =>
    obtain ⟨σ', H', J, q⟩ := hs
    exact fin (v := V.non) (u := Value.none) J rfl q
  | brk =>
    obtain ⟨_, _, _, q⟩ := hs
    exact False.elim q
  | cont =>
    obtain ⟨_, _, _, q⟩ := hs
    exact False.elim q
end L2
namespace L2
open PySem PySem.Spec PyProof.Rows
section
variable {X : Cx} {x : Str} {p pos : Pos} {e : Expr} {es : List Expr} {t : TA} {id T : String} {r : List V → Hp → VK → Prop}
def tCB (r : List V → Hp → VK → Prop) (t : TA) : TE := fun σ H Q => t σ H fun vs H1 => r vs H1 Q
theorem pe_callB (hc : CallR X (.builtin id) r) (hg : Gl X x) (hm : X.mg x = none) (hv : bootBuiltins x = some (.builtin id)) (ha : PA X (e :: es) t) (hn : x ≠ "__name__" := by decide) (hdb : (x == ("__debug__" : Str)) = false := by decide)
    (he : starEach (e :: es) X.env = (false, eval e X.env) :: starEach es X.env := by rfl) (hpl : (backTo pos (starEach es X.env)).any (·.1) = false := by rfl) : PE X (.Call (.Name x p) (e :: es) [] pos) (tCB r t) := by
  intro pins s σ H Q I h
  refine wpAny_Call_Name_kw (ld_blt I hg hm hv ?_ hn hdb)
  exact PyProof.Rows.callWith_builtin1 (thn (ha pos pins s σ H _ I h) fun us s1 ⟨vs, H1, I1, r1, q1⟩ => hc pins s1 σ H1 vs us Q I1 r1 q1) he hpl
theorem pe_callTy (hc : CallR X (.type T) r) (hg : Gl X x) (hm : X.mg x = none) (hv : bootBuiltins x = some (.type T)) (ha : PA X (e :: es) t) (hn : x ≠ "__name__" := by decide) (hdb : (x == ("__debug__" : Str)) = false := by decide)
    (he : starEach (e :: es) X.env = (false, eval e X.env) :: starEach es X.env := by rfl) (hpl : (backTo pos (starEach es X.env)).any (·.1) = false := by rfl) : PE X (.Call (.Name x p) (e :: es) [] pos) (tCB r t) := by
  intro pins s σ H Q I h
  refine wpAny_Call_Name_kw (ld_blt I hg hm hv ?_ hn hdb)
  exact PyProof.Rows.callWith_type1 (thn (ha pos pins s σ H _ I h) fun us s1 ⟨vs, H1, I1, r1, q1⟩ => hc pins s1 σ H1 vs us Q I1 r1 q1) he hpl
end
end L2
namespace HT
open PySem PyProof.Rows
def lexLt : List Int → List Int → Bool
  | [], [] => false
  | [], _ :: _ => true
  | _ :: _, [] => false
  | x :: xs, y :: ys => if x = y then lexLt xs ys else decide (x < y)
section
open PySem.SeqAt
open PySem.AutoSeq1 (wpAny_loadPart')
open PySem.MeetsSeq PySem.MeetsSeq2 PySem.MeetsSeq3
end
section
variable {prog : Program} {w : World} {A : Around} {E : Value → Shared → Prop} {s : Shared}
theorem cat_tup {t b : Addr} {vs ws : List Value} {Q : Value → Shared → Prop} (ht : IsTup s.heap t vs.toArray) (hb : IsTup s.heap b ws.toArray) (hv : vs ≠ [])
    (h1 : ws = [] → Q (.ref t) s) (h2 : ws ≠ [] → Q (.ref s.heap.objs.size) { s with heap := s.heap.push { cls := .type "tuple", data := .seq (vs ++ ws).toArray } })
    (hsz : vs.length + ws.length ≤ sizeLine) : wpAny (model prog w) A (binaryOp .Add (.ref t) (.ref b)) Q E s := by
  obtain ⟨⟨cls, dd, data, sl⟩, ho, hc, n, hd⟩ := id ht
  obtain ⟨⟨cls2, dd2, data2, sl2⟩, ho2, hc2, n2, hd2⟩ := id hb
  simp only at hc hd hc2 hd2
  subst hc hd hc2 hd2
  have e : vs.toArray ++ ws.toArray = (vs ++ ws).toArray := by simp
  by_cases hw : ws = []
  · exact concat_meets ⟨_, ho, rfl⟩ ⟨_, ho2, rfl⟩ noFill_tuple_add seq_tuple_add PySem.F.slot_tuple_add PySem.F.entry_tuple_add (PySem.F.args_tuple_add_2 _ _)
      (tuple_addW1 t b vs.toArray ws.toArray n n2 dd dd2 sl sl2 (by simpa using hv) (by simp [hw])) ⟨ho, ho2, h1 hw⟩
  · refine concat_meets ⟨_, ho, rfl⟩ ⟨_, ho2, rfl⟩ noFill_tuple_add seq_tuple_add PySem.F.slot_tuple_add PySem.F.entry_tuple_add (PySem.F.args_tuple_add_2 _ _)
      (tuple_addW2 t b vs.toArray ws.toArray n n2 dd dd2 sl sl2 (by simpa using hv) (by simpa using hw) (by rw [List.size_toArray, List.size_toArray]; exact hsz)) ⟨ho, ho2, ?_⟩
    rw [e]
    exact h2 hw
def sIx (n d : Nat) : Option Int → Nat
  | none => d
  | some v => if v < 0 then (v + (n : Int)).toNat else min v.toNat n
theorem sIx_none (n d : Nat) : sIx n d none = d := rfl
theorem sIx_nat (n d k : Nat) : sIx n d (some (k : Int)) = min k n := by
  show (if (k : Int) < 0 then ((k : Int) + (n : Int)).toNat else min (k : Int).toNat n) = min k n
  rw [if_neg (by omega), Int.toNat_natCast]
theorem sIx_le (n d : Nat) (hd : d ≤ n) (o : Option Int) : sIx n d o ≤ n := by
  cases o with
  | none => exact hd
  | some v =>
    show (if v < 0 then (v + (n : Int)).toNat else min v.toNat n) ≤ n
    by_cases hv : v < 0
    · rw [if_pos hv]; omega
    · rw [if_neg hv]; exact Nat.min_le_right _ _
theorem clip_eq (v : Int) (n d : Nat) : (if v < 0 then max (v + (n : Int)) 0 else min v (n : Int)) = ((sIx n d (some v) : Nat) : Int) := by
  show (if v < 0 then max (v + (n : Int)) 0 else min v (n : Int)) = (((if v < 0 then (v + (n : Int)).toNat else min v.toNat n) : Nat) : Int)
  by_cases hv : v < 0
  · simp only [if_pos hv]; omega
  · simp only [if_neg hv]; omega
theorem adjust_gen (lo hi : Option Int) (n : Nat) : Builtin.Slice.sliceAdjust lo hi 1 (n : Int) = (((sIx n 0 lo : Nat) : Int), ((sIx n n hi : Nat) : Int)) := by
  have h1 : ¬ ((1 : Int) < 0) := by omega
  unfold Builtin.Slice.sliceAdjust
  simp only [h1, if_false]
  refine Prod.ext ?_ ?_
  · cases lo with
    | none => rfl
    | some v => exact clip_eq v n 0
  · cases hi with
    | none => rfl
    | some v => exact clip_eq v n n
theorem places_gen (i j : Nat) : Builtin.Slice.slicePlaces (i : Int) (j : Int) 1 = j - i := by
  unfold Builtin.Slice.slicePlaces
  have h1 : (1 : Int) > 0 := by omega
  simp only [h1, if_true, Int.ediv_one]
  split <;> omega
theorem slicePart_ {v : Value} {o : Option Int} {Q : Option Int → Shared → Prop} (p : IsPart v o) (h : Q o s) : wpAny (model prog w) A (Builtin.Slice.slicePartIndex v) Q E s := by
  cases p with
  | none => exact slicePart_none h
  | int i t => exact slicePart_int h
theorem sliceApplied_gen {sl : Addr} {vl vu : Value} {lo hi : Option Int} {n : Nat} {Q : Int × Int × Nat → Shared → Prop} (hs : s.heap.IsSliceOf sl vl vu .none) (pl : IsPart vl lo) (pu : IsPart vu hi)
    (h : Q (((sIx n 0 lo : Nat) : Int), 1, sIx n n hi - sIx n 0 lo) s) : wpAny (model prog w) A (Builtin.Slice.sliceApplied (.ref sl) (pure (n : Int))) Q E s := by
  obtain ⟨os, hos, hcs, hds⟩ := id hs
  unfold Builtin.Slice.sliceApplied Builtin.Slice.sliceFields
  refine wpAny_bind (wpAny_bind (wpAny_field hos hds (x := vl) rfl (wpAny_bind (wpAny_field hos hds (x := vu) rfl (wpAny_bind (wpAny_field hos hds (x := .none) rfl (wpAny_pure ?_)))))))
  refine wpAny_bind (slicePart_none ?_)
  show wpAny _ _ (if ((1 : Int) == 0) = true then _ else _) _ _ s
  rw [if_neg (by decide)]
  refine wpAny_bind (slicePart_ pl (wpAny_bind (slicePart_ pu (wpAny_bind (wpAny_pure ?_)))))
  show wpAny _ _ (match Builtin.Slice.sliceAdjust lo hi 1 (n : Int) with | (lo, hi) => pure (lo, (1 : Int), Builtin.Slice.slicePlaces lo hi 1)) _ _ s
  rw [adjust_gen lo hi n]
  show wpAny _ _ (pure (((sIx n 0 lo : Nat) : Int), (1 : Int), Builtin.Slice.slicePlaces ((sIx n 0 lo : Nat) : Int) ((sIx n n hi : Nat) : Int) 1)) _ _ s
  rw [places_gen]
  exact wpAny_pure h
theorem pick_gen (xs : Array Value) (i k : Nat) : ((List.range k).filterMap fun (m : Nat) => xs[((i : Int) + (m : Int) * 1).toNat]?).toArray = ((xs.toList.drop i).take k).toArray := by
  have e : (fun (m : Nat) => xs[((i : Int) + (m : Int) * 1).toNat]?) = fun m => xs[i + m]? := by
    funext m
    have : ((i : Int) + (m : Int) * 1).toNat = i + m := by omega
    rw [this]
  rw [e]
  have := pick_run xs i k
  rw [List.filterMap_map] at this
  have e2 : ((fun x => xs[x]?) ∘ fun x => i + x) = fun m => xs[i + m]? := rfl
  rw [e2] at this
  rw [this]
theorem getItem_tuple_cut {t sl : Addr} {items : Array Value} {vl vu : Value} {lo hi : Option Int} {Q : Value → Shared → Prop} (ht : IsTup s.heap t items) (hs : s.heap.IsSliceOf sl vl vu .none) (pl : IsPart vl lo) (pu : IsPart vu hi)
    (hw : ¬ (sIx items.size 0 lo = 0 ∧ sIx items.size items.size hi = items.size))
    (h : Q (.ref s.heap.objs.size) { s with heap := s.heap.push { cls := .type "tuple", data := .seq ((items.toList.drop (sIx items.size 0 lo)).take (sIx items.size items.size hi - sIx items.size 0 lo)).toArray } })
    (hsz : items.size ≤ sizeLine) : wpAny (model prog w) A (getItem (.ref t) (.ref sl)) Q E s := by
  have htake : sizeOk (.seq ((items.toList.drop (sIx items.size 0 lo)).take (sIx items.size items.size hi - sIx items.size 0 lo)).toArray) := by
    show ((items.toList.drop (sIx items.size 0 lo)).take (sIx items.size items.size hi - sIx items.size 0 lo)).toArray.size ≤ sizeLine
    rw [List.size_toArray, List.length_take, List.length_drop, Array.length_toList]
    omega
  have hj : sIx items.size items.size hi ≤ items.size := sIx_le _ _ (Nat.le_refl _) hi
  obtain ⟨os, hos, hcs, hds⟩ := id hs
  have hTs : s.TypeIs (.ref sl) "slice" := ⟨os, hos, hcs⟩
  unfold getItem
  try with_reducible refine wpAny_holding ?_
  first | refine wpAny_bind (wpAny_pure ?_) | skip
  refine wpAny_bind (wpAny_sequenceKey ht.typeIs (by decide) ?_)
  refine wpAny_bind (wpAny_callSpecial?_slot (name := Str.ofString "__getitem__") ht.typeIs PyProof.Rows.slot_tuple_getitem
    (wpAny_call_entry PyProof.Rows.slot_tuple_getitem ht.typeIs entry_tuple_getitem ?_ (args_tuple_getitem _ _)))
  show wpAny _ _ (Builtin.Tuple.tupleItemsOf (.ref t) >>= _) _ _ s
  refine wpAny_bind (tupleItemsOf_ ht ?_)
  refine wpAny_bind (wpAny_typeOf hTs ?_)
  rw [if_pos (by decide)]
  refine wpAny_bind (sliceApplied_gen hs pl pu ?_)
  have hno : ¬ ((((sIx items.size 0 lo : Nat) : Int) == 0 && (1 : Int) == 1 && (sIx items.size items.size hi - sIx items.size 0 lo) == items.size) = true) := by
    intro q
    rw [Bool.and_eq_true, Bool.and_eq_true] at q
    have q1 : ((sIx items.size 0 lo : Nat) : Int) = 0 := eq_of_beq q.1.1
    have q2 : sIx items.size items.size hi - sIx items.size 0 lo = items.size := eq_of_beq q.2
    exact hw ⟨by omega, by omega⟩
  show wpAny _ _ (if (((sIx items.size 0 lo : Nat) : Int) == 0 && (1 : Int) == 1 && (sIx items.size items.size hi - sIx items.size 0 lo) == items.size) = true then _ else _) _ _ s
  rw [if_neg hno, pick_gen]
  first
    | exact wpAny_bind (m := Builtin.Tuple.tupleExact _) (wpAny_newObj_type (wpAny_pure ⟨_, rfl, wpAny_pure h⟩) htake)
    | exact wpAny_bind (m := Builtin.Tuple.tupleExact _) (wpAny_newObj_type (wpAny_bind (wpAny_pure (wpAny_pure ⟨_, rfl, wpAny_pure h⟩))) htake)
    | exact wpAny_bind (wpAny_bind (m := Builtin.Tuple.tupleExact _) (wpAny_newObj_type (wpAny_pure (wpAny_pure ⟨_, rfl, wpAny_pure h⟩)) htake))
    | exact wpAny_bind (wpAny_bind (m := Builtin.Tuple.tupleExact _) (wpAny_newObj_type (wpAny_pure ⟨_, rfl, wpAny_pure h⟩) htake))
end
end HT
namespace L2
open PySem PySem.Spec PyProof.Rows
abbrev TO := St → Hp → (Option Int → Hp → Prop) → Prop
def PO (X : Cx) (e : Option Expr) (t : TO) : Prop :=
  ∀ (pins : List (Addr × Obj)) (s : Shared) (σ : St) (H : Hp) (Q : Option Int → Hp → Prop), Inv X pins σ H s → t σ H Q →
    wpAny (model X.prog X.w) X.A (evalPart e X.env) (fun u s' => ∃ o H', Inv X pins σ H' s' ∧ IsPart u o ∧ Q o H') X.xe s
def tNoPart : TO := fun _ H Q => Q none H
def tPart (t : TE) : TO := fun σ H Q => t σ H fun x H1 => ∃ i, x = .int i ∧ Q (some i) H1
section
variable {X : Cx} {e : Expr} {te : TE} {lo hi : Option Expr} {tl th : TO} {pos p2 : Pos}
theorem po_none : PO X none tNoPart := by
  intro pins s σ H Q I h
  rw [evalPart_none]
  exact wpAny_pure ⟨none, H, I, .none, h⟩
theorem po_some (h : PE X e te) : PO X (some e) (tPart te) := by
  intro pins s σ H Q I hw
  rw [evalPart_some]
  refine thn (h pins s σ H _ I hw) fun u s1 ⟨x, H1, I1, r1, q1⟩ => ?_
  obtain ⟨i, rfl, q⟩ := q1
  obtain ⟨t, rfl⟩ := r1
  exact ⟨some i, H1, I1, .int i t, q⟩
def SlR (X : Cx) (r : V → Option Int → Option Int → Hp → VK → Prop) : Prop :=
  ∀ (pins : List (Addr × Obj)) (s : Shared) (σ : St) (H : Hp) (x : V) (v vl vu : Value) (lo hi : Option Int) (sl : Addr) (Q : VK), Inv X pins σ H s → RelV x v → s.heap.IsSliceOf sl vl vu .none → IsPart vl lo → IsPart vu hi → r x lo hi H Q →
    ∃ T id, typeLookup (.type T) "__getitem__" = pure (some (.builtin id)) ∧ s.TypeIs v T ∧ wpAny (model X.prog X.w) X.A (getItem v (.ref sl)) (EP X pins σ Q) X.xe s
def tSl (r : V → Option Int → Option Int → Hp → VK → Prop) (te : TE) (tl th : TO) : TE := fun σ H Q => te σ H fun x H1 => tl σ H1 fun l H2 => th σ H2 fun u H3 => r x l u H3 Q
theorem pe_slice {r : V → Option Int → Option Int → Hp → VK → Prop} (hr : SlR X r) (he : PE X e te) (hl : PO X lo tl) (hu : PO X hi th) : PE X (.Subscript e (.Slice lo hi none p2) pos) (tSl r te tl th) := by
  intro pins s σ H Q I h
  refine Subscript_ (thn (he pins s σ H _ I h) fun v s1 ⟨x, H1, I1, r1, q1⟩ => ?_)
  refine wpAny_Slice (thn (hl pins s1 σ H1 _ I1 q1) fun vl s2 ⟨l, H2, I2, pl, q2⟩ => thn (hu pins s2 σ H2 _ I2 q2) fun vu s3 ⟨u, H3, I3, pu, q3⟩ => ?_)
  rw [evalPart_none]
  refine wpAny_pure ?_
  have I4 : Inv X pins σ H3 { s3 with heap := s3.heap.push { cls := .type "slice", data := .fields #[vl, vu, .none] } } := I3.kept (t' := s3.toks) fun b ob q => Heap.get?_push_of_some _ q
  obtain ⟨T, id, hT, ht, hg⟩ := hr pins { s3 with heap := s3.heap.push { cls := .type "slice", data := .fields #[vl, vu, .none] } } σ H3 x v vl vu l u s3.heap.objs.size Q I4 r1 (Heap.IsSliceOf.new ..) pl pu q3
  show wpAny (model X.prog X.w) X.A (subscriptTail e (.Slice lo hi none p2) v (.ref s3.heap.objs.size)) (EP X pins σ Q) X.xe { s3 with heap := s3.heap.push { cls := .type "slice", data := .fields #[vl, vu, .none] } }
  exact tail_any (ops := [.ref s3.heap.objs.size, v]) ht hT hg (by with_unfolding_all rfl)
def cutV (xs : List V) (lo hi : Option Int) : List V := (xs.drop (HT.sIx xs.length 0 lo)).take (HT.sIx xs.length xs.length hi - HT.sIx xs.length 0 lo)
theorem cutV_length (xs : List V) (lo hi : Option Int) : (cutV xs lo hi).length ≤ xs.length := by
  unfold cutV
  rw [List.length_take, List.length_drop]
  omega
def rSlT (K : PySem.W.Frag) : V → Option Int → Option Int → Hp → VK → Prop := fun x lo hi H Q => ∃ a xs, x = .ref a ∧ SqT K H a xs ∧
  ¬ (HT.sIx xs.length 0 lo = 0 ∧ HT.sIx xs.length xs.length hi = xs.length) ∧ ∀ p, H p = none → Q (.ref p) (upd H p (.tup (cutV xs lo hi)))
theorem sl_tup : SlR X (rSlT X.K) := by
  intro pins s σ H x v vl vu lo hi sl Q I rx hs pl pu h
  obtain ⟨a, xs, rfl, hx, hw, q⟩ := h
  cases rx
  obtain ⟨its, r, ht, hz⟩ := I.tuple hx
  have hlen : its.toArray.size = xs.length := by rw [List.size_toArray]; exact r.length.symm
  refine ⟨"tuple", _, PyProof.Rows.slot_tuple_getitem.lookup, ht.typeIs, ?_⟩
  refine HT.getItem_tuple_cut ht hs pl pu (by rw [hlen]; exact hw) ?_ (by rw [hlen]; exact hz)
  rw [hlen]
  refine ⟨.ref s.heap.objs.size, _, I.laid (t' := s.toks) (o := .tup (cutV xs lo hi)) (fun b ob q => Heap.get?_push_of_some _ q) (Nat.le_refl _) ?_, rfl, q _ (I.hok.fresh (Nat.le_refl _))⟩
  exact ⟨Nat.le_trans (cutV_length xs lo hi) hz, _, (r.drop (HT.sIx xs.length 0 lo)).take (HT.sIx xs.length xs.length hi - HT.sIx xs.length 0 lo), IsTup.new _ _⟩
def rLtT (K : PySem.W.Frag) : R2 := fun x y H Q => ∃ a b ns ms, x = .ref a ∧ y = .ref b ∧ SqT K H a (ns.map V.int) ∧ SqT K H b (ms.map V.int) ∧ Q (.bl (HT.lexLt ns ms)) H
def rCatT (K : PySem.W.Frag) : R2 := fun x y H Q => ∃ a b xs ys, x = .ref a ∧ y = .ref b ∧ SqT K H a xs ∧ SqT K H b ys ∧ xs ≠ [] ∧ xs.length + ys.length ≤ sizeLine ∧
  (ys = [] → Q (.ref a) H) ∧ (ys ≠ [] → ∀ p, H p = none → Q (.ref p) (upd H p (.tup (xs ++ ys))))
theorem Vals.nil_iff {xs : List V} {us : List Value} (r : Vals xs us) : us = [] ↔ xs = [] := by
  cases r with
  | nil => simp
  | cons _ _ => simp
theorem op_catT : OpR X (binaryOp .Add) (rCatT X.K) := by
  intro pins s σ H x y v u Q I rx ry h
  obtain ⟨a, b, xs, ys, rfl, rfl, ha, hb, hx, hz, q1, q2⟩ := h
  cases rx
  cases ry
  obtain ⟨its, r1, p1, _⟩ := I.tuple ha
  obtain ⟨its2, r2, p2, _⟩ := I.tuple hb
  refine HT.cat_tup p1 p2 (fun z => hx (r1.nil_iff.mp z)) (fun z => ⟨.ref a, H, I, rfl, q1 (r2.nil_iff.mp z)⟩) (fun z => ?_) (by rw [← r1.length, ← r2.length]; exact hz)
  refine ⟨.ref s.heap.objs.size, _, I.laid (t' := s.toks) (o := .tup (xs ++ ys)) (fun b ob q => Heap.get?_push_of_some _ q) (Nat.le_refl _) ?_, rfl, q2 (fun w => z (r2.nil_iff.mpr w)) _ (I.hok.fresh (Nat.le_refl _))⟩
  exact ⟨by rw [List.length_append]; exact hz, _, r1.append r2, IsTup.new _ _⟩
end
end L2
namespace L2
open PySem PySem.Spec PyProof.Rows
def ixN (n : Nat) (i : Int) : Option Nat := if 0 ≤ i then (if i < n then some i.toNat else none) else if -(n : Int) ≤ i then some (i + n).toNat else none
def atI {α : Type} (xs : List α) (i : Int) : Option α := (ixN xs.length i).bind fun j => xs[j]?
theorem ixN_seq {n : Nat} {i : Int} {j : Nat} (h : ixN n i = some j) : seqIndex? i n = some j ∧ j < n ∧ -(n : Int) ≤ i ∧ i < n := by
  unfold ixN at h
  by_cases h0 : 0 ≤ i
  · rw [if_pos h0] at h
    by_cases h1 : i < n
    · rw [if_pos h1] at h
      have e : i.toNat = j := Option.some.inj h
      exact ⟨by rw [seqIndex_of h0 h1, e], by omega, by omega, h1⟩
    · rw [if_neg h1] at h; cases h
  · rw [if_neg h0] at h
    by_cases h1 : -(n : Int) ≤ i
    · rw [if_pos h1] at h
      have e : (i + n).toNat = j := Option.some.inj h
      exact ⟨by rw [seqIndex_neg (by omega) h1, e], by omega, h1, by omega⟩
    · rw [if_neg h1] at h; cases h
theorem atI_get {α : Type} {xs : List α} {i : Int} {v : α} (h : atI xs i = some v) : ∃ j, seqIndex? i xs.length = some j ∧ xs[j]? = some v ∧ j < xs.length ∧ -(xs.length : Int) ≤ i ∧ i < xs.length := by
  unfold atI at h
  cases e : ixN xs.length i with
  | none => rw [e] at h; cases h
  | some j =>
    rw [e] at h
    obtain ⟨h1, h2, h3, h4⟩ := ixN_seq e
    exact ⟨j, h1, h, h2, h3, h4⟩
theorem atI_nat {α : Type} {xs : List α} {j : Nat} {v : α} (h : xs[j]? = some v) : atI xs (j : Int) = some v := by
  have hj : j < xs.length := (List.getElem?_eq_some_iff.mp h).1
  have e : ixN xs.length (j : Int) = some j := by
    unfold ixN
    rw [if_pos (by omega), if_pos (by omega)]; simp
  unfold atI; rw [e]; exact h
theorem atI_last {α : Type} (xs : List α) (v : α) : atI (xs ++ [v]) (-1) = some v := by
  have hl : (xs ++ [v]).length = xs.length + 1 := by simp
  have e : ixN (xs ++ [v]).length (-1) = some xs.length := by
    unfold ixN
    rw [hl, if_neg (by decide), if_pos (by omega)]
    congr 1
    omega
  unfold atI
  rw [e]
  show (xs ++ [v])[xs.length]? = some v
  simp
def PlainIx (b : Expr) : Prop := ∀ o i, subscripted b false o i = operate [o, i] (getItem o i)
def IxR (X : Cx) (r : R2) : Prop :=
  ∀ (value slice : Expr) (pins : List (Addr × Obj)) (s : Shared) (σ : St) (H : Hp) (x y : V) (v u : Value) (Q : VK), Inv X pins σ H s → RelV x v → RelV y u → r x y H Q →
    subscripted slice false v u = operate [v, u] (getItem v u) → wpAny (model X.prog X.w) X.A (subscriptTail value slice v u) (EP X pins σ Q) X.xe s
def MtR (X : Cx) (id : String) (r : V → List V → Hp → VK → Prop) : Prop :=
  ∀ (pins : List (Addr × Obj)) (s : Shared) (σ : St) (H : Hp) (x : V) (xs : List V) (v : Value) (us : List Value) (Q : VK), Inv X pins σ H s → RelV x v → Vals xs us → r x xs H Q →
    wpAny (model X.prog X.w) X.A (call (.builtin id) (v :: us)) (EP X pins σ Q) X.xe s
section
variable {X : Cx} {a b : Expr} {ta tb : TE} {pos : Pos}
theorem MtR.or {id : String} {r r' : V → List V → Hp → VK → Prop} (h : MtR X id r) (h' : MtR X id r') : MtR X id (fun x xs H Q => r x xs H Q ∨ r' x xs H Q) := by
  intro pins s σ H x xs v us Q I rx rs q
  rcases q with q | q
  · exact h pins s σ H x xs v us Q I rx rs q
  · exact h' pins s σ H x xs v us Q I rx rs q
theorem pe_ix {r : R2} (hr : IxR X r) (ha : PE X a ta) (hb : PE X b tb) (hs : PlainIx b) : PE X (.Subscript a b pos) (tOp r ta tb) := by
  intro pins s σ H Q I h
  exact Subscript_ (binT ha hb I h fun v u s2 x y H2 I2 rx ry q => hr a b pins s2 σ H2 x y v u Q I2 rx ry q (hs _ _))
def rIxL (K : PySem.W.Frag) : R2 := fun x y H Q => ∃ p xs i v, x = .ref p ∧ y = .int i ∧ SqL K H p xs ∧ atI xs i = some v ∧ Q v H
def rIxT (K : PySem.W.Frag) : R2 := fun x y H Q => ∃ p xs i v, x = .ref p ∧ y = .int i ∧ SqT K H p xs ∧ atI xs i = some v ∧ Q v H
def rIxS : R2 := fun x y H Q => ∃ z i c, x = .str z ∧ y = .int i ∧ z.length ≤ sizeLine ∧ atI z.cps.toList i = some c ∧ Q (.str ⟨#[c]⟩) H
theorem ix_list : IxR X (rIxL X.K) := by
  intro value slice pins s σ H x y v u Q I rx ry h hs
  obtain ⟨p, xs, i, z, rfl, rfl, hq, he, q⟩ := h
  cases rx
  obtain ⟨t, rfl⟩ := ry
  obtain ⟨its, r, pl, hz⟩ := I.list hq
  obtain ⟨j, h1, h2, h3, h4, h5⟩ := atI_get he
  obtain ⟨w, ew, rw'⟩ := r.get h2
  have hl := r.length
  have hn := line63
  have fin : EP X pins σ Q w s := ⟨z, H, I, rw', q⟩
  by_cases h0 : 0 ≤ i
  · have hj : i.toNat = j := by
      rw [seqIndex_of h0 h5] at h1
      exact Option.some.inj h1
    exact item_listR pl.isList h0 (by omega) (by rw [hj]; simpa using ew) fin hs
  · have hj : (i + (its.toArray.size : Int)).toNat = j := by
      rw [seqIndex_neg (by omega) h4] at h1
      rw [List.size_toArray, ← hl]
      exact Option.some.inj h1
    exact subscriptTail_builtinR (x := w) pl.isList.typeIs slot_list_getitem.lookup
      (wpAny_getItem_list_neg (Q := fun r s' => r = w ∧ EP X pins σ Q r s') pl.isList (by omega) (by rw [List.size_toArray] <;> omega) (by omega) (by rw [hj]; simpa using ew) ⟨rfl, fin⟩) hs
theorem ix_tup : IxR X (rIxT X.K) := by
  intro value slice pins s σ H x y v u Q I rx ry h hs
  obtain ⟨p, xs, i, z, rfl, rfl, hq, he, q⟩ := h
  cases rx
  obtain ⟨t, rfl⟩ := ry
  obtain ⟨its, r, pl, hz⟩ := I.tuple hq
  obtain ⟨j, h1, h2, h3, h4, h5⟩ := atI_get he
  obtain ⟨w, ew, rw'⟩ := r.get h2
  have hl := r.length
  have hn := line63
  have fin : EP X pins σ Q w s := ⟨z, H, I, rw', q⟩
  exact subscriptTail_builtinR (x := w) pl.typeIs slot_tuple_getitem.lookup
    (getItem_tuple (j := j) (Q := fun r s' => r = w ∧ EP X pins σ Q r s') pl (by omega) (by omega) (by rw [List.size_toArray, ← hl]; exact h1) (by simpa using ew) ⟨rfl, fin⟩) hs
theorem mapSeq_set (its : List Value) (n j : Nat) (u : Value) : Obj.mapSeq (·.setIfInBounds j u) { cls := .type "list", data := .seq its.toArray n } = { cls := .type "list", data := .seq (its.set j u).toArray n } := by
  simp [Obj.mapSeq]
theorem Inv.lst {pins : List (Addr × Obj)} {σ : St} {H : Hp} {s : Shared} {p : Addr} {xs : List V} (I : Inv X pins σ H s) (h : H p = some (.lst xs)) :
    ∃ (its : List Value) (n : Nat), Vals xs its ∧ s.heap.get? p = some { cls := .type "list", data := .seq its.toArray n } ∧ xs.length ≤ sizeLine := by
  obtain ⟨z, its, n, r, e⟩ := I.hok p _ h
  exact ⟨its, n, r, e, z⟩
theorem Inv.lstUpd {pins : List (Addr × Obj)} {σ : St} {H : Hp} {s : Shared} {p : Addr} {xs ys : List V} {its its' : List Value} {n n' : Nat} {f : Obj → Obj} (I : Inv X pins σ H s) (h : H p = some (.lst xs))
    (ho : s.heap.get? p = some { cls := .type "list", data := .seq its.toArray n }) (hf : f { cls := .type "list", data := .seq its.toArray n } = { cls := .type "list", data := .seq its'.toArray n' }) (r : Vals ys its') (hz : ys.length ≤ sizeLine) (t : Nat) :
    Inv X pins σ (upd H p (.lst ys)) { s with heap := s.heap.update p f, toks := t } := by
  have e : (s.heap.update p f).get? p = some { cls := .type "list", data := .seq its'.toArray n' } := by
    rw [Heap.get?_update_self f ho (by rw [hf] <;> rfl), hf]
  refine I.write (x := p) (e := p) (by rw [h]; trivial) (.inl rfl) (fun b u hb q => (Heap.get?_update_other _ _ (Ne.symm hb)).trans q) ⟨_, e⟩ ?_
  exact ⟨hz, its', n', r, e⟩
def rSetL : V → V → V → Hp → (Hp → Prop) → Prop := fun o i v H Q => ∃ p xs k j, o = .ref p ∧ i = .int k ∧ H p = some (.lst xs) ∧ ixN xs.length k = some j ∧ Q (upd H p (.lst (xs.set j v)))
theorem set_list : PSet X rSetL := by
  intro pins s σ H o i v ov iv u Q I ro ri rv h
  obtain ⟨p, xs, k, j, rfl, rfl, hp, hj, q⟩ := h
  cases ro
  obtain ⟨t, rfl⟩ := ri
  obtain ⟨its, n, r, ho, hz⟩ := I.lst hp
  obtain ⟨h1, h2, h3, h4⟩ := ixN_seq hj
  have hl := r.length
  have hn := line63
  have I' : Inv X pins σ (upd H p (.lst (xs.set j v))) { s with heap := s.heap.update p (Obj.mapSeq (·.setIfInBounds j u)) } :=
    I.lstUpd hp ho (mapSeq_set its n j u) (r.set rv j) (by rw [List.length_set]; exact hz) s.toks
  by_cases h0 : 0 ≤ k
  · have hk : k.toNat = j := by
      rw [seqIndex_of h0 h4] at h1
      exact Option.some.inj h1
    exact PySem.W.ki_setAt ho h0 (by omega) (by rw [List.size_toArray, ← hl]; exact h4) (by rw [hk]; exact ⟨_, I', q⟩)
  · have hk : (k + (its.toArray.size : Int)).toNat = j := by
      rw [seqIndex_neg (by omega) h3] at h1
      rw [List.size_toArray, ← hl]
      exact Option.some.inj h1
    exact PySem.W.ki_setBack ho (by omega) (by rw [List.size_toArray, ← hl]; exact h3) (by omega) (by rw [hk]; exact ⟨_, I', q⟩)
theorem slice_bounds (lo hi : Option Int) (n : Nat) : (sliceBounds lo hi none n).1 = ((HT.sIx n 0 lo : Nat) : Int) ∧ (sliceBounds lo hi none n).2.1 = ((HT.sIx n n hi : Nat) : Int) ∧ (sliceBounds lo hi none n).2.2 = 1 := by
  refine ⟨?_, ?_, rfl⟩
  · cases lo with
    | none => simp [sliceBounds, HT.sIx]
    | some i =>
      simp only [sliceBounds, HT.sIx, Option.getD_none, show (1 : Int) > 0 by decide, if_true]
      by_cases h : i < 0
      · simp only [h, if_true] <;> omega
      · simp only [h, if_false] <;> omega
  · cases hi with
    | none => simp [sliceBounds, HT.sIx]
    | some i =>
      simp only [sliceBounds, HT.sIx, Option.getD_none, show (1 : Int) > 0 by decide, if_true]
      by_cases h : i < 0
      · simp only [h, if_true] <;> omega
      · simp only [h, if_false] <;> omega
theorem slicePick_cut (its : List Value) (lo hi : Option Int) : slicePick its.toArray lo hi none = ((its.drop (HT.sIx its.length 0 lo)).take (HT.sIx its.length its.length hi - HT.sIx its.length 0 lo)).toArray := by
  obtain ⟨h1, h2, h3⟩ := slice_bounds lo hi its.toArray.size
  unfold slicePick
  rw [h1, h2, h3]
  simp only [sliceRange_one, pick_run, List.size_toArray] <;> rfl
def rSlL (K : PySem.W.Frag) : V → Option Int → Option Int → Hp → VK → Prop := fun x lo hi H Q => ∃ a xs, x = .ref a ∧ SqL K H a xs ∧ ∀ p, H p = none → Q (.ref p) (upd H p (.lst (cutV xs lo hi)))
theorem sl_list : SlR X (rSlL X.K) := by
  intro pins s σ H x v vl vu lo hi sl Q I rx hs pl pu h
  obtain ⟨a, xs, rfl, hx, q⟩ := h
  cases rx
  obtain ⟨its, r, ht, hz⟩ := I.list hx
  have hlen := r.length
  refine ⟨"list", _, slot_list_getitem.lookup, ht.isList.typeIs, ?_⟩
  refine wpAny_getItem_list_slice ht.isList hs pl pu .none (by simp) ?_ (by rw [List.size_toArray] <;> omega)
  rw [slicePick_cut, ← hlen]
  refine ⟨.ref s.heap.objs.size, _, I.laid (t' := s.toks) (o := .lst (cutV xs lo hi)) (fun b ob q => Heap.get?_push_of_some _ q) (Nat.le_refl _) ?_, rfl, q _ (I.hok.fresh (Nat.le_refl _))⟩
  exact ⟨Nat.le_trans (cutV_length xs lo hi) hz, _, 0, (r.drop (HT.sIx xs.length 0 lo)).take (HT.sIx xs.length xs.length hi - HT.sIx xs.length 0 lo), Heap.get?_push_size _ rfl⟩
def flatV : V → Bool
  | .non => true
  | .bl _ => true
  | .int _ => true
  | .str _ => true
  | _ => false
def eqV : V → V → Bool
  | .non, .non => true
  | .bl a, .bl b => a == b
  | .bl a, .int b => (if a then 1 else 0) == b
  | .int a, .bl b => a == (if b then 1 else 0)
  | .int a, .int b => a == b
  | .str a, .str b => a == b
  | _, _ => false
theorem eqAt_V {A : Around} {s : Shared} {y x : V} {u v : Value} (ry : RelV y u) (rx : RelV x v) (fy : flatV y = true) (fx : flatV x = true) : SeqAt.EqAt A s u v (eqV y x) := by
  cases y with
  | non =>
    cases ry
    cases x with
    | non => cases rx; exact SeqAt.EqAt.same _
    | bl b => cases rx; exact SeqAt.EqAt.none_bool b
    | int b => obtain ⟨t, rfl⟩ := rx; exact SeqAt.EqAt.none_int b t
    | str b => obtain ⟨t, rfl⟩ := rx; exact SeqAt.EqAt.none_str b t
    | _ => exact absurd (show false = true from fx) Bool.false_ne_true
  | bl a =>
    cases ry
    cases x with
    | non => cases rx; exact SeqAt.EqAt.bool_none a
    | bl b => cases rx; exact SeqAt.EqAt.bool_bool a b
    | int b => obtain ⟨t, rfl⟩ := rx; exact SeqAt.EqAt.bool_int a b t
    | str b => obtain ⟨t, rfl⟩ := rx; exact SeqAt.EqAt.bool_str a b t
    | _ => exact absurd (show false = true from fx) Bool.false_ne_true
  | int a =>
    obtain ⟨t', rfl⟩ := ry
    cases x with
    | non => cases rx; exact SeqAt.EqAt.int_none a t'
    | bl b => cases rx; exact SeqAt.EqAt.int_bool a t' b
    | int b => obtain ⟨t, rfl⟩ := rx; exact SeqAt.EqAt.int_int a t' b t
    | str b => obtain ⟨t, rfl⟩ := rx; exact SeqAt.EqAt.int_str a t' b t
    | _ => exact absurd (show false = true from fx) Bool.false_ne_true
  | str a =>
    obtain ⟨t', rfl⟩ := ry
    cases x with
    | non => cases rx; exact SeqAt.EqAt.str_none a t'
    | bl b => cases rx; exact SeqAt.EqAt.str_bool a t' b
    | int b => obtain ⟨t, rfl⟩ := rx; exact SeqAt.EqAt.str_int a t' b t
    | str b => obtain ⟨t, rfl⟩ := rx; exact SeqAt.EqAt.str_str a t' b t
    | _ => exact absurd (show false = true from fx) Bool.false_ne_true
  | _ => exact absurd (show false = true from fy) Bool.false_ne_true
def eqU (x : V) (u : Value) : Bool := match u with
  | .none => eqV .non x
  | .bool b => eqV (.bl b) x
  | .int i _ => eqV (.int i) x
  | .str z _ => eqV (.str z) x
  | _ => false
theorem eqU_of {x y : V} {u : Value} (r : RelV y u) (f : flatV y = true) : eqU x u = eqV y x := by
  cases y with
  | non => cases r; rfl
  | bl b => cases r; rfl
  | int i => obtain ⟨t, rfl⟩ := r; rfl
  | str z => obtain ⟨t, rfl⟩ := r; rfl
  | _ => exact absurd (show false = true from f) Bool.false_ne_true
theorem any_eqU {x : V} : ∀ {xs : List V} {us : List Value}, Vals xs us → xs.all flatV = true → us.any (eqU x) = xs.any fun y => eqV y x
  | _, _, .nil, _ => rfl
  | y :: xs, u :: us, .cons r t, f => by
    rw [List.all_cons, Bool.and_eq_true] at f
    rw [List.any_cons, List.any_cons, eqU_of r f.1, any_eqU t f.2]
theorem mem_eqAt {A : Around} {s : Shared} {x : V} {v : Value} (rx : RelV x v) (fx : flatV x = true) : ∀ {xs : List V} {us : List Value}, Vals xs us → xs.all flatV = true → ∀ u ∈ us, SeqAt.EqAt A s u v (eqU x u)
  | _, _, .nil, _ => fun u hu => by cases hu
  | y :: xs, u :: us, .cons r t, f => fun u' hu => by
    rw [List.all_cons, Bool.and_eq_true] at f
    rcases List.mem_cons.mp hu with rfl | hu
    · rw [eqU_of r f.1]; exact eqAt_V r rx f.1 fx
    · exact mem_eqAt rx fx t f.2 u' hu
def inV (x : V) (xs : List V) : Bool := xs.any fun y => eqV y x
def rIn (K : PySem.W.Frag) (neg : Bool) : R2 := fun x y H Q => ∃ p xs, y = .ref p ∧ (SqL K H p xs ∨ SqT K H p xs) ∧ flatV x = true ∧ xs.all flatV = true ∧ Q (.bl (if neg then !inV x xs else inV x xs)) H
theorem op_in_seq : OpR X (compareOp .In) (rIn X.K false) := by
  intro pins s σ H x y v u Q I rx ry h
  obtain ⟨p, xs, rfl, hq, fx, fs, q⟩ := h
  cases ry
  rcases hq with hq | hq
  · obtain ⟨its, r, pl, hz⟩ := I.list hq
    refine SeqAt.in_listAt (eqU x) pl.isList (fun w hw => mem_eqAt rx fx r fs w (by simpa using hw)) ⟨.bl _, H, I, rfl, ?_⟩
    rw [show its.toArray.any (eqU x) = its.any (eqU x) by simp, any_eqU r fs]
    exact q
  · obtain ⟨its, r, pl, hz⟩ := I.tuple hq
    refine SeqAt.in_tupleAt (eqU x) pl (fun w hw => mem_eqAt rx fx r fs w (by simpa using hw)) ⟨.bl _, H, I, rfl, ?_⟩
    rw [show its.toArray.any (eqU x) = its.any (eqU x) by simp, any_eqU r fs]
    exact q
theorem op_notIn_seq : OpR X (compareOp .NotIn) (rIn X.K true) := by
  intro pins s σ H x y v u Q I rx ry h
  obtain ⟨p, xs, rfl, hq, fx, fs, q⟩ := h
  cases ry
  rcases hq with hq | hq
  · obtain ⟨its, r, pl, hz⟩ := I.list hq
    refine SeqAt.notIn_listAt (eqU x) pl.isList (fun w hw => mem_eqAt rx fx r fs w (by simpa using hw)) ⟨.bl _, H, I, rfl, ?_⟩
    rw [show its.toArray.any (eqU x) = its.any (eqU x) by simp, any_eqU r fs]
    exact q
  · obtain ⟨its, r, pl, hz⟩ := I.tuple hq
    refine SeqAt.notIn_tupleAt (eqU x) pl (fun w hw => mem_eqAt rx fx r fs w (by simpa using hw)) ⟨.bl _, H, I, rfl, ?_⟩
    rw [show its.toArray.any (eqU x) = its.any (eqU x) by simp, any_eqU r fs]
    exact q
theorem call_len_seq : CallR X (.builtin "len") (fun xs H Q => ∃ p ys, xs = [.ref p] ∧ (SqL X.K H p ys ∨ SqT X.K H p ys) ∧ Q (.int ys.length) H) := by
  intro pins s σ H xs us Q I r h
  obtain ⟨p, ys, rfl, hq, q⟩ := h
  obtain ⟨u, rfl, rx⟩ := vals1 r
  cases rx
  have hn := line63
  rcases hq with hq | hq
  · obtain ⟨its, r', pl, hz⟩ := I.list hq
    have hlen := r'.length
    exact Calls.call_len_list pl.isList (by simp only [List.size_toArray] <;> omega) ⟨.int ys.length, H, I.tok _, ⟨s.toks + 1, by rw [List.size_toArray, hlen]⟩, q⟩
  · obtain ⟨its, r', pl, hz⟩ := I.tuple hq
    have hlen := r'.length
    exact len_tuple pl (by simp only [List.size_toArray] <;> omega) ⟨.int ys.length, H, I.tok _, ⟨s.toks + 1, by rw [List.size_toArray, hlen]⟩, q⟩
theorem call_len_str : CallR X (.builtin "len") (fun xs H Q => ∃ z, xs = [.str z] ∧ z.length ≤ sizeLine ∧ Q (.int z.length) H) := by
  intro pins s σ H xs us Q I r h
  obtain ⟨z, rfl, hz, q⟩ := h
  obtain ⟨u, rfl, t, rfl⟩ := vals1 r
  have hn := line63
  exact len_str (by omega) ⟨.int z.length, H, I.tok _, ⟨_, rfl⟩, q⟩
def tyV (K : PySem.W.Frag) (T : String) (x : V) (H : Hp) : Prop := match x with
  | .str _ => T = "str"
  | .int _ => T = "int"
  | .ref p => (T = "list" ∧ ∃ xs, SqL K H p xs) ∨ (T = "tuple" ∧ ∃ o, K.lookup p = some o ∧ o.cls = .type "tuple" ∧ o.dict = none) ∨
      (T = "dict" ∧ ((∃ kvs, H p = some (.dK kvs)) ∨ ∃ kvs, H p = some (.dT kvs))) ∨ (T = "set" ∧ ∃ S n, H p = some (.set S n))
  | _ => False
theorem tyV_is {pins : List (Addr × Obj)} {σ : St} {H : Hp} {s : Shared} {T : String} {x : V} {v : Value} (I : Inv X pins σ H s) (r : RelV x v) (ty : tyV X.K T x H) :
    s.TypeIs v T ∧ ∀ a, v = .ref a → ∃ ob, s.heap.get? a = some ob ∧ ob.dict = none := by
  cases x with
  | str z =>
    obtain ⟨t, rfl⟩ := r
    cases (show T = "str" from ty)
    exact ⟨typeIs_str s z t, fun _ e => nomatch e⟩
  | int i =>
    obtain ⟨t, rfl⟩ := r
    cases (show T = "int" from ty)
    exact ⟨typeIs_int s i t, fun _ e => nomatch e⟩
  | ref p =>
    cases r
    rcases ty with ⟨rfl, xs, hq⟩ | ⟨rfl, o, hk, hc, hd⟩ | ⟨rfl, hk⟩ | ⟨rfl, S, n, hk⟩
    · obtain ⟨its, _, pl, _⟩ := I.list hq
      refine ⟨pl.isList.typeIs, fun a e => ?_⟩
      cases e
      obtain ⟨o, n, e, c, hd, _⟩ := pl
      exact ⟨o, e, hd⟩
    · refine ⟨⟨o, I.kIn p o hk, hc⟩, fun a e => ?_⟩
      cases e
      exact ⟨o, I.kIn _ o hk, hd⟩
    · have z : ∃ o, s.heap.get? p = some o ∧ o.ExactDict := by
        rcases hk with ⟨kvs, hk⟩ | ⟨kvs, hk⟩
        · obtain ⟨_, _, _, _, o, _, _, e, ex, _⟩ := I.hok p _ hk
          exact ⟨o, e, ex⟩
        · obtain ⟨_, _, _, _, o, _, _, e, ex, _⟩ := I.hok p _ hk
          exact ⟨o, e, ex⟩
      obtain ⟨o, e, ex⟩ := z
      refine ⟨⟨o, e, ex.1⟩, fun a e2 => ?_⟩
      cases e2
      exact ⟨o, e, ex.2.1⟩
    · obtain ⟨o, _, _, _, e, ex, _⟩ := I.hok p _ hk
      refine ⟨⟨o, e, ex.1⟩, fun a e2 => ?_⟩
      cases e2
      exact ⟨o, e, ex.2.1⟩
  | _ => exact False.elim ty
def tBM0 (K : PySem.W.Frag) (T : String) (r : V → List V → Hp → VK → Prop) (to : TE) : TE := fun σ H Q => to σ H fun x H1 => tyV K T x H1 ∧ r x [] H1 Q
def tBM (K : PySem.W.Frag) (T : String) (r : V → List V → Hp → VK → Prop) (to : TE) (t : TA) : TE := fun σ H Q => to σ H fun x H1 => tyV K T x H1 ∧ t σ H1 fun xs H2 => r x xs H2 Q
variable {o e : Expr} {es : List Expr} {to : TE} {t : TA} {name : Str} {apos cpos : Pos} {T id : String} {r : V → List V → Hp → VK → Prop}
theorem pe_bm0 (pa : PlainAttrs T) (slot : Slot T name id) (hty : typeOf (.builtin id) = pure (.type "method_descriptor")) (hm : MtR X id r) (ho : PE X o to)
    (hbase : attributeBase o name X.env (eval o X.env) = eval o X.env := by rfl) (hline : (apos.endLine == cpos.line) = true := by rfl) : PE X (.Call (.Attribute o name apos) [] [] cpos) (tBM0 X.K T r to) := by
  intro pins s σ H Q I h
  refine wpAny_Call_method0_late hbase hline (thn (ho pins s σ H _ I h) fun v s1 ⟨x, H1, I1, r1, ty, q1⟩ => ?_)
  obtain ⟨h1, h2⟩ := tyV_is I1 r1 ty
  exact ⟨T, id, pa, slot, hty, h1, h2, Calls.callWith_builtin rfl (PySem.evalArgs_none (hm pins s1 σ H1 x [] v [] Q I1 r1 .nil q1))⟩
theorem pe_bm (pa : PlainAttrs T) (slot : Slot T name id) (hty : typeOf (.builtin id) = pure (.type "method_descriptor")) (hm : MtR X id r) (ho : PE X o to) (ha : PA X (e :: es) t)
    (hbase : attributeBase o name X.env (eval o X.env) = eval o X.env := by rfl)
    (hfew : ((backTo cpos (starEach (e :: es) X.env)).all (fun x => !x.1) && (backToKw cpos (keywordEach [] X.env)).all (fun x => x.1.isSome)
      && decide ((e :: es).length + ([] : List Keyword).length + (if ([] : List Keyword).isEmpty then 0 else 1) < 30)) = true := by rfl)
    (hline : (apos.endLine == cpos.line) = true := by rfl) (hs : starEach (e :: es) X.env = (false, eval e X.env) :: starEach es X.env := by rfl) (hplain : (backTo cpos (starEach es X.env)).any (·.1) = false := by rfl) :
    PE X (.Call (.Attribute o name apos) (e :: es) [] cpos) (tBM X.K T r to t) := by
  intro pins s σ H Q I h
  refine wpAny_Call_method_late hbase hfew hline rfl (thn (ho pins s σ H _ I h) fun v s1 ⟨x, H1, I1, r1, ty, q1⟩ => ?_)
  obtain ⟨h1, h2⟩ := tyV_is I1 r1 ty
  refine ⟨T, id, pa, slot, hty, h1, h2, ?_⟩
  have hA := ha cpos pins s1 σ H1 _ I1 q1
  rw [hs] at hA ⊢
  refine Calls.callWith_builtin (by show (false || (backTo cpos (starEach es X.env)).any (·.1)) = false; rw [hplain] <;> rfl) (Calls.evalArgs_plain ?_)
  exact thn hA fun us s2 ⟨vs, H2, I2, r2, q2⟩ => hm pins s2 σ H2 x vs v us Q I2 r1 r2 q2
/- xs.append(e), list.index on a module's tuple .. are MtR facts of 06m -/
end
end L2
namespace L2
open PySem PySem.Spec PyProof.Rows
def MtM (X : Cx) (id : String) (r : V → List V → Hp → VK → Prop) : Prop :=
  ∀ (pins : List (Addr × Obj)) (s : Shared) (σ : St) (H : Hp) (x : V) (xs : List V) (v : Value) (us : List Value) (Q : VK), Inv X pins σ H s → RelV x v → Vals xs us → r x xs H Q →
    wpAny (model X.prog X.w) X.A (call (.builtin id) (v :: us)) (EP X pins σ Q) X.xe s
theorem Vals.one : ∀ {x : V} {us : List Value}, Vals [x] us → ∃ u, us = [u] ∧ RelV x u
  | _, _, .cons r .nil => ⟨_, rfl, r⟩
theorem Vals.zero : ∀ {us : List Value}, Vals [] us → us = []
  | _, .nil => rfl
theorem Vals.dropLast {xs : List V} {us : List Value} (h : Vals xs us) : Vals xs.dropLast us.dropLast := by
  induction h with
  | nil => exact .nil
  | cons r t ih =>
    cases t with
    | nil => exact .nil
    | cons q t' => exact .cons r ih
theorem Vals.rep {xs : List V} {us : List Value} (h : Vals xs us) : ∀ k : Nat, Vals (List.replicate k xs).flatten (List.replicate k us).flatten
  | 0 => .nil
  | k + 1 => by
    rw [List.replicate_succ, List.replicate_succ, List.flatten_cons, List.flatten_cons]
    exact Vals.append h (Vals.rep h k)
theorem erase_last {α : Type} (l : List α) : l.eraseIdx (l.length - 1) = l.dropLast := by
  induction l with
  | nil => rfl
  | cons a r ih =>
    cases r with
    | nil => rfl
    | cons b r =>
      have e : (a :: b :: r).length - 1 = ((b :: r).length - 1) + 1 := by
        have h1 : (a :: b :: r).length = r.length + 2 := rfl
        have h2 : (b :: r).length = r.length + 1 := rfl
        omega
      rw [e, List.eraseIdx_cons_succ, ih]
      all_goals rfl
theorem foldl_rep (its : List Value) : ∀ (k : Nat) (acc : List Value),
    List.foldl (fun x1 x2 => x1 ++ x2) acc.toArray (List.replicate k its.toArray) = (acc ++ (List.replicate k its).flatten).toArray
  | 0, acc => by simp
  | k + 1, acc => by
    have e : acc.toArray ++ its.toArray = (acc ++ its).toArray := by simp
    have e2 : (acc ++ its) ++ (List.replicate k its).flatten = acc ++ (List.replicate (k + 1) its).flatten := by
      rw [List.replicate_succ, List.flatten_cons, List.append_assoc]
    rw [← e2, ← foldl_rep its k (acc ++ its), ← e, List.replicate_succ, List.foldl_cons]
section
variable {X : Cx} {pins : List (Addr × Obj)} {σ : St} {H : Hp} {s : Shared} {l b : Addr} {xs ys zs : List V}
theorem Inv.lset {its its' : List Value} {n : Nat} {f : Array Value → Array Value} {t' : Nat} (I : Inv X pins σ H s) (hH : H l = some (.lst xs))
    (e : s.heap.get? l = some { cls := .type "list", data := .seq its.toArray n }) (hf : f its.toArray = its'.toArray) (hv : Vals ys its') (hz : ys.length ≤ sizeLine) :
    Inv X pins σ (upd H l (.lst ys)) { s with heap := s.heap.update l (Obj.mapSeq f), toks := t' } := by
  have q := PySem.IsL.update e f
  rw [hf] at q
  refine I.write (x := l) (e := l) (by rw [hH]; exact trivial) (.inl rfl) (fun b' u hb hu => (Heap.get?_update_other s.heap (Obj.mapSeq f) (Ne.symm hb)).trans hu) ⟨_, q⟩ ?_
  exact ⟨hz, its', _, hv, q⟩
theorem Inv.lnew {its : List Value} {t' : Nat} (I : Inv X pins σ H s) (hv : Vals ys its) (hz : ys.length ≤ sizeLine) :
    Inv X pins σ (upd H s.heap.objs.size (.lst ys)) { s with heap := s.heap.push { cls := .type "list", data := .seq its.toArray }, toks := t' } :=
  I.laid (fun _ _ q => Heap.get?_push_of_some _ q) (Nat.le_refl _) ⟨hz, its, 0, hv, Heap.get?_push_size _ rfl⟩
theorem Inv.fresh (I : Inv X pins σ H s) : H s.heap.objs.size = none := I.hok.fresh (Nat.le_refl _)
theorem Inv.lstM (I : Inv X pins σ H s) (hH : H l = some (.lst xs)) : xs.length ≤ sizeLine ∧ ∃ (its : List Value) (n : Nat), Vals xs its ∧ xs.length = its.length ∧ s.heap.get? l = some { cls := .type "list", data := .seq its.toArray n } := by
  obtain ⟨z, its, n, r, e⟩ := I.hok l _ hH
  exact ⟨z, its, n, r, r.length, e⟩
theorem notLongL {n : Nat} (h : n ≤ sizeLine) : Builtin.List.listTooLong n = false := by
  unfold Builtin.List.listTooLong
  exact decide_eq_false (by omega)
end
section
variable {X : Cx}
def rAppend : V → List V → Hp → VK → Prop := fun x vs H Q => ∃ l xs y, x = .ref l ∧ vs = [y] ∧ H l = some (.lst xs) ∧ xs.length < sizeLine ∧ Q .non (upd H l (.lst (xs ++ [y])))
theorem mt_append : MtM X "list.append" rAppend := by
  intro pins s σ H x vs v us Q I rx rv h
  obtain ⟨l, xs, y, rfl, rfl, hH, hz, q⟩ := h
  cases rx
  obtain ⟨u, rfl, ru⟩ := rv.one
  obtain ⟨z, its, n, r, hl, e⟩ := I.lstM hH
  refine call_meets F.slot_list_append ⟨_, e, rfl⟩ F.entry_list_append (F.args_list_append_2 _ _) (PySem.list_append l its.toArray n u (by rw [List.size_toArray]; omega)) ⟨e, ?_⟩
  refine ⟨.non, _, I.lset (its' := its ++ [u]) hH e (by simp) (r.append (.cons ru .nil)) ?_, rfl, q⟩
  rw [List.length_append, List.length_singleton]
  omega
def rPop : V → List V → Hp → VK → Prop := fun x vs H Q => ∃ l xs y, x = .ref l ∧ vs = [] ∧ H l = some (.lst xs) ∧ xs[xs.length - 1]? = some y ∧ Q y (upd H l (.lst xs.dropLast))
theorem mt_pop : MtM X "list.pop" rPop := by
  intro pins s σ H x vs v us Q I rx rv h
  obtain ⟨l, xs, y, rfl, rfl, hH, hy, q⟩ := h
  cases rx
  have hus := rv.zero
  subst hus
  obtain ⟨z, its, n, r, hl, e⟩ := I.lstM hH
  obtain ⟨u, hu, ru⟩ := r.get hy
  have hy' : its.toArray[its.toArray.size - 1]? = some u := by
    show its.toArray[its.length - 1]? = some u
    rw [← Array.getElem?_toList, ← hl]
    exact hu
  refine call_meets F.slot_list_pop ⟨_, e, rfl⟩ F.entry_list_pop (F.args_list_pop_1 _) (MeetsSeq.list_pop_last l its.toArray n u hy' (by rw [List.size_toArray]; omega)) ⟨e, ?_⟩
  refine ⟨y, _, I.lset (its' := its.dropLast) hH e ?_ r.dropLast ?_, ru, q⟩
  · show its.toArray.eraseIdxIfInBounds (its.toArray.size - 1) = its.dropLast.toArray
    rw [List.size_toArray, List.eraseIdxIfInBounds_toArray, erase_last]
  · rw [List.length_dropLast]
    omega
def rCat : R2 := fun x y H Q => ∃ l b xs zs, x = .ref l ∧ y = .ref b ∧ H l = some (.lst xs) ∧ H b = some (.lst zs) ∧ xs.length + zs.length ≤ sizeLine ∧ ∀ p, H p = none → Q (.ref p) (upd H p (.lst (xs ++ zs)))
theorem op_cat : OpR X (binaryOp .Add) rCat := by
  intro pins s σ H x y v u Q I rx ry h
  obtain ⟨l, b, xs, zs, rfl, rfl, hH, hB, hz, q⟩ := h
  cases rx
  cases ry
  obtain ⟨z, its, n, r, hl, e⟩ := I.lstM hH
  obtain ⟨z2, its2, n2, r2, hl2, e2⟩ := I.lstM hB
  refine PySem.P.add_list e e2 ?_ (by rw [List.size_toArray, List.size_toArray]; omega)
  have ea : its.toArray ++ its2.toArray = (its ++ its2).toArray := by simp
  rw [ea]
  exact ⟨.ref _, _, I.lnew (t' := s.toks) (r.append r2) (by rw [List.length_append]; omega), rfl, q _ I.fresh⟩
def rRep : R2 := fun x y H Q => ∃ l k xs, x = .ref l ∧ y = .int k ∧ H l = some (.lst xs) ∧ -(2 ^ 63) ≤ k ∧ k < 2 ^ 63 ∧ xs.length * k.toNat ≤ sizeLine ∧
  ∀ p, H p = none → Q (.ref p) (upd H p (.lst (List.replicate k.toNat xs).flatten))
theorem len_rep {α : Type} (xs : List α) (k : Nat) : (List.replicate k xs).flatten.length = k * xs.length := by
  induction k with
  | zero => simp
  | succ k ih => rw [List.replicate_succ, List.flatten_cons, List.length_append, ih, Nat.succ_mul, Nat.add_comm]
theorem op_rep : OpR X (binaryOp .Mult) rRep := by
  intro pins s σ H x y v u Q I rx ry h
  obtain ⟨l, k, xs, rfl, rfl, hH, h1, h2, hz, q⟩ := h
  cases rx
  obtain ⟨t, rfl⟩ := ry
  obtain ⟨z, its, n, r, hl, e⟩ := I.lstM hH
  have hlen : its.toArray.size * k.toNat ≤ sizeLine := by rw [List.size_toArray, ← hl]; exact hz
  have hcap : ¬ its.toArray.size * k.toNat > (2 ^ 63 - 1) / 8 := by
    have : (sizeLine : Nat) ≤ (2 ^ 63 - 1) / 8 := by decide
    omega
  have hfit : ¬ (!Builtin.List.listFitsIndex k) = true := by
    rw [fitsIndex_both h1 h2]
    exact Bool.false_ne_true
  have hlong : ¬ Builtin.List.listTooLong (its.toArray.size * k.toNat) = true := by
    rw [notLongL hlen]
    exact Bool.false_ne_true
  have hnew : List.foldl (fun x1 x2 => x1 ++ x2) #[] (List.replicate (if its.toArray.isEmpty = true then 0 else k.toNat) its.toArray) = (List.replicate k.toNat its).flatten.toArray := by
    have f0 : ∀ m : Nat, List.foldl (fun x1 x2 => x1 ++ x2) #[] (List.replicate m its.toArray) = (List.replicate m its).flatten.toArray := fun m => by
      have := foldl_rep its m []
      rw [List.nil_append] at this
      exact this
    rw [f0]
    cases its with
    | nil => simp
    | cons a r' => rw [if_neg (by simp)]
  refine wpAny_binaryOp_repeat_ref (T := "list") (U := "int") (by decide) ⟨_, e, rfl⟩ (fun s' => typeIs_int s' k t) noFill_list_mul F.fills_int_mul F.slot_int_rmul repeat_list F.slot_int_index.lookup
    (call_meets F.slot_int_rmul (typeIs_int s k t) F.entry_int_rmul (F.args_int_rmul_2 _ _) (int___rmul___int_list k t l its.toArray n)
      ⟨e, rfl, ⟨_, e, rfl⟩, call_meets F.slot_list_mul ⟨_, e, rfl⟩ F.entry_list_mul (F.args_list_mul_2 _ _) (AutoListH.list___mul___list_int_3 l its.toArray n k t hfit hcap hlong) ⟨e, ?_⟩⟩)
  rw [hnew]
  exact ⟨.ref _, _, I.lnew (t' := s.toks) (r.rep k.toNat) (by rw [len_rep, Nat.mul_comm]; exact hz), rfl, q _ I.fresh⟩
end
section
variable {prog : Program} {w : World} {A : Around} {E : Value → Shared → Prop} {s : Shared}
end
section
variable {X : Cx}
end
end L2
namespace L2
open PySem PySem.Spec PyProof.Rows
section
variable {κ : Type} [DecidableEq κ]
def valV (kvs : List (κ × V)) (k : κ) : Option V := (kvs.find? fun kv => decide (kv.1 = k)).map (·.2)
def putK (kvs : List (κ × V)) (k : κ) (v : V) : List (κ × V) :=
  if (kvs.any fun kv => decide (kv.1 = k)) = true then kvs.map (fun kv => if kv.1 = k then (kv.1, v) else kv) else kvs ++ [(k, v)]
def dropK (kvs : List (κ × V)) (k : κ) : List (κ × V) := kvs.filter fun kv => decide (kv.1 ≠ k)
theorem valV_pos {p : κ × V} {r : List (κ × V)} {k : κ} (e : p.1 = k) : valV (p :: r) k = some p.2 := by simp [valV, List.find?_cons, e]
theorem valV_neg {p : κ × V} {r : List (κ × V)} {k : κ} (e : ¬ p.1 = k) : valV (p :: r) k = valV r k := by simp [valV, List.find?_cons, e]
theorem length_putK (kvs : List (κ × V)) (k : κ) (v : V) : (putK kvs k v).length ≤ kvs.length + 1 := by
  unfold putK
  split
  · rw [List.length_map]; omega
  · rw [List.length_append, List.length_cons, List.length_nil]; omega
theorem RelO.isSome_eq {o : Option V} {u : Option Value} (r : RelO o u) : o.isSome = u.isSome := by
  cases o with
  | none => cases u with
    | none => rfl
    | some _ => exact (show False from r).elim
  | some _ => cases u with
    | none => exact (show False from r).elim
    | some _ => rfl
theorem RelO.getD {o : Option V} {u : Option Value} {d : V} {d' : Value} (r : RelO o u) (rd : RelV d d') : RelV (o.getD d) (u.getD d') := by
  cases o with
  | none => cases u with
    | none => exact rd
    | some _ => exact (show False from r).elim
  | some _ => cases u with
    | none => exact (show False from r).elim
    | some _ => exact r
theorem KV.val {kvs : List (κ × V)} {vs : List (κ × Value)} (r : KV kvs vs) (k : κ) : RelO (valV kvs k) (valueAt vs k) := by
  unfold KV at r
  induction r with
  | nil => exact True.intro
  | @cons p q ps qs h t ih =>
    obtain ⟨h1, h2⟩ := h
    by_cases e : p.1 = k
    · have e' : q.1 = k := h1.symm.trans e
      have b : valueAt (q :: qs) k = some q.2 := by simp [valueAt, List.find?_cons, e']
      rw [valV_pos e, b]; exact h2
    · have e' : ¬ q.1 = k := fun z => e (h1.trans z)
      have b : valueAt (q :: qs) k = valueAt qs k := by simp [valueAt, List.find?_cons, e']
      rw [valV_neg e, b]; exact ih
theorem KV.any {kvs : List (κ × V)} {vs : List (κ × Value)} (r : KV kvs vs) (k : κ) : (kvs.any fun kv => decide (kv.1 = k)) = vs.any fun kv => decide (kv.1 = k) := by
  unfold KV at r
  induction r with
  | nil => rfl
  | cons h t ih => rw [List.any_cons, List.any_cons, ih, h.1]
theorem KV.repl {kvs : List (κ × V)} {vs : List (κ × Value)} (r : KV kvs vs) (k : κ) {y : V} {u : Value} (ry : RelV y u) :
    KV (kvs.map fun kv => if kv.1 = k then (kv.1, y) else kv) (vs.map fun kv => if kv.1 = k then (kv.1, u) else kv) := by
  unfold KV at r ⊢
  induction r with
  | nil => exact .nil
  | @cons p q ps qs h t ih =>
    rw [List.map_cons, List.map_cons]
    refine .cons ?_ ih
    obtain ⟨h1, h2⟩ := h
    by_cases e : p.1 = k
    · rw [if_pos e, if_pos (h1.symm.trans e)]; exact ⟨h1, ry⟩
    · rw [if_neg e, if_neg (fun z => e (h1.trans z))]; exact ⟨h1, h2⟩
theorem KV.put {kvs : List (κ × V)} {vs : List (κ × Value)} (r : KV kvs vs) (k : κ) {y : V} {u : Value} (ry : RelV y u) : KV (putK kvs k y) (stored vs k u) := by
  unfold putK stored
  rw [r.any k]
  by_cases e : (vs.any fun kv => decide (kv.1 = k)) = true
  · rw [if_pos e, if_pos e]; exact r.repl k ry
  · rw [if_neg e, if_neg e]; exact Paired.snoc r ⟨rfl, ry⟩
end
theorem kV_is {P : Program} {w : World} {k : Key} {u : Value} (r : RelV (kV k) u) : (mixKind P w).is k u = true := by
  cases k with
  | inl i => obtain ⟨t, e⟩ := (show ∃ t, u = Value.int i t from r); subst e; exact mixKind_int P w i t
  | inr x => obtain ⟨t, e⟩ := (show ∃ t, u = Value.str x t from r); subst e; exact mixKind_str P w x t
theorem items_are {P : Program} {w : World} : ∀ {ks : List Key} {us : List Value}, Vals (ks.map kV) us → ItemsAre (mixKind P w) ks us
  | [], _, r => by rw [List.map_nil] at r; cases r; exact .nil
  | k :: ks, _, r => by
    rw [List.map_cons] at r
    cases r with
    | cons h t => exact .cons (kV_is h) (items_are t)
abbrev KT (H : Hp) : List (List Key × V) → List (List Key × Addr × Value) → Prop := Paired fun p q => p.1 = q.1 ∧ H q.2.1 = some (.tup (p.1.map kV)) ∧ RelV p.2 q.2.2
theorem KT.val {H : Hp} {kvs : List (List Key × V)} {xs : List (List Key × Addr × Value)} (r : KT H kvs xs) (k : List Key) : RelO (valV kvs k) ((atKey xs k).map (·.2)) := by
  induction r with
  | nil => exact True.intro
  | @cons p q ps qs h t ih =>
    obtain ⟨h1, _, h2⟩ := h
    by_cases e : p.1 = k
    · have e' : q.1 = k := h1.symm.trans e
      have b : atKey (q :: qs) k = some q.2 := by simp [atKey, List.find?_cons, e']
      rw [valV_pos e, b]; exact h2
    · have e' : ¬ q.1 = k := fun z => e (h1.trans z)
      have b : atKey (q :: qs) k = atKey qs k := by simp [atKey, List.find?_cons, e']
      rw [valV_neg e, b]; exact ih
section
variable {P : Program} {w : World} {H : Hp} {h : Heap} {a : Addr}
theorem rd_of {u : HO} (ok : HOk P w H h) (e : Rd H a u) : ObjOk P w H h a u := e.ok ok
theorem dk_rd {kvs : List (Key × V)} (ok : HOk P w H h) (e : Rd H a (.dK kvs)) : kvs.length ≤ sizeLine ∧ (a == sysModules) = false ∧ ∃ vs, KV kvs vs ∧ h.DictOf (mixKind P w) a vs :=
  show ObjOk P w H h a (.dK kvs) from rd_of ok e
theorem dk_of {kvs : List (Key × V)} (ok : HOk P w H h) (e : H a = some (.dK kvs)) : kvs.length ≤ sizeLine ∧ (a == sysModules) = false ∧ ∃ vs, KV kvs vs ∧ h.DictOf (mixKind P w) a vs := dk_rd ok (.inl e)
theorem key_of {ks : List Key} (ok : HOk P w H h) (e : H a = some (.tup (ks.map kV))) : (tupleKind (mixKind P w)).is h ks a := by
  obtain ⟨_, its, r, o, h1, h2, n, h3⟩ := (show ObjOk P w H h a (.tup (ks.map kV)) from ok a _ e)
  exact ⟨o, its.toArray, n, h1, h2, h3, by simpa using items_are r⟩
theorem dt_rd {kvs : List (List Key × V)} (ok : HOk P w H h) (e : Rd H a (.dT kvs)) : kvs.length ≤ sizeLine ∧ (a == sysModules) = false ∧
    ∃ xs, KT H kvs xs ∧ h.DictOfH (tupleKind (mixKind P w)) a xs := by
  obtain ⟨z, y, xs, r, o, es, ep, h1, h2, h3, h4, h5⟩ := (show ObjOk P w H h a (.dT kvs) from rd_of ok e)
  refine ⟨z, y, xs, r, o, es, ep, h1, h2, h3, h4, fun x hx => ?_, h5⟩
  have all : ∀ {l : List (List Key × V)} {m : List (List Key × Addr × Value)}, KT H l m → ∀ x ∈ m, (tupleKind (mixKind P w)).is h x.1 x.2.1 := by
    intro l m q
    induction q with
    | nil => intro x hx; exact nomatch hx
    | @cons p q ps qs hq t ih =>
      intro x hx
      rcases List.mem_cons.mp hx with e | hx
      · subst e
        exact key_of ok (by rw [← hq.1]; exact hq.2.1)
      · exact ih x hx
  exact all r x hx
end
def DGet (H : Hp) (a : Addr) (y : V) (r : Option V) : Prop :=
  (∃ kvs k, Rd H a (.dK kvs) ∧ y = kV k ∧ r = valV kvs k) ∨ ∃ kvs k b, Rd H a (.dT kvs) ∧ y = .ref b ∧ H b = some (.tup (k.map kV)) ∧ r = valV kvs k
def DPut (H : Hp) (a : Addr) (y v : V) (H' : Hp) : Prop :=
  (∃ kvs k, H a = some (.dK kvs) ∧ y = kV k ∧ kvs.length < sizeLine ∧ H' = upd H a (.dK (putK kvs k v))) ∨
  ∃ kvs k b, H a = some (.dT kvs) ∧ y = .ref b ∧ H b = some (.tup (k.map kV)) ∧ kvs.length < sizeLine ∧ H' = upd H a (.dT (putK kvs k v))
theorem DGet.k {H : Hp} {a : Addr} {kvs : List (Key × V)} {k : Key} (e : H a = some (.dK kvs)) : DGet H a (kV k) (valV kvs k) := .inl ⟨kvs, k, .inl e, rfl, rfl⟩
section
variable {X : Cx} {pins : List (Addr × Obj)} {σ : St} {H : Hp} {s : Shared} {a : Addr} {y v : V} {u r : Value} {o : Option V} {A : Around} {E : Value → Shared → Prop}
theorem Inv.big (I : Inv X pins σ H s) : sysModules < s.heap.objs.size := by
  have h : mainGlobals < s.heap.objs.size := (I.mod.glob.keeps I.bk).lt
  exact Nat.lt_trans (by decide) h
theorem d_getItem {Q : Value → Shared → Prop} (hu : A.units + 1 < cLine) (I : Inv X pins σ H s) (g : DGet H a y (some v)) (ry : RelV y u) (h : ∀ w' s', Inv X pins σ H s' → RelV v w' → Q w' s') :
    wpAny (model X.prog X.w) A (getItem (.ref a) u) Q E s := by
  rcases g with ⟨kvs, k, e, ey, l⟩ | ⟨kvs, k, b, e, ey, eb, l⟩
  · subst ey
    obtain ⟨z, hd, vs, rel, dd⟩ := dk_rd I.hok e
    obtain ⟨w', hw, rw'⟩ := RelO.some_of (v := v) (o := valueAt vs k) (by rw [l]; exact rel.val k)
    exact wpAny_getItem_of (kV_is ry) dd.mapOf hw (h w' _ (I.tok _) rw')
  · subst ey
    cases (show u = Value.ref b from ry)
    obtain ⟨z, hd, xs, rel, dd⟩ := dt_rd I.hok e
    obtain ⟨w', hw, rw'⟩ := RelO.some_of (v := v) (o := (atKey xs k).map (·.2)) (by rw [l]; exact rel.val k)
    obtain ⟨p, hp, hp2⟩ := Option.map_eq_some_iff.mp hw
    refine wpAny_getItem_heap (tupleKind_room_in1 hu) (key_of I.hok eb) dd hp ?_
    rw [hp2]
    exact h w' _ (I.tok _) rw'
theorem d_write {h' : Heap} {t' : Nat} {ob : HO} (I : Inv X pins σ H s) (mu : Mut (H a)) (hs : Heap.SameBut a s.heap h') (he : ∃ q, h'.get? a = some q) (new : ObjOk X.prog X.w (upd H a ob) h' a ob) :
    Inv X pins σ (upd H a ob) { s with heap := h', toks := t' } :=
  I.write (x := a) (e := a) mu (.inl rfl) (fun b q hb z => (hs.2 b hb).trans z) he new
theorem dk_new {P : Program} {w : World} {H' : Hp} {h' : Heap} {kvs : List (Key × V)} {vs : List (Key × Value)} (z : kvs.length ≤ sizeLine) (hd : (a == sysModules) = false) (rel : KV kvs vs) (dd : h'.DictOf (mixKind P w) a vs) :
    ObjOk P w H' h' a (.dK kvs) := ⟨z, hd, vs, rel, dd⟩
end
section
variable {X : Cx} {pins : List (Addr × Obj)} {σ : St} {H : Hp} {s : Shared} {a : Addr} {kvs : List (Key × V)} {k : Key} {u : Value} {A : Around} {E : Value → Shared → Prop}
end
def NoSl (i : Expr) : Prop := ∀ ov iv, subscripted i false ov iv = operate [ov, iv] (getItem ov iv)
theorem subD_of {prog : Program} {w : World} {A : Around} {E : Value → Shared → Prop} {s : Shared} {env : Env} {value slice : Expr} {pos : Pos} {T id : String} {Q : Value → Shared → Prop}
    (hl : typeLookup (.type T) "__getitem__" = pure (some (.builtin id))) (hs : NoSl slice)
    (h : wpAny (model prog w) A (eval value env) (fun o s₁ => wpAny (model prog w) A (eval slice env) (fun i s₂ => s₂.TypeIs o T ∧ wpAny (model prog w) A (getItem o i) Q E s₂) E s₁) E s) :
    wpAny (model prog w) A (eval (.Subscript value slice pos) env) Q E s := by
  refine Subscript_ (wpAny_mono h (fun o s₁ h₁ => wpAny_mono h₁ (fun i s₂ h₂ => ?_) fun _ _ x => x) fun _ _ x => x)
  obtain ⟨hT, h₂⟩ := h₂
  unfold subscriptTail
  refine wpAny_bind ?_
  rw [getitemInPython_of_ne hT.not_modules]
  refine wpAny_bind (wpAny_specialOf hT hl ?_)
  have fin : wpAny (model prog w) A (subscripted slice false o i) (fun r s₃ => wpAny (model prog w) A (letTemporaryGo value o r >>= fun _ => pure r) Q E s₃) E s₂ := by
    rw [hs o i]
    exact wpAny_operating (wpAny_mono h₂ (fun r s₃ h₃ => wpAny_bind (wpAny_letTemporaryGo (wpAny_pure h₃))) fun _ _ x => x)
  first
    | exact wpAny_pure (wpAny_bind fin)
    | exact wpAny_bind (wpAny_pure (wpAny_bind fin))
    | exact wpAny_bind fin
theorem dict_typeIs {X : Cx} {pins : List (Addr × Obj)} {σ : St} {H : Hp} {s : Shared} {a : Addr} {y : V} {o : Option V} (I : Inv X pins σ H s) (g : DGet H a y o) : s.TypeIs (.ref a) "dict" := by
  rcases g with ⟨kvs, k, e, _, _⟩ | ⟨kvs, k, b, e, _, _, _⟩
  · obtain ⟨_, _, vs, _, dd⟩ := dk_rd I.hok e
    exact dd.typeIs
  · obtain ⟨_, _, xs, _, dd⟩ := dt_rd I.hok e
    exact dd.typeIs
section
variable {X : Cx} {o i e value : Expr} {pos pos' tpos : Pos} {td ty tv : TE}
end
theorem dk_empty {P : Program} {w : World} {H : Hp} (h : Heap) (hb : sysModules < h.objs.size) : ObjOk P w H (h.push { cls := .type "dict", data := .dict #[] }) h.objs.size (.dK []) :=
  ⟨Nat.zero_le _, beq_eq_false_iff_ne.mpr (Ne.symm (Nat.ne_of_lt hb)), [], .nil, Heap.DictOf.new h⟩
def tDNewK : TE := fun _ H Q => ∀ p, H p = none → Q (.ref p) (upd H p (.dK []))
section
variable {X : Cx} {pos : Pos}
end
def tPairs : List (TE × TE) → St → Hp → (List (V × V) → Hp → Prop) → Prop
  | [], _, H, Q => Q [] H
  | (tk, tv) :: r, σ, H, Q => tk σ H fun x H1 => tv σ H1 fun y H2 => tPairs r σ H2 fun ps H3 => Q ((x, y) :: ps) H3
abbrev VV : List (V × V) → List (Value × Value) → Prop := Paired fun p q => RelV p.1 q.1 ∧ RelV p.2 q.2
def PPs (X : Cx) (pos : Pos) (keys : List (Option Expr)) (values : List Expr) (trs : List (TE × TE)) : Prop :=
  ∀ (pins : List (Addr × Obj)) (s : Shared) (σ : St) (H : Hp) (Q : List (V × V) → Hp → Prop), Inv X pins σ H s → tPairs trs σ H Q →
    wpAny (model X.prog X.w) X.A (evalPairs (pairTrees keys values X.env pos)) (fun vs s' => ∃ ps H', Inv X pins σ H' s' ∧ VV ps vs ∧ Q ps H') X.xe s
theorem pps_nil {X : Cx} {pos : Pos} : PPs X pos [] [] [] := fun pins s σ H Q I h => pairTrees_nil_walk ⟨[], H, I, .nil, h⟩
theorem pps_cons {X : Cx} {pos : Pos} {k v : Expr} {ks : List (Option Expr)} {vs : List Expr} {tk tv : TE} {trs : List (TE × TE)} (hk : PE X k tk) (hv : PE X v tv) (hr : PPs X pos ks vs trs) :
    PPs X pos (some k :: ks) (v :: vs) ((tk, tv) :: trs) := fun pins s σ H Q I h =>
  pairTrees_cons_walk (thn (hk pins s σ H _ I h) fun u s1 ⟨x, H1, I1, rx, q1⟩ => thn (hv pins s1 σ H1 _ I1 q1) fun w2 s2 ⟨y, H2, I2, ry, q2⟩ =>
    thn (hr pins s2 σ H2 _ I2 q2) fun ws s3 ⟨ps, H3, I3, rel, q3⟩ => ⟨(x, y) :: ps, H3, I3, .cons ⟨rx, ry⟩ rel, q3⟩)
def mergeK (kvs more : List (Key × V)) : List (Key × V) := more.foldl (fun acc kv => putK acc kv.1 kv.2) kvs
theorem KV.merge : ∀ {more : List (Key × V)} {rs : List (Key × Value)} {kvs : List (Key × V)} {vs : List (Key × Value)}, KV more rs → KV kvs vs → KV (mergeK kvs more) (merged vs rs) := by
  intro more rs kvs vs r
  unfold KV at r
  induction r generalizing kvs vs with
  | nil => intro q; exact q
  | @cons p q ps qs h t ih =>
    intro r0
    have e : KV (putK kvs p.1 p.2) (stored vs q.1 q.2) := by
      have := r0.put p.1 h.2
      rw [← h.1]; exact this
    exact ih e
theorem length_mergeK : ∀ (more kvs : List (Key × V)), (mergeK kvs more).length ≤ kvs.length + more.length
  | [], kvs => by show kvs.length ≤ kvs.length + 0; omega
  | p :: r, kvs => by
    have h1 := length_mergeK r (putK kvs p.1 p.2)
    have h2 := length_putK kvs p.1 p.2
    show (mergeK (putK kvs p.1 p.2) r).length ≤ _
    rw [List.length_cons]; omega
theorem carries_of {P : Program} {w : World} : ∀ {kvs : List (Key × V)} {ws : List (Value × Value)}, VV (kvs.map fun kv => (kV kv.1, kv.2)) ws → ∃ rs, Carries (mixKind P w) ws rs ∧ KV kvs rs
  | [], _, r => by rw [List.map_nil] at r; cases r; exact ⟨[], True.intro, .nil⟩
  | p :: kvs, _, r => by
    rw [List.map_cons] at r
    cases r with
    | @cons a b as bs h t =>
      obtain ⟨rs, c, q⟩ := carries_of (P := P) (w := w) t
      obtain ⟨b1, b2⟩ := b
      exact ⟨(p.1, b2) :: rs, ⟨kV_is h.1, rfl, c⟩, .cons ⟨rfl, h.2⟩ q⟩
structure M1 (X : Cx) (o : Expr) (m : Str) (apos : Pos) (e : Expr) (cpos : Pos) : Prop where
  base : attributeBase o m X.env (eval o X.env) = eval o X.env
  few : ((backTo cpos (starEach [e] X.env)).all (fun x => !x.1) && (backToKw cpos (keywordEach [] X.env)).all (fun x => x.1.isSome)
    && decide (([e] : List Expr).length + ([] : List Keyword).length + (if ([] : List Keyword).isEmpty then 0 else 1) < 30)) = true
  line : (apos.endLine == cpos.line) = true
  trees : backTo cpos (starEach [e] X.env) = [(false, eval e X.env)]
structure M2 (X : Cx) (o : Expr) (m : Str) (apos : Pos) (e f : Expr) (cpos : Pos) : Prop where
  base : attributeBase o m X.env (eval o X.env) = eval o X.env
  few : ((backTo cpos (starEach [e, f] X.env)).all (fun x => !x.1) && (backToKw cpos (keywordEach [] X.env)).all (fun x => x.1.isSome)
    && decide (([e, f] : List Expr).length + ([] : List Keyword).length + (if ([] : List Keyword).isEmpty then 0 else 1) < 30)) = true
  line : (apos.endLine == cpos.line) = true
  trees : backTo cpos (starEach [e, f] X.env) = [(false, eval e X.env), (false, eval f X.env)]
section
variable {X : Cx} {pins : List (Addr × Obj)} {σ : St} {H : Hp} {s : Shared} {a : Addr} {y d : V} {u r : Value} {o : Option V} {A : Around} {E : Value → Shared → Prop}
end
section
variable {X : Cx} {o e f : Expr} {apos cpos : Pos} {td ty tx : TE}
end
section
variable {X : Cx} {pins : List (Addr × Obj)} {σ : St} {H : Hp} {s : Shared} {a : Addr} {kvs : List (Key × V)} {A : Around} {E : Value → Shared → Prop}
end
section
variable {X : Cx} {pins : List (Addr × Obj)} {σ : St} {H : Hp} {s : Shared} {a : Addr} {y : V} {u : Value} {A : Around} {E : Value → Shared → Prop}
end
end L2
namespace Att
open PySem PySem.W PySem.Calls PyProof.Rows
theorem ints_of_wellAll {P : Params} {h : Heap} : ∀ (ns : List Int) (vs : List Value), WellAll P h vs (ns.map WData.int) → IntsAre vs ns := by
  intro ns
  induction ns with
  | nil =>
    intro vs w
    rw [List.map_nil] at w
    cases w
    exact .nil
  | cons n ns ih =>
    intro vs w
    rw [List.map_cons] at w
    cases w with
    | cons a b =>
      cases a
      exact .cons _ _ (ih _ b)
theorem script_of {l : OpenLaw} {n : Nat} (hn : l.most = some n) {P : Params} {h : Heap} {args : List WData} {vals : List Value}
    (hpre : l.row.toRowW.claim.pre args = true) (hwl : WellAll P h vals args) :
    ∃ a vs ns, vals = [Value.ref a] ∧ args = [WData.list (ns.map WData.int)] ∧ h.get? a = some { cls := .type "list", data := .seq vs.toArray } ∧ IntsAre vs ns ∧ ns.length ≤ n := by
  have hsh : WShape.hasAll [] args [.list .int] = true := (pre_splitW hpre).1
  have hc : l.pre.holds [] { args := args } = true := (pre_splitW hpre).2
  obtain ⟨d, r, rfl, h1, h2⟩ := hasAllW_cons hsh
  obtain rfl := hasAllW_nil h2
  obtain ⟨xs, rfl, h3⟩ := hasW_list h1
  obtain ⟨ns, rfl⟩ := items_int h3
  have hlen : ns.length ≤ n := by
    unfold OpenLaw.pre at hc
    have h4 : (WTm.not (.lt (.lit (.int (n : Int))) (.len (.arg 0)))).holds [] { args := [.list (ns.map .int)] } = true := by
      have h4 := (holds_andW hc).1
      rw [hn] at h4
      exact h4
    have h5 := condW_of h4 (w_not (w_lt w_lit (w_len_list (w_arg rfl))))
    rw [List.length_map] at h5
    refine Nat.le_of_not_lt fun q => ?_
    have q' : (n : Int) < ((ns.length : Nat) : Int) := by omega
    first
      | (rw [decide_eq_true q'] at h5; exact absurd h5 (by decide))
      | (simp at h5; omega)
  cases hwl with
  | cons w1 w2 =>
    cases w2
    cases w1 with
    | list ho hall => exact ⟨_, _, ns, rfl, rfl, ho, ints_of_wellAll ns _ hall, hlen⟩
theorem post_true (l : OpenLaw) (args : List WData) : l.row.toRowW.claim.post args (.bool true) args = true :=
  postW_of (r := l.row.toRowW) (X := (true == true))
    (show WShape.has [] (.bool true) .bool = true by first | rfl | decide | simp [WShape.has, WShape.arms, WShape.armsAll])
    (show (WTm.eq .res (.lit (.bool true))).value [] { args := args, res := some (.bool true), after := args } = some (.bool (true == true)) from w_eq_bool (w_res rfl) w_lit) rfl
theorem attach_call {l : OpenLaw} {n : Nat} {q : Program} {loose : List Str} {XP : (Str → Option Value) → Heap → Prop} {YP : World → Heap → Prop} {d : DefRec}
    (hn : l.most = some n) (hdf : d.params.defaults = [])
    (call : ∀ (w : World) (s₀ s₁ : Shared) (mg mb : Str → Option Value) (fa : Addr) (o : Obj) (pm cd doc : Value) (a : Addr) (vs : List Value) (ns : List Int),
      Ground q loose [] XP w s₀ mg mb s₁.heap → YP w s₁.heap →
      s₁.heap.get? fa = some o → o.data = .func (docDef d.name d.params d.body d.scope pm cd doc) → s₁.heap.CodeRec cd d.name → mg d.name = some (.ref fa) →
      s₁.heap.get? a = some { cls := .type "list", data := .seq vs.toArray } → IntsAre vs ns → ns.length ≤ n → s₁.gens = #[] →
      codeAny (model l.prog w) callerA (.call (.ref fa) ⟨[.ref a], []⟩) (fun r s' => r = .ok (.ret (.bool true)) ∧ OldK s₁.heap s'.heap ∧ s'.os = s₁.os ∧ AllBare s'.gens) s₁) :
    WalkO q loose XP YP l.row.toRowW d [] (fun f vs => PySem.call f vs) := by
  intro w s₀ s₁ mg mb G Y fa o pm cd doc dV kV ho hd hcd hD hmg hg args vals as hpre hlay hrd hwl hlo
  obtain rfl : dV = .none := Dflts.none hD hdf
  obtain rfl : kV = .none := Dflts.noKw hD
  obtain ⟨a, vs, ns, rfl, rfl, hobj, hints, hlen⟩ := script_of hn hpre hwl
  refine enter_call (codeAny_mono (call w s₀ s₁ mg mb fa o pm cd doc a vs ns G Y ho (fd_plain hd) hcd hmg hobj hints hlen hg) fun r s' hq => ?_)
  obtain ⟨rfl, h2, h3, h4⟩ := hq
  exact ⟨.inl ⟨.bool true, .bool true, [], rfl, fun _ => rfl, .bool true, post_true l _, fun _ => ⟨List.Pairwise.nil, fun _ hm => (nomatch hm)⟩⟩, h2, h3, h4⟩
section
variable {prog : Program} {w : World} {A : Around} {E : Value → Shared → Prop} {s : Shared} {K : Frag}
end
end Att
namespace L2
open PySem PySem.Spec PyProof.Rows
theorem vals_ints : ∀ {vs : List Value} {ns : List Int}, IntsAre vs ns → Vals (ns.map V.int) vs
  | _, _, .nil => .nil
  | _, _, .cons n t h => .cons ⟨t, rfl⟩ (vals_ints h)
def Only (H : Hp) : Prop := ∀ b, H b = none ∨ ∃ o xs, H b = some (.frz o (.lst xs))
theorem law_call {P : Program} {w : World} {K : PySem.W.Frag} {mg mb : Str → Option Value} {CX : CXT} {k : Nat} {fa a : Addr} {fd : FuncData} {x : Str} {sp : Sp} {s₁ : Shared} {vs : List Value} {ns : List Int}
    (KX : K.In s₁.heap) (hns : s₁.heap.Ns mainGlobals mg) (hb : s₁.heap.Ns builtinsNs mb) (hbb : ∀ x : Str, x ≠ "__name__" → mb x = bootBuiltins x) (hlim : s₁.heap.NoLimit) (hg : s₁.gens = #[])
    (ha : s₁.heap.get? a = some { cls := .type "list", data := .seq vs.toArray }) (hi : IntsAre vs ns) (hl : ns.length ≤ sizeLine) (hr : Room k callerA)
    (F : ∀ base : Heap, K.In base → base.Ns mainGlobals mg → FnOk P w K mg base CX k fa fd [x] sp) (hbind : ∀ (s : Shared) (u : Value), BindsTo s fd ⟨[u], []⟩ [(x, u)])
    (hsp : ∀ H : Hp, Only H → SqL K H a (ns.map V.int) → sp [.ref a] H (fun v _ => v = .bl true) fun _ _ _ => False)
    (hCX : ∀ H e s', CX [] H s₁ (fun _ _ _ => False) e s' → False) :
    codeAny (model P w) callerA (.call (.ref fa) ⟨[.ref a], []⟩) (fun r s' => r = .ok (.ret (.bool true)) ∧ OldK s₁.heap s'.heap ∧ s'.os = s₁.os ∧ AllBare s'.gens) s₁ := by
  have rv := vals_ints hi
  have lenV := hi.length
  -- from an abstract heap in which nothing but the script may be tracked
  have core : ∀ H : Hp, Only H → SqL K H a (ns.map V.int) → HOk P w H s₁.heap → (∀ b, H b ≠ none → b = a) → (H a ≠ none → K.lookup a = none) →
      codeAny (model P w) callerA (.call (.ref fa) ⟨[.ref a], []⟩) (fun r s' => r = .ok (.ret (.bool true)) ∧ OldK s₁.heap s'.heap ∧ s'.os = s₁.os ∧ AllBare s'.gens) s₁ := by
    intro H hO hS hok hA hK
    have base_of : ∀ {b : Addr} {o : Obj}, s₁.heap.get? b = some o → H b = none → (hidT s₁.heap H).get? b = some o := fun e n => hidT_get e n
    have noA : ∀ {b : Addr} {o : Obj} {es : Array DictEntry} {ep : Nat}, s₁.heap.get? b = some o → o.data = .dict es ep → H b = none := fun {b o es ep} e d => by
      cases q : H b with
      | none => rfl
      | some u =>
        have e' : b = a := hA b (by rw [q]; simp)
        subst e'
        rw [ha] at e; cases e
        have d' : Data.seq vs.toArray _ = Data.dict es ep := d
        cases d'
    have nsK : ∀ {b : Addr} {m : Str → Option Value}, s₁.heap.Ns b m → (hidT s₁.heap H).Ns b m := fun {b m} ⟨o, es, ep, e, d, r⟩ => ⟨o, es, ep, base_of e (noA e d), d, r⟩
    have hKb : K.In (hidT s₁.heap H) := fun b o e => base_of (KX b o e) (by
      cases q : H b with
      | none => rfl
      | some u =>
        have e' : b = a := hA b (by rw [q]; simp)
        subst e'
        rw [hK (by rw [q]; simp)] at e; cases e)
    have hM : Mod K mg (hidT s₁.heap H) := ⟨hKb, nsK hns, ⟨mb, nsK hb, hbb⟩, let ⟨mc, h1, h2⟩ := hlim; ⟨mc, nsK h1, h2⟩⟩
    have e0 : Env0 P w K mg (hidT s₁.heap H) callerA [] s₁ H := ⟨rfl, hM, fun b o e => of_hidT e, Nat.le_of_eq (hidT_size _ _), trivial, fun b hb => absurd (show b ∈ ([] : List Addr) from hb) (by simp), hok, .of_eq hg⟩
    refine codeAny_mono ((F _ hKb (nsK hns)).run callerA [] s₁ H ⟨[.ref a], []⟩ [.ref a] [.ref a] _ _ hr e0 (hbind s₁ (.ref a)) (.cons rfl .nil) (hsp H hO hS)) fun r s' h => ?_
    cases r with
    | error e => exact (hCX H e s' h).elim
    | ok fl =>
      cases fl with
      | next => exact False.elim h
      | brk => exact False.elim h
      | cont => exact False.elim h
      | ret u =>
        obtain ⟨v, H', os, bare, un, hok', r', q⟩ := h
        have q' : v = .bl true := q
        subst q'
        obtain rfl : u = Value.bool true := r'
        refine ⟨rfl, OldK.of_keep fun b o e => ?_, os, bare⟩
        cases q : H b with
        | none => exact un.keep b o e q (by intro z; exact absurd (show b ∈ ([] : List Addr) from z) (by simp)) (by simp)
        | some u =>
          rcases hO b with z | ⟨ob, xs, z⟩
          · rw [q] at z; cases z
          · have z2 := un.frzs b ob _ z
            obtain ⟨e1, _⟩ := hok b _ z
            obtain ⟨e2, _⟩ := hok' b _ z2
            rw [e] at e1; cases e1
            exact e2
  cases hk : K.lookup a with
  | some o =>
    -- the script is one of the module's own objects
    have e := KX a o hk
    rw [ha] at e
    cases e
    refine core (fun _ => none) (fun _ => .inl rfl) (.inr ⟨_, vs.toArray, _, hk, rfl, rfl, rfl, by rw [List.size_toArray, lenV]; exact hl, by simpa using rv⟩) (fun b u z => by have z' : (none : Option HO) = some u := z; cases z') (fun b z => absurd rfl z) fun z => absurd rfl z
  | none =>
    refine core (fun b => if b = a then some (.frz { cls := .type "list", data := .seq vs.toArray } (.lst (ns.map V.int))) else none) (fun b => ?_) (.inl (.inr ⟨{ cls := .type "list", data := .seq vs.toArray }, if_pos rfl⟩)) (fun b u z => ?_) (fun b z => ?_) fun _ => hk
    · by_cases hb : b = a
      · exact .inr ⟨_, _, if_pos hb⟩
      · exact .inl (if_neg hb)
    · by_cases hb : b = a
      · have z' := (if_pos hb).symm.trans z
        cases z'
        subst hb
        exact ⟨ha, by rw [List.length_map]; exact hl, vs, _, rv, ha⟩
      · have z' := (if_neg hb).symm.trans z
        cases z'
    · by_cases hb : b = a
      · exact hb
      · exact absurd (if_neg hb) z
end L2
namespace L2
open PySem PySem.Spec PyProof.Rows
end L2
/- THE LAST THEOREM (shape; LID, My.* are yours):
   My.Adr: a structure of the addresses that your layer names (classes, functions); My.Txt K t: a structure (Prop) of the equations over K;
   My.txt_mk : {K} {implicit addresses ..} (e1 : nsIn K mainGlobals "law" = some (some (.ref f))) (e2 : K.lookup f = some ⟨oc, od, .func (fnOf "law" "law" params body scope dV kV doc pm an cdv ct), sl⟩) (e3 : codeIn K cdv "law" = true) .. : ∃ t, My.Txt K t
set_option maxRecDepth 100000 in
set_option maxHeartbeats 0 in
theorem PySem.Challenge.cw_LID_holds : PySem.Challenge.rw_LID.Holds := by
  w_on; o_law; k_head; (case hw => w_witness2)
  k_fill
  refine L2.walk_of (l := PySem.Challenge.rw_LID) (n := 63) (k := 40) (x := "script") (CX := fun w => ..) (sp := fun _ => My.sp_law) rfl (by decide) rfl ⟨rfl, by decide, by decide⟩ (fun w h Y => PySem.W.kIn_of Y) ?F ?S ?C
  case F =>
    intro w mg fa h KX G hmg
    have T : ∃ t, My.Txt (L2.KOf KX) t := by
      dsimp only [L2.KOf]                          -- K must stand as «<heap const> w.params» for k_is
      refine' My.txt_mk ?e1 ?e2 ?e3 ..
      (case e1 => PySem.W.k_is)                    -- in the order: a name -> its address -> its object -> its parts
      (case e2 => PySem.W.k_is)
      ..
    obtain ⟨t, T⟩ := T
    have e0 := hmg.symm.trans (PySem.W.mg_of KX G T.law)
    cases e0                                       -- fa is the law's own address
    exact ⟨_, fun s u => .of_eq rfl, fun base kb nb => My.law_fn T kb nb⟩     -- if «.of_eq rfl» comes too early: refine' ⟨_, ?b, fun base kb nb => My.law_fn T kb nb⟩; exact fun s u => .of_eq rfl
  case S => exact fun w H a ns hl hO hS => ..
  case C => exact ..
(the tactic k_is has no namespace: write k_is) -/
namespace L2
open PySem PySem.Spec PyProof.Rows
def defArgs (s : Stmt) : Arguments := match s with
  | .FunctionDef _ a _ _ _ _ _ _ _ _ => a
  | _ => { posonlyargs := [], args := [], vararg := none, kwonlyargs := [], kw_defaults := [], kwarg := none, defaults := [] }
def defBody (s : Stmt) : List Stmt := match s with
  | .FunctionDef _ _ b _ _ _ _ _ _ _ => b
  | _ => []
def defScope (s : Stmt) : Scope := match s with
  | .FunctionDef _ _ _ _ _ _ sc _ _ _ => sc
  | _ => { kind := .function, names := [], isGenerator := false, isCoroutine := false }
abbrev CX0 : CXT := fun _ _ _ _ _ _ => False
abbrev E0 : XK := fun _ _ _ => False
theorem pass0 {X : Cx} : Passes CX0 X E0 := fun _ _ _ _ _ _ _ h => h.elim
structure Fun (K : PySem.W.Frag) (x qual : Str) (st : Stmt) (f : Addr) (fd : FuncData) : Prop where
  ex : ∃ (oc : Value) (od : Option Addr) (kV doc pm : Value) (an : Option Addr) (cdv ct : Value) (osl : Array (Option Value)),
    fd = PySem.W.fnOf x qual (defArgs st) (defBody st) (defScope st) .none kV doc pm an cdv ct ∧ K.lookup f = some ⟨oc, od, .func fd, osl⟩ ∧ PySem.W.codeIn K cdv qual = true
  kp : PySem.W.keepIn K (.ref f) = true
section
variable {P : Program} {w : World} {K : PySem.W.Frag} {mg : Str → Option Value} {base : Heap}
theorem Fun.ok {x qual : Str} {st : Stmt} {f : Addr} {fd : FuncData} {N ps : List Str} {k : Nat} {sp : Sp} (F : Fun K x qual st f fd) (S : FnScope N ps (defScope st)) (len : ∀ vs H Q E, sp vs H Q E → vs.length = ps.length)
    (hbody : ∀ (cdv : Value) (A : Around) (outer : List Env) (s : Shared) (H : Hp) (vs : List V) (Q : VK) (E : XK), Room k (A.deeper (envOfC qual (defScope st) s.heap.objs.size f cdv)) → sp vs H Q E →
      ∃ t, PSs (cxOf CX0 P w K mg base N qual (defScope st) f cdv A outer s H E).nox (defBody st) t ∧ t { nx := fun _ H' => Q .non H', rt := Q } (start N vs) H) : FnOk P w K mg base CX0 (k + 1) f fd ps sp := by
  obtain ⟨oc, od, kV, doc, pm, an, cdv, ct, osl, rfl, lk, hcd⟩ := F.ex
  refine fn_of lk hcd S len fun A outer s H vs Q E hr hsp => ?_
  obtain ⟨t, h, q⟩ := hbody cdv A outer s H vs Q E hr hsp
  exact ⟨t, h.nox, q⟩
end
theorem hu_of {A : Around} {k : Nat} (hr : Room k A) : A.units + 1 < cLine := Nat.lt_of_le_of_lt (Nat.add_le_add_left (by decide : 1 ≤ 64) _) hr.units
theorem small1000 {n : Nat} (h : n ≤ 1000) : n < sizeLine := Nat.lt_of_le_of_lt h (by decide)
section
variable {X : Cx}
theorem pv (i : Nat) {x : Str} {pos : Pos} (hN : X.N[i]? = some x := by rfl) (hv : Vis X.env.scope x := by first | exact Or.inl rfl | exact Or.inr (Or.inl rfl) | exact Or.inr (Or.inr rfl)) (hd : (x == ("__debug__" : Str)) = false := by decide)
    (hcd : (x == ("__classdict__" : Str)) = false := by decide) : PE X (.Name x pos) (tVar i) := pe_var hN hv hd hcd
end
theorem iteF {A B : Prop} (h : B) : if false = true then A else B := by
  rw [if_neg Bool.false_ne_true]
  exact h
theorem iteT {A B : Prop} (h : A) : if true = true then A else B := by
  rw [if_pos rfl]
  exact h
theorem ite2 {c A B : Prop} [Decidable c] (h1 : c → A) (h2 : ¬ c → B) : if c then A else B := by
  by_cases h : c
  · rw [if_pos h]
    exact h1 h
  · rw [if_neg h]
    exact h2 h
def Same (H H' : Hp) : Prop := ∀ b o, H b = some o → H' b = some o
theorem Same.refl (H : Hp) : Same H H := fun _ _ h => h
theorem Same.trans {H H1 H2 : Hp} (a : Same H H1) (b : Same H1 H2) : Same H H2 := fun c o h => b c o (a c o h)
theorem Same.free {H H' : Hp} (e : Same H H') {l : Addr} (h : H' l = Option.none) : H l = Option.none := by
  cases q : H l with
  | none => rfl
  | some o =>
    rw [e l o q] at h
    cases h
theorem Same.seq {K : PySem.W.Frag} {H H' : Hp} {a : Addr} {xs : List V} (e : Same H H') (h : SqL K H a xs) : SqL K H' a xs := by
  rcases h with (h | ⟨o, h⟩) | h
  · exact .inl (.inl (e _ _ h))
  · exact .inl (.inr ⟨o, e _ _ h⟩)
  · exact .inr h
section
variable {X : Cx}
end
section
variable {κ : Type} [DecidableEq κ]
end
end L2
set_option maxHeartbeats 4000000
namespace L2
open PySem PySem.Spec PyProof.Rows
mutual
inductive Rp (K : PySem.W.Frag) (H : Hp) : V → PyData → Prop
  | non : Rp K H .non .none
  | bl (b : Bool) : Rp K H (.bl b) (.bool b)
  | int (i : Int) : Rp K H (.int i) (.int i)
  | str (x : Str) : Rp K H (.str x) (.str x)
  | lst {a : Addr} {xs : List V} {ds : List PyData} : H a = some (.lst xs) → RpL K H xs ds → Rp K H (.ref a) (.list ds)
  | tup {a : Addr} {xs : List V} {ds : List PyData} : H a = some (.tup xs) → RpL K H xs ds → Rp K H (.ref a) (.tuple ds)
inductive RpL (K : PySem.W.Frag) (H : Hp) : List V → List PyData → Prop
  | nil : RpL K H [] []
  | cons {x : V} {d : PyData} {xs : List V} {ds : List PyData} : Rp K H x d → RpL K H xs ds → RpL K H (x :: xs) (d :: ds)
end
theorem Same.tupq {K : PySem.W.Frag} {H H' : Hp} {a : Addr} {xs : List V} (e : Same H H') (h : SqT K H a xs) : SqT K H' a xs := by
  rcases h with (h | ⟨o, h⟩) | h
  · exact .inl (.inl (e _ _ h))
  · exact .inl (.inr ⟨o, e _ _ h⟩)
  · exact .inr h
mutual
theorem Rp.mono {K : PySem.W.Frag} {H H' : Hp} (g : Same H H') : ∀ {v : V} {d : PyData}, Rp K H v d → Rp K H' v d
  | _, _, .non => .non
  | _, _, .bl b => .bl b
  | _, _, .int i => .int i
  | _, _, .str x => .str x
  | _, _, .lst h r => .lst (g _ _ h) (RpL.mono g r)
  | _, _, .tup h r => .tup (g _ _ h) (RpL.mono g r)
theorem RpL.mono {K : PySem.W.Frag} {H H' : Hp} (g : Same H H') : ∀ {vs : List V} {ds : List PyData}, RpL K H vs ds → RpL K H' vs ds
  | _, _, .nil => .nil
  | _, _, .cons h r => .cons (Rp.mono g h) (RpL.mono g r)
end
mutual
theorem Rp.reads {X : Cx} {pins : List (Addr × Obj)} {σ : St} {H : Hp} {s : Shared} (I : Inv X pins σ H s) : ∀ {v : V} {d : PyData} {u : Value}, Rp X.K H v d → RelV v u → ∃ as, Reads s.heap u d as
  | _, _, _, .non, r => by cases r; exact ⟨_, .none⟩
  | _, _, _, .bl b, r => by cases r; exact ⟨_, .bool b⟩
  | _, _, _, .int i, r => by obtain ⟨t, rfl⟩ := r; exact ⟨_, .int i t⟩
  | _, _, _, .str x, r => by obtain ⟨t, rfl⟩ := r; exact ⟨_, .str x t⟩
  | _, _, _, .lst h q, r => by
    cases r
    obtain ⟨its, rv, ⟨o, n, e, hc, hd, hs⟩, _⟩ := I.list (SqL.of h)
    obtain ⟨as, ra⟩ := RpL.reads I q rv
    exact ⟨_, .list e hc hs (by simpa using ra)⟩
  | _, _, _, .tup h q, r => by
    cases r
    obtain ⟨its, rv, ⟨o, e, hc, n, hs⟩, _⟩ := I.tuple (SqT.of h)
    obtain ⟨as, ra⟩ := RpL.reads I q rv
    exact ⟨_, .tuple e hc hs (by simpa using ra)⟩
theorem RpL.reads {X : Cx} {pins : List (Addr × Obj)} {σ : St} {H : Hp} {s : Shared} (I : Inv X pins σ H s) : ∀ {vs : List V} {ds : List PyData} {us : List Value}, RpL X.K H vs ds → Vals vs us → ∃ as, ReadsAll s.heap us ds as
  | _, _, _, .nil, .nil => ⟨_, .nil⟩
  | _, _, _, .cons h q, .cons r t => by
    obtain ⟨as, ra⟩ := Rp.reads I h r
    obtain ⟨bs, rb⟩ := RpL.reads I q t
    exact ⟨_, .cons ra rb⟩
end
theorem same_new {H : Hp} {p : Addr} (h : H p = none) (o : HO) : Same H (upd H p o) := fun b u q => by rw [upd_ne (ne_of_none q h)]; exact q
section
variable {X : Cx}
def rEqD (K : PySem.W.Frag) : R2 := fun x y H Q => ∃ d e, Rp K H x d ∧ Rp K H y e ∧ SeqAt.shaped d = true ∧ SeqAt.shaped e = true ∧ Q (.bl (PyData.eqv d e)) H
def rNeD (K : PySem.W.Frag) : R2 := fun x y H Q => ∃ d e, Rp K H x d ∧ Rp K H y e ∧ SeqAt.shaped d = true ∧ SeqAt.shaped e = true ∧ Q (.bl (!PyData.eqv d e)) H
theorem op_eqD (hu : X.A.units + 64 < cLine) : OpR X (compareOp .Eq) (rEqD X.K) := by
  intro pins s σ H x y v u Q I rx ry h
  obtain ⟨d, e, hx, hy, sd, se, q⟩ := h
  obtain ⟨as, ra⟩ := hx.reads I rx
  obtain ⟨bs, rb⟩ := hy.reads I ry
  exact eq_dataH ra rb sd se hu ⟨.bl _, H, I, rfl, q⟩
theorem op_neD (hu : X.A.units + 64 < cLine) : OpR X (compareOp .NotEq) (rNeD X.K) := by
  intro pins s σ H x y v u Q I rx ry h
  obtain ⟨d, e, hx, hy, sd, se, q⟩ := h
  obtain ⟨as, ra⟩ := hx.reads I rx
  obtain ⟨bs, rb⟩ := hy.reads I ry
  exact ne_dataH ra rb sd se hu ⟨.bl _, H, I, rfl, q⟩
theorem pe_type {n : Str} {T : String} {pos : Pos} (hg : Gl X n) (hm : X.mg n = none) (hv : bootBuiltins n = some (.type T)) (hn : n ≠ "__name__" := by decide) (hd : (n == ("__debug__" : Str)) = false := by decide) : PE X (.Name n pos) (tC (.ty T)) :=
  pe_bltn hg hm hv rfl hn hd
end
def rIxG : R2 := fun x y H Q => ∃ p i xs v, x = .ref p ∧ y = .int i ∧ (H p = some (.tup xs) ∨ H p = some (.lst xs)) ∧ atI xs i = some v ∧ Q v H
theorem ix_g {X : Cx} : IxR X rIxG := by
  intro value slice pins s σ H x y v u Q I rx ry h hs
  obtain ⟨p, i, xs, z, rfl, rfl, hq, he, q⟩ := h
  rcases hq with hq | hq
  · exact ix_tup value slice pins s σ H _ _ v u Q I rx ry ⟨p, xs, i, z, rfl, rfl, SqT.of hq, he, q⟩ hs
  · exact ix_list value slice pins s σ H _ _ v u Q I rx ry ⟨p, xs, i, z, rfl, rfl, SqL.of hq, he, q⟩ hs
theorem atI_0 {α : Type} {a : α} {l : List α} : atI (a :: l) 0 = some a := atI_nat (j := 0) rfl
theorem atI_1 {α : Type} {a b : α} {l : List α} : atI (a :: b :: l) 1 = some b := atI_nat (j := 1) rfl
theorem atI_2 {α : Type} {a b c : α} {l : List α} : atI (a :: b :: c :: l) 2 = some c := atI_nat (j := 2) rfl
theorem atI_3 {α : Type} {a b c d : α} {l : List α} : atI (a :: b :: c :: d :: l) 3 = some d := atI_nat (j := 3) rfl
theorem atI_4 {α : Type} {a b c d e : α} {l : List α} : atI (a :: b :: c :: d :: e :: l) 4 = some e := atI_nat (j := 4) rfl
theorem fresh_any {H : Hp} {o : HO} {R : Addr → Hp → Prop} (h : ∀ p H', H p = none → Same H H' → H' p = some o → R p H') : ∀ p, H p = none → R p (upd H p o) := fun p hp => h p _ hp (same_new hp o) upd_same
theorem sz {n : Nat} (h : n ≤ 1000) : (n ≤ sizeLine) = True := eq_true (Nat.le_of_lt (small1000 h))
theorem mn1 {n : Nat} : min 1 (n + 1) = 1 := by omega
theorem mn2 {n : Nat} : min 2 (n + 2) = 2 := by omega
theorem na2 : Int.natAbs 2 = 2 := rfl
theorem na10 : Int.natAbs 10 = 10 := rfl
theorem sz0 : (0 ≤ sizeLine) = True := sz (by decide)
theorem sz1 : (1 ≤ sizeLine) = True := sz (by decide)
theorem sz2 : (2 ≤ sizeLine) = True := sz (by decide)
theorem sz3 : (3 ≤ sizeLine) = True := sz (by decide)
theorem sz4 : (4 ≤ sizeLine) = True := sz (by decide)
theorem sz5 : (5 ≤ sizeLine) = True := sz (by decide)
theorem sz6 : (6 ≤ sizeLine) = True := sz (by decide)
theorem ofString_inj {a b : String} : (Str.ofString a = Str.ofString b) = (a = b) := by
  apply propext
  constructor
  · intro h
    rw [Str.ofString_eq_toList, Str.ofString_eq_toList] at h
    injection h with h
    have h2 : a.toList.map Char.toNat = b.toList.map Char.toNat := by simpa using congrArg Array.toList h
    have inj : ∀ c d : Char, c.toNat = d.toNat → c = d := fun c d e => Char.ext (UInt32.toNat_inj.mp e)
    exact String.toList_inj.mp (List.map_inj_right (fun c d e => inj c d e) |>.mp h2)
  · rintro rfl; rfl
def keyOf : V → Option Key
  | .int i => some (.inl i)
  | .str x => some (.inr x)
  | _ => none
theorem kV_of {y : V} {k : Key} (h : keyOf y = some k) : y = kV k := by
  cases y <;> simp only [keyOf, Option.some.injEq, reduceCtorEq] at h <;> subst h <;> rfl
section
variable {X : Cx} {i o e value : Expr} {ty td te tv : TE} {pos pos' apos cpos : Pos}
def tDInG (ty td : TE) : TE := fun σ H Q => ty σ H fun y H1 => td σ H1 fun x H2 => ∃ a kvs k, x = .ref a ∧ H2 a = some (.dK kvs) ∧ keyOf y = some k ∧ Q (.bl (valV kvs k).isSome) H2
def tDNotInG (ty td : TE) : TE := fun σ H Q => ty σ H fun y H1 => td σ H1 fun x H2 => ∃ a kvs k, x = .ref a ∧ H2 a = some (.dK kvs) ∧ keyOf y = some k ∧ Q (.bl (!(valV kvs k).isSome)) H2
def tDGetG (td ty : TE) : TE := fun σ H Q => td σ H fun x H1 => ty σ H1 fun y H2 => ∃ a kvs k v, x = .ref a ∧ H2 a = some (.dK kvs) ∧ keyOf y = some k ∧ valV kvs k = some v ∧ Q v H2
theorem pe_dgetG (hu : X.A.units + 1 < cLine) (ho : PE X o td) (hi : PE X i ty) (hs : NoSl i) : PE X (.Subscript o i pos) (tDGetG td ty) := by
  intro pins s σ H Q I h
  refine subD_of PySem.F.slot_dict_getitem.lookup hs (thn (ho pins s σ H _ I h) fun u s1 ⟨x, H1, I1, rx, q1⟩ => thn (hi pins s1 σ H1 _ I1 q1) fun iv s2 ⟨y, H2, I2, ry, a, kvs, k, v, ex, ha, ek, ev, q2⟩ => ?_)
  subst ex
  obtain rfl : u = Value.ref a := rx
  have g : DGet H2 a y (some v) := by rw [kV_of ek, ← ev]; exact DGet.k ha
  exact ⟨dict_typeIs I2 g, d_getItem hu I2 g ry fun w' s3 I3 rw' => ⟨v, H2, I3, rw', q2⟩⟩
def tApp (to te : TE) : TE := fun σ H Q => to σ H fun x H1 => ∃ l xs, x = .ref l ∧ H1 l = some (.lst xs) ∧ te σ H1 fun y H2 => rAppend (.ref l) [y] H2 Q
theorem pe_app (ho : PE X o td) (he : PE X e te)
    (hbase : attributeBase o "append" X.env (eval o X.env) = eval o X.env := by rfl)
    (hfew : ((backTo cpos (starEach [e] X.env)).all (fun x => !x.1) && (backToKw cpos (keywordEach [] X.env)).all (fun x => x.1.isSome)
      && decide ([e].length + ([] : List Keyword).length + (if ([] : List Keyword).isEmpty then 0 else 1) < 30)) = true := by rfl)
    (hline : (apos.endLine == cpos.line) = true := by rfl) (hs : starEach [e] X.env = [(false, eval e X.env)] := by rfl) :
    PE X (.Call (.Attribute o "append" apos) [e] [] cpos) (tApp td te) := by
  intro pins s σ H Q I h
  refine wpAny_Call_method_late hbase hfew hline rfl (thn (ho pins s σ H _ I h) fun v s1 ⟨x, H1, I1, r1, l, xs, ex, hl, q1⟩ => ?_)
  subst ex
  obtain ⟨h1, h2⟩ := tyV_is (T := "list") I1 r1 (Or.inl ⟨rfl, xs, SqL.of hl⟩)
  refine ⟨"list", _, PySem.F.plainAttrs_list, PySem.F.slot_list_append, PySem.F.type_list_append, h1, h2, ?_⟩
  have hA := (pa_cons he pa_nil (hs := by rw [hs]; rfl)) cpos pins s1 σ H1 (fun vs H2 => rAppend (.ref l) vs H2 Q) I1 q1
  rw [hs] at hA ⊢
  refine Calls.callWith_builtin (by rfl) (Calls.evalArgs_plain ?_)
  exact thn hA fun us s2 ⟨vs, H2, I2, r2, q2⟩ => mt_append pins s2 σ H2 _ vs v us Q I2 r1 r2 q2
end
theorem scal_ss {a b : Str} : scal (.str a) (.str b) = true := rfl
theorem scal_ii {a b : Int} : scal (.int a) (.int b) = true := rfl
theorem scal_bb {a b : Bool} : scal (.bl a) (.bl b) = true := rfl
theorem scal_nn : scal .non .non = true := rfl
theorem scal_ns {b : Str} : scal .non (.str b) = true := rfl
theorem scal_sn {b : Str} : scal (.str b) .non = true := rfl
theorem scal_ni {b : Int} : scal .non (.int b) = true := rfl
theorem scal_in {b : Int} : scal (.int b) .non = true := rfl
theorem keyOf_s {a : Str} : keyOf (.str a) = some (.inr a) := rfl
theorem keyOf_i {a : Int} : keyOf (.int a) = some (.inl a) := rfl
theorem flat_s {a : Str} : flatV (.str a) = true := rfl
theorem flat_i {a : Int} : flatV (.int a) = true := rfl
theorem flat_n : flatV .non = true := rfl
theorem flat_b {a : Bool} : flatV (.bl a) = true := rfl
theorem inV_nil {x : V} : inV x [] = false := rfl
theorem inV_cons {x y : V} {l : List V} : inV x (y :: l) = (eqV y x || inV x l) := rfl
theorem eqV_ss {a b : Str} : eqV (.str a) (.str b) = decide (a = b) := by
  show (a == b) = _
  rw [Bool.eq_iff_iff]; simp
theorem eqV_ii {a b : Int} : eqV (.int a) (.int b) = decide (a = b) := by
  show (a == b) = _
  rw [Bool.eq_iff_iff]; simp
theorem cx_K {CX : CXT} {P : Program} {w : World} {K : PySem.W.Frag} {mg : Str → Option Value} {base : Heap} {N : List Str} {qual : Str} {scope : Scope} {f : Addr} {cd : Value} {A : Around} {outer : List Env} {s : Shared} {H : Hp} {E : XK} : (cxOf CX P w K mg base N qual scope f cd A outer s H E).K = K := rfl
section
variable {X : Cx}
def rInG (neg : Bool) : R2 := fun x y H Q => ∃ p xs, y = .ref p ∧ (H p = some (.tup xs) ∨ H p = some (.lst xs)) ∧ flatV x = true ∧ xs.all flatV = true ∧ Q (.bl (if neg then !inV x xs else inV x xs)) H
theorem op_inG : OpR X (compareOp .In) (rInG false) := by
  intro pins s σ H x y v u Q I rx ry h
  obtain ⟨p, xs, rfl, hq, fx, fs, q⟩ := h
  exact op_in_seq pins s σ H x _ v u Q I rx ry ⟨p, xs, rfl, hq.symm.imp SqL.of SqT.of, fx, fs, q⟩
def gTupG (n : Nat) (t : TGs) : TG := fun v σ H Q => ∃ a xs, v = .ref a ∧ H a = some (.tup xs) ∧ xs.length = n ∧ t xs σ H Q
theorem pg_tupG {es : List Expr} {k : Nat} {t : TGs} {pos : Pos} (n : Nat) (hc : X.calm = true) (h : PGs X es t)
    (hn : (assignEach es X.env).length = n := by rfl) (hst : (assignEach es X.env).findIdx? (·.1) = none := by rfl) : PG X (.Tuple es k pos) (gTupG n t) := by
  intro pins s σ H v u Q I r hw
  obtain ⟨a, xs, e1, hq, hl, hw⟩ := hw
  exact pg_tup hc h hn hst pins s σ H v u Q I r ⟨a, xs, e1, SqT.of hq, hl, hw⟩
def tM (t : TE) : TE := fun σ H Q => ∃ Q1 : VK, t σ H Q1 ∧ ∀ v H', Q1 v H' → Q v H'
theorem PE.up {e : Expr} {t : TE} (h : PE X e t) : PE X e (tM t) := by
  intro pins s σ H Q I hq
  obtain ⟨Q1, h1, h2⟩ := hq
  exact thn (h pins s σ H Q1 I h1) fun u s' ⟨v, H', I', r, q⟩ => ⟨v, H', I', r, h2 v H' q⟩
def rSlG : V → Option Int → Option Int → Hp → VK → Prop := fun x lo hi H Q => ∃ a xs, x = .ref a ∧
  ((H a = some (.tup xs) ∧ ¬ (HT.sIx xs.length 0 lo = 0 ∧ HT.sIx xs.length xs.length hi = xs.length) ∧ ∀ p H', H p = none → Same H H' → H' p = some (.tup (cutV xs lo hi)) → Q (.ref p) H') ∨
   (H a = some (.lst xs) ∧ ∀ p H', H p = none → Same H H' → H' p = some (.lst (cutV xs lo hi)) → Q (.ref p) H'))
theorem sl_g : SlR X rSlG := by
  intro pins s σ H x v vl vu lo hi sl Q I rx hs pl pu h
  obtain ⟨a, xs, rfl, ⟨ha, hn, q⟩ | ⟨ha, q⟩⟩ := h
  · exact sl_tup pins s σ H _ v vl vu lo hi sl Q I rx hs pl pu ⟨a, xs, rfl, SqT.of ha, hn, fresh_any q⟩
  · exact sl_list pins s σ H _ v vl vu lo hi sl Q I rx hs pl pu ⟨a, xs, rfl, SqL.of ha, fresh_any q⟩
def rSlK (K : PySem.W.Frag) : V → Option Int → Option Int → Hp → VK → Prop := fun x lo hi H Q => ∃ a xs, x = .ref a ∧ SqL K H a xs ∧ ∀ p H', H p = none → Same H H' → H' p = some (.lst (cutV xs lo hi)) → Q (.ref p) H'
theorem sl_k : SlR X (rSlK X.K) := by
  intro pins s σ H x v vl vu lo hi sl Q I rx hs pl pu h
  obtain ⟨a, xs, rfl, ha, q⟩ := h
  exact sl_list pins s σ H _ v vl vu lo hi sl Q I rx hs pl pu ⟨a, xs, rfl, ha, fresh_any q⟩
def tMA (t : TA) : TA := fun σ H Q => ∃ Q1 : List V → Hp → Prop, t σ H Q1 ∧ ∀ vs H', Q1 vs H' → Q vs H'
theorem PA.up {es : List Expr} {t : TA} (h : PA X es t) : PA X es (tMA t) := by
  intro pos pins s σ H Q I hq
  obtain ⟨Q1, h1, h2⟩ := hq
  exact thn (h pos pins s σ H Q1 I h1) fun us s' ⟨vs, H', I', r, q⟩ => ⟨vs, H', I', r, h2 vs H' q⟩
def tTupG (t : TA) : TE := fun σ H Q => t σ H fun xs H1 => xs.length ≤ sizeLine ∧ ∀ p H', H1 p = none → Same H1 H' → H' p = some (.tup xs) → Q (.ref p) H'
def tLstG (t : TA) : TE := fun σ H Q => t σ H fun xs H1 => xs.length ≤ sizeLine ∧ ∀ p H', H1 p = none → Same H1 H' → H' p = some (.lst xs) → Q (.ref p) H'
theorem pe_tupG {es : List Expr} {t : TA} {pos : Pos} {x1} (h : PA X es t) : PE X (.Tuple es x1 pos) (tTupG t) := fun pins s σ H Q I hq =>
  pe_tup h.up pins s σ H Q I ⟨_, hq, fun _ _ q => ⟨q.1, fresh_any q.2⟩⟩
theorem pe_lstG {es : List Expr} {t : TA} {pos : Pos} (h : PA X es t) : PE X (.List es pos) (tLstG t) := fun pins s σ H Q I hq =>
  pe_lst h.up pins s σ H Q I ⟨_, hq, fun _ _ q => ⟨q.1, fresh_any q.2⟩⟩
def tDNewG : TE := fun _ H Q => ∀ p H', H p = none → Same H H' → H' p = some (.dK []) → Q (.ref p) H'
def rDictG : List V → Hp → VK → Prop := fun xs H Q => ∃ a kvs, xs = [.ref a] ∧ H a = some (.dK kvs) ∧ ∀ p H', H p = none → Same H H' → H' p = some (.dK kvs) → Q (.ref p) H'
structure Mu (H : Hp) (l : Addr) (o : HO) (H' : Hp) : Prop where
  at_ : H' l = some o
  else_ : ∀ a, a ≠ l → H' a = H a
theorem Mu.mk' {H : Hp} {l : Addr} {o : HO} : Mu H l o (upd H l o) := ⟨upd_same, fun _ h => upd_ne h⟩
theorem Mu.old {H H' : Hp} {l a : Addr} {o u : HO} (m : Mu H l o H') (h : H a = some u) (n : a ≠ l) : H' a = some u := by rw [m.else_ a n]; exact h
theorem Mu.same {H0 H H' : Hp} {l : Addr} {o : HO} (m : Mu H l o H') (g : Same H0 H) (n : H0 l = none) : Same H0 H' := fun a u h => m.old (g a u h) (ne_of_none h n)
def tAppG (to te : TE) : TE := fun σ H Q => to σ H fun x H1 => ∃ l xs, x = .ref l ∧ H1 l = some (.lst xs) ∧ te σ H1 fun y H2 => ∃ ys, H2 l = some (.lst ys) ∧ ys.length < sizeLine ∧ ∀ H3, Mu H2 l (.lst (ys ++ [y])) H3 → Q .non H3
theorem pe_appG {o e : Expr} {td te : TE} {apos cpos : Pos} (ho : PE X o td) (he : PE X e te)
    (hbase : attributeBase o "append" X.env (eval o X.env) = eval o X.env := by rfl)
    (hfew : ((backTo cpos (starEach [e] X.env)).all (fun x => !x.1) && (backToKw cpos (keywordEach [] X.env)).all (fun x => x.1.isSome)
      && decide ([e].length + ([] : List Keyword).length + (if ([] : List Keyword).isEmpty then 0 else 1) < 30)) = true := by rfl)
    (hline : (apos.endLine == cpos.line) = true := by rfl) (hs : starEach [e] X.env = [(false, eval e X.env)] := by rfl) :
    PE X (.Call (.Attribute o "append" apos) [e] [] cpos) (tAppG td te) := fun pins s σ H Q I h =>
  pe_app ho.up he.up hbase hfew hline hs pins s σ H Q I ⟨_, h, fun _ _ ⟨l, xs, e1, h1, q⟩ => ⟨l, xs, e1, h1, _, q, fun y _ ⟨ys, h2, hz, q⟩ => ⟨l, ys, y, rfl, rfl, h2, hz, q _ .mk'⟩⟩⟩
def sDPutG2 (td ty tv : TE) : TS := fun D σ H => tv σ H fun v H1 => td σ H1 fun x H2 => ty σ H2 fun y H3 => ∃ a kvs k, x = .ref a ∧ H3 a = some (.dK kvs) ∧ keyOf y = some k ∧ kvs.length < sizeLine ∧ ∀ H4, Mu H3 a (.dK (putK kvs k v)) H4 → D.nx σ H4
def pairsOf : List (V × V) → Option (List (Key × V))
  | [] => some []
  | (x, y) :: r => (keyOf x).bind fun k => (pairsOf r).bind fun l => some ((k, y) :: l)
theorem pairsOf_map : ∀ {ps : List (V × V)} {kvs : List (Key × V)}, pairsOf ps = some kvs → ps = kvs.map fun kv => (kV kv.1, kv.2)
  | [], kvs, h => by cases h; rfl
  | (x, y) :: r, kvs, h => by
    cases hk : keyOf x with
    | none => simp [pairsOf, hk] at h
    | some k =>
      cases hr : pairsOf r with
      | none => simp [pairsOf, hk, hr] at h
      | some l =>
        simp [pairsOf, hk, hr] at h
        subst h
        rw [List.map_cons, ← pairsOf_map hr, ← kV_of hk]
def tDispG (trs : List (TE × TE)) : TE := fun σ H Q => ∀ p H', H p = none → Same H H' → H' p = some (.dK []) → tPairs trs σ H' fun ps H2 => H2 p = some (.dK []) ∧ ∃ kvs, pairsOf ps = some kvs ∧ kvs.length ≤ 15 ∧ ∀ H3, Mu H2 p (.dK (mergeK [] kvs)) H3 → Q (.ref p) H3
theorem pe_dispG {pos : Pos} {keys : List (Option Expr)} {values : List Expr} {trs : List (TE × TE)} (h : PPs X pos keys values trs) (hall : keys.all (·.isSome) = true) (hl : keys.length = values.length) (h0 : keys ≠ [])
    (h15 : keys.length ≤ 15) : PE X (.Dict keys values pos) (tDispG trs) := by
  intro pins s σ H Q I q
  have hn := I.hok.fresh (Nat.le_refl s.heap.objs.size)
  have I1 := I.laid (a := s.heap.objs.size) (o := .dK []) (h' := s.heap.push { cls := .type "dict", data := .dict #[] }) (t' := s.toks) (fun _ _ q => Heap.get?_push_of_some _ q) (Nat.le_refl _) (dk_empty s.heap I.big)
  refine wpAny_Dict_walk (knd := mixKind X.prog X.w) hall hl h0 h15 (thn (h pins _ σ _ _ I1 (q _ _ hn (same_new hn _) upd_same)) fun ws s2 ⟨ps, H2, I2, rel, e, kvs, ep, lk, q2⟩ => ?_)
  have ep := pairsOf_map ep
  subst ep
  obtain ⟨rs, c, rk⟩ := carries_of (P := X.prog) (w := X.w) rel
  obtain ⟨z, hd, vs0, r0, dd⟩ := dk_of I2.hok e
  cases r0
  refine ⟨rs, c, dd, fun h' dd' hs => ⟨.ref s.heap.objs.size, _, ?_, rfl, q2 _ .mk'⟩⟩
  have hz : (mergeK [] kvs).length ≤ sizeLine := by
    have h1 := length_mergeK kvs []
    rw [List.length_nil] at h1
    rw [sizeLine_eq]; omega
  have he : ∃ q, h'.get? s.heap.objs.size = some q := let ⟨q, _, _, hq, _⟩ := dd'; ⟨q, hq⟩
  exact d_write I2 (by rw [e]; exact True.intro) hs he (dk_new hz hd (rk.merge .nil) dd')
def turns (a : Addr) (o : HO) (g : TG) (tb : TS) (D : Ends) : List V → St → Hp → Prop
  | [], σ, H => H a = some o ∧ D.nx σ H
  | x :: r, σ, H => H a = some o ∧ g x σ H fun σ2 H2 => tb { D with nx := turns a o g tb D r, ct := turns a o g tb D r, bk := D.nx } σ2 H2
def tForT (tl : TE) (g : TG) (tb : TS) : TS := fun D σ H => tl σ H fun x H1 => ∃ a xs, x = .ref a ∧ H1 a = some (.tup xs) ∧ turns a (.tup xs) g tb D xs σ H1
def tForL (tl : TE) (g : TG) (tb : TS) : TS := fun D σ H => tl σ H fun x H1 => ∃ a xs, x = .ref a ∧ H1 a = some (.lst xs) ∧ turns a (.lst xs) g tb D xs σ H1
end
def hoT : HO → Option String
  | .lst _ => some "list"
  | .tup _ => some "tuple"
  | .dK _ => some "dict"
  | _ => none
def tyG (H : Hp) : V → Option String
  | .non => some "NoneType"
  | .bl _ => some "bool"
  | .int _ => some "int"
  | .str _ => some "str"
  | .ref a => (H a).bind hoT
  | _ => none
theorem tyG_n {H : Hp} : tyG H .non = some "NoneType" := rfl
theorem tyG_b {H : Hp} {x : Bool} : tyG H (.bl x) = some "bool" := rfl
theorem tyG_i {H : Hp} {x : Int} : tyG H (.int x) = some "int" := rfl
theorem tyG_s {H : Hp} {x : Str} : tyG H (.str x) = some "str" := rfl
theorem tyG_r {H : Hp} {a : Addr} : tyG H (.ref a) = (H a).bind hoT := rfl
theorem hoT_l {xs : List V} : hoT (.lst xs) = some "list" := rfl
theorem hoT_t {xs : List V} : hoT (.tup xs) = some "tuple" := rfl
theorem hoT_d {xs : List (Key × V)} : hoT (.dK xs) = some "dict" := rfl
def rIsiG (K : PySem.W.Frag) : List V → Hp → VK → Prop := fun xs H Q => ∃ x T t b, xs = [x, .ty T] ∧ tyG H x = some t ∧ PySem.W.kitOne K (.type t) (.type T) = some b ∧ Q (.bl b) H
theorem kit_ii {K : PySem.W.Frag} : PySem.W.kitOne K (.type "int") (.type "int") = some true := rfl
theorem kit_it {K : PySem.W.Frag} : PySem.W.kitOne K (.type "int") (.type "tuple") = some false := rfl
theorem kit_il {K : PySem.W.Frag} : PySem.W.kitOne K (.type "int") (.type "list") = some false := rfl
theorem kit_is {K : PySem.W.Frag} : PySem.W.kitOne K (.type "int") (.type "str") = some false := rfl
theorem kit_ib {K : PySem.W.Frag} : PySem.W.kitOne K (.type "int") (.type "bool") = some false := rfl
theorem kit_id {K : PySem.W.Frag} : PySem.W.kitOne K (.type "int") (.type "dict") = some false := rfl
theorem kit_ni {K : PySem.W.Frag} : PySem.W.kitOne K (.type "NoneType") (.type "int") = some false := rfl
theorem kit_nt {K : PySem.W.Frag} : PySem.W.kitOne K (.type "NoneType") (.type "tuple") = some false := rfl
theorem kit_nl {K : PySem.W.Frag} : PySem.W.kitOne K (.type "NoneType") (.type "list") = some false := rfl
theorem kit_ns {K : PySem.W.Frag} : PySem.W.kitOne K (.type "NoneType") (.type "str") = some false := rfl
theorem kit_nb {K : PySem.W.Frag} : PySem.W.kitOne K (.type "NoneType") (.type "bool") = some false := rfl
theorem kit_nd {K : PySem.W.Frag} : PySem.W.kitOne K (.type "NoneType") (.type "dict") = some false := rfl
theorem kit_ti {K : PySem.W.Frag} : PySem.W.kitOne K (.type "tuple") (.type "int") = some false := rfl
theorem kit_tt {K : PySem.W.Frag} : PySem.W.kitOne K (.type "tuple") (.type "tuple") = some true := rfl
theorem kit_tl {K : PySem.W.Frag} : PySem.W.kitOne K (.type "tuple") (.type "list") = some false := rfl
theorem kit_ts {K : PySem.W.Frag} : PySem.W.kitOne K (.type "tuple") (.type "str") = some false := rfl
theorem kit_tb {K : PySem.W.Frag} : PySem.W.kitOne K (.type "tuple") (.type "bool") = some false := rfl
theorem kit_td {K : PySem.W.Frag} : PySem.W.kitOne K (.type "tuple") (.type "dict") = some false := rfl
theorem kit_li {K : PySem.W.Frag} : PySem.W.kitOne K (.type "list") (.type "int") = some false := rfl
theorem kit_lt {K : PySem.W.Frag} : PySem.W.kitOne K (.type "list") (.type "tuple") = some false := rfl
theorem kit_ll {K : PySem.W.Frag} : PySem.W.kitOne K (.type "list") (.type "list") = some true := rfl
theorem kit_ls {K : PySem.W.Frag} : PySem.W.kitOne K (.type "list") (.type "str") = some false := rfl
theorem kit_lb {K : PySem.W.Frag} : PySem.W.kitOne K (.type "list") (.type "bool") = some false := rfl
theorem kit_ld {K : PySem.W.Frag} : PySem.W.kitOne K (.type "list") (.type "dict") = some false := rfl
theorem kit_si {K : PySem.W.Frag} : PySem.W.kitOne K (.type "str") (.type "int") = some false := rfl
theorem kit_st {K : PySem.W.Frag} : PySem.W.kitOne K (.type "str") (.type "tuple") = some false := rfl
theorem kit_sl {K : PySem.W.Frag} : PySem.W.kitOne K (.type "str") (.type "list") = some false := rfl
theorem kit_ss {K : PySem.W.Frag} : PySem.W.kitOne K (.type "str") (.type "str") = some true := rfl
theorem kit_sb {K : PySem.W.Frag} : PySem.W.kitOne K (.type "str") (.type "bool") = some false := rfl
theorem kit_sd {K : PySem.W.Frag} : PySem.W.kitOne K (.type "str") (.type "dict") = some false := rfl
theorem kit_bi {K : PySem.W.Frag} : PySem.W.kitOne K (.type "bool") (.type "int") = some true := rfl
theorem kit_bt {K : PySem.W.Frag} : PySem.W.kitOne K (.type "bool") (.type "tuple") = some false := rfl
theorem kit_bl {K : PySem.W.Frag} : PySem.W.kitOne K (.type "bool") (.type "list") = some false := rfl
theorem kit_bs {K : PySem.W.Frag} : PySem.W.kitOne K (.type "bool") (.type "str") = some false := rfl
theorem kit_bb {K : PySem.W.Frag} : PySem.W.kitOne K (.type "bool") (.type "bool") = some true := rfl
theorem kit_bd {K : PySem.W.Frag} : PySem.W.kitOne K (.type "bool") (.type "dict") = some false := rfl
theorem kit_di {K : PySem.W.Frag} : PySem.W.kitOne K (.type "dict") (.type "int") = some false := rfl
theorem kit_dt {K : PySem.W.Frag} : PySem.W.kitOne K (.type "dict") (.type "tuple") = some false := rfl
theorem kit_dl {K : PySem.W.Frag} : PySem.W.kitOne K (.type "dict") (.type "list") = some false := rfl
theorem kit_ds {K : PySem.W.Frag} : PySem.W.kitOne K (.type "dict") (.type "str") = some false := rfl
theorem kit_db {K : PySem.W.Frag} : PySem.W.kitOne K (.type "dict") (.type "bool") = some false := rfl
theorem kit_dd {K : PySem.W.Frag} : PySem.W.kitOne K (.type "dict") (.type "dict") = some true := rfl
def notStar : Expr → Bool
  | .Starred _ _ => false
  | _ => true
theorem star_of {e : Expr} {es : List Expr} {env : Env} (h : notStar e = true) : starEach (e :: es) env = (false, eval e env) :: starEach es env := by
  cases e with
  | Starred v q => exact absurd (show false = true from h) Bool.false_ne_true
  | _ => rfl
theorem star_all {pos : Pos} {env : Env} : ∀ {es : List Expr}, es.all notStar = true → (backTo pos (starEach es env)).any (·.1) = false
  | [], _ => rfl
  | e :: es, h => by
    rw [List.all_cons, Bool.and_eq_true] at h
    rw [star_of h.1]
    show (false || (backTo pos (starEach es env)).any (·.1)) = false
    rw [star_all h.2]
    rfl
section
variable {X : Cx} {e : Expr} {es : List Expr} {te : TE} {t : TA} {x : Str} {p pos : Pos} {id T : String} {r : List V → Hp → VK → Prop}
theorem pa_c (ha : PE X e te) (hr : PA X es t) (hn : notStar e = true := by rfl) : PA X (e :: es) (tCons te t) := pa_cons ha hr (star_of hn)
theorem pe_cB (hc : CallR X (.builtin id) r) (hg : Gl X x) (hm : X.mg x = none) (hv : bootBuiltins x = some (.builtin id)) (ha : PA X (e :: es) t) (hn : x ≠ "__name__" := by decide) (hdb : (x == ("__debug__" : Str)) = false := by decide)
    (hs : (e :: es).all notStar = true := by rfl) : PE X (.Call (.Name x p) (e :: es) [] pos) (tCB r t) :=
  pe_callB hc hg hm hv ha hn hdb (star_of (Bool.and_eq_true_iff.mp hs).1) (star_all (Bool.and_eq_true_iff.mp hs).2)
theorem pe_cTy (hc : CallR X (.type T) r) (hg : Gl X x) (hm : X.mg x = none) (hv : bootBuiltins x = some (.type T)) (ha : PA X (e :: es) t) (hn : x ≠ "__name__" := by decide) (hdb : (x == ("__debug__" : Str)) = false := by decide)
    (hs : (e :: es).all notStar = true := by rfl) : PE X (.Call (.Name x p) (e :: es) [] pos) (tCB r t) :=
  pe_callTy hc hg hm hv ha hn hdb (star_of (Bool.and_eq_true_iff.mp hs).1) (star_all (Bool.and_eq_true_iff.mp hs).2)
end
structure DefAt (K : PySem.W.Frag) (mg : Str → Option Value) (x : Str) (st : Stmt) (ps : List Str) : Prop where
  ex : ∃ f fd, mg x = some (.ref f) ∧ Fun K x x st f fd ∧ Binds K fd ps []
structure OkD (P : Program) (w : World) (K : PySem.W.Frag) (mg : Str → Option Value) (base : Heap) (n : Nat) (x : Str) (ps : List Str) (sp : Sp) : Prop where
  ex : ∃ f fd, mg x = some (.ref f) ∧ PySem.W.keepIn K (.ref f) = true ∧ Binds K fd ps [] ∧ FnOk P w K mg base CX0 n f fd ps sp
def tDef (sp : Sp) (t : TA) : TE := fun σ H Q => t σ H fun vs H1 => sp vs H1 Q E0
section
variable {P : Program} {w : World} {K : PySem.W.Frag} {mg : Str → Option Value} {base : Heap} {x : Str} {st : Stmt} {N ps : List Str} {k : Nat} {sp : Sp}
theorem DefAt.ok (D : DefAt K mg x st ps) (S : FnScope N ps (defScope st)) (len : ∀ vs H Q E, sp vs H Q E → vs.length = ps.length)
    (hbody : ∀ (f : Addr) (cdv : Value) (A : Around) (outer : List Env) (s : Shared) (H : Hp) (vs : List V) (Q : VK) (E : XK), Room k (A.deeper (envOfC x (defScope st) s.heap.objs.size f cdv)) → sp vs H Q E →
      ∃ t, PSs (cxOf CX0 P w K mg base N x (defScope st) f cdv A outer s H E).nox (defBody st) t ∧ t { nx := fun _ H' => Q .non H', rt := Q } (start N vs) H) : OkD P w K mg base (k + 1) x ps sp := by
  obtain ⟨f, fd, hm, F, hb⟩ := D.ex
  exact ⟨f, fd, hm, F.kp, hb, F.ok S len (hbody f)⟩
theorem DefAt.never (D : DefAt K mg x st ps) (n : Nat) (h : ∀ vs H Q E, ¬ sp vs H Q E) : OkD P w K mg base n x ps sp := by
  obtain ⟨f, fd, hm, F, hb⟩ := D.ex
  exact ⟨f, fd, hm, F.kp, hb, ⟨fun vs H Q E q => absurd q (h vs H Q E), fun A outer s H args us vs Q E _ _ _ _ q => absurd q (h vs H Q E)⟩⟩
end
section
variable {X : Cx} {k n : Nat} {ps : List Str} {sp : Sp} {x : Str} {p pos : Pos} {e : Expr} {es : List Expr} {t : TA}
theorem pe_def (G : OkD X.prog X.w X.K X.mg X.base k x ps sp) (hr : Room n X.A) (hg : Gl X x) (ha : PA X (e :: es) t) (hk : k ≤ n := by omega) (hdb : (x == ("__debug__" : Str)) = false := by decide)
    (hs : (e :: es).all notStar = true := by rfl) : PE X (.Call (.Name x p) (e :: es) [] pos) (tDef sp t) := by
  obtain ⟨f, fd, hm, kp, hb, F⟩ := G.ex
  intro pins s σ H Q I h
  refine pe_call F (hr.mono hk) hg hm kp hb .nil pass0 ha hdb (star_of (Bool.and_eq_true_iff.mp hs).1) (star_all (Bool.and_eq_true_iff.mp hs).2) pins s σ H Q I ?_
  have e : (fun vs H1 => sp (vs ++ []) H1 Q E0) = fun vs H1 => sp vs H1 Q E0 := by funext vs H1; rw [List.append_nil]
  show t σ H fun vs H1 => sp (vs ++ []) H1 Q E0
  rw [e]
  exact h
end
def spLaw (K : PySem.W.Frag) : Sp := fun vs H Q _ => ∃ (a : Addr) (ns : List Int), vs = [.ref a] ∧ SqL K H a (ns.map V.int) ∧ ns.length ≤ 63 ∧ ∀ H', Q (.bl true) H'
end L2
namespace L2
open PySem PySem.Spec PyProof.Rows
structure Fly (h : Heap) (x T : Addr) (cls fl : Value) : Prop where
  ex : ∃ oe vs oT ts, h.get? x = some oe ∧ oe.cls = cls ∧ oe.dict = none ∧ oe.data = .fields vs ∧ vs[1]? = some (.ref T) ∧ T ≠ x ∧ h.get? T = some oT ∧ oT.data = .fields ts ∧ ts[3]? = some fl
def CXr (P : Program) (w : World) : CXT := fun outer H s E e s' => ∃ (x T : Addr) (cls : Value) (H' : Hp), e = .ref x ∧ s'.os = s.os ∧ AllBare s'.gens ∧ Un (frs outer) [] H H' s.heap s'.heap ∧ HOk P w H' s'.heap ∧
  Fly s'.heap x T cls .none ∧ s.heap.get? x = none ∧ s.heap.get? T = none ∧ H' x = none ∧ H' T = none ∧ E cls none H'
structure Kept (x : Addr) (ts fr : List Addr) (h h' : Heap) : Prop where
  keep : ∀ b o, h.get? b = some o → b ≠ x → b ∉ ts → b ∉ fr → h'.get? b = some o
  slot : ∀ b o, h.get? b = some o → b ≠ x → b ∉ ts → ∃ sl, h'.get? b = some { o with slots := sl }
theorem dict_mapFields (o : Obj) (f : Array Value → Array Value) : (o.mapFields f).dict = o.dict := by
  cases o with | mk c d dt sl => cases dt <;> rfl
section
variable {M : Model} {A : Around} {E : Value → Shared → Prop} {s : Shared} {base : Heap} {env : Env} {outer : List Env} {L x : Addr} {oe : Obj} {vs : Array Value} {Q : Unit → Shared → Prop}
theorem entry_exact {head : Value} {had : Bool} (hfr : A.frames = some (env :: outer)) (hl : s.heap.FunFrames base (env :: outer)) (hf : env.frame = some L) (hx : s.heap.get? x = some oe) (hd : oe.data = .fields vs) (hsz : 1 < vs.size) (hdc : oe.dict = none)
    (h : ∀ h' T, Kept x [] (frs (env :: outer)) s.heap h' → s.heap.get? T = none → Fly h' x T oe.cls (rawInt L) → Q () { s with heap := h' }) :
    wpAny M A (do let a ← frameOf env; let pl ← entryPlaceOf L had; let b ← EntryCells.newEntry head a .none (rawInt L) .none pl; setField (.ref x) 1 b) Q E s := by
  have xfr : x ∉ frs (env :: outer) := fun z => by
    obtain ⟨_, o, q, no⟩ := hl.mem z
    exact no vs (by rw [hx] at q; cases q; exact hd)
  refine wpAny_bind (wpAny_frameOf_fun hfr hl hf fun g so => wpAny_bind (wpAny_entryPlaceOf fun pl hpl => ?_))
  unfold EntryCells.newEntry newFields
  refine wpAny_bind (wpAny_newObj_type ?_ (hpl.sizeOk5 _ _ _ _ _))
  have gx : g.get? x = some oe := (so.2.1 x xfr).trans hx
  have gx' := Heap.get?_push_of_some (h := g) { cls := .type "traceback", dict := none, data := .fields ([head, .ref L, .none, rawInt L, .none] ++ (if pl.isEmpty then List.replicate 6 Value.none else pl)).toArray } gx
  have ne : g.objs.size ≠ x := Nat.ne_of_gt (Heap.lt_size gx)
  have nd := Obj.data_mapFields hd (·.setIfInBounds 1 (Value.ref g.objs.size))
  have hT := (Heap.get?_update_other (g.push { cls := .type "traceback", dict := none, data := .fields ([head, .ref L, .none, rawInt L, .none] ++ (if pl.isEmpty then List.replicate 6 Value.none else pl)).toArray }) (Obj.mapFields (·.setIfInBounds 1 (Value.ref g.objs.size))) (Ne.symm ne)).trans (Heap.get?_push_size g rfl)
  refine wpAny_setField gx' hd hsz (h _ g.objs.size ⟨fun b o q n1 _ n3 => ?_, fun b o q n1 _ => ?_⟩ (Heap.get?_none_of_le (by rw [so.1]; exact Nat.le_refl _)) ⟨_, _, _, _, Heap.get?_update_self _ gx' (Obj.isFreed_of_fields nd), Obj.cls_mapFields _ _, (dict_mapFields _ _).trans hdc, nd, by simp [hsz], ne, hT, rfl, by simp⟩)
  · rw [Heap.get?_update_other _ _ (Ne.symm n1)]
    exact Heap.get?_push_of_some _ ((so.2.1 b n3).trans q)
  · obtain ⟨sl, r⟩ := so.2.2 b o q
    exact ⟨sl, by rw [Heap.get?_update_other _ _ (Ne.symm n1)]; exact Heap.get?_push_of_some _ r⟩
theorem note_first (hfr : A.frames = some (env :: outer)) (hl : s.heap.FunFrames base (env :: outer)) (hf : env.frame = some L) (hx : s.heap.get? x = some oe) (hd : oe.data = .fields vs) (h1 : vs[1]? = some .none) (hdc : oe.dict = none)
    (h : ∀ h' T, Kept x [] (frs (env :: outer)) s.heap h' → s.heap.get? T = none → Fly h' x T oe.cls (rawInt L) → Q () { s with heap := h' }) : wpAny M A (noteFrame (.ref x) env) Q E s := by
  unfold noteFrame
  simp only [hf]
  refine wpAny_bind (wpAny_field hx hd h1 ?_)
  rw [if_neg (by decide)]
  exact entry_exact hfr hl hf hx hd (Array.getElem?_eq_some_iff.mp h1).1 hdc h
theorem note_next {T : Addr} {cls : Value} (hfr : A.frames = some (env :: outer)) (hl : s.heap.FunFrames base (env :: outer)) (hf : env.frame = some L) (F : Fly s.heap x T cls .none)
    (h : ∀ h' T', Kept x [T] (frs (env :: outer)) s.heap h' → s.heap.get? T' = none → Fly h' x T' cls (rawInt L) → Q () { s with heap := h' }) : wpAny M A (noteFrame (.ref x) env) Q E s := by
  obtain ⟨oe, vs, oT, ts, hx, hc, hdc, hd, h1, ne, hT, hdT, h3⟩ := F.ex
  subst hc
  unfold noteFrame
  simp only [hf]
  refine wpAny_bind (wpAny_field hx hd h1 ?_)
  rw [if_pos (by simp)]
  refine wpAny_bind (wpAny_field hT hdT h3 ?_)
  rw [if_neg (by simp [rawInt])]
  refine wpAny_bind (wpAny_setField hT hdT (Array.getElem?_eq_some_iff.mp h3).1 ?_)
  have ot : ∀ b, b ≠ T → (s.heap.update T (Obj.mapFields (·.setIfInBounds 3 Value.none))).get? b = s.heap.get? b := fun b n => Heap.get?_update_other _ _ (Ne.symm n)
  have Tself := Heap.get?_update_self (Obj.mapFields (·.setIfInBounds 3 Value.none)) hT (Obj.isFreed_of_fields (Obj.data_mapFields hdT _))
  refine entry_exact (base := base) hfr (hl.of_keeps fun b o q no => ⟨o, (ot b fun z => no ts (by rw [z, hT] at q; cases q; exact hdT)).trans q, rfl⟩) hf ((ot x (Ne.symm ne)).trans hx) hd (Array.getElem?_eq_some_iff.mp h1).1 hdc fun h' T' k n f => h h' T' ⟨fun b o q n1 n2 n3 => ?_, fun b o q n1 n2 => ?_⟩ ?_ f
  · exact k.keep b o ((ot b fun z => n2 (by rw [z]; exact List.mem_singleton_self _)).trans q) n1 (by simp) n3
  · exact k.slot b o ((ot b fun z => n2 (by rw [z]; exact List.mem_singleton_self _)).trans q) n1 (by simp)
  · by_cases z : T' = T
    · subst z; rw [Tself] at n; cases n
    · exact (ot T' z).symm.trans n
theorem flight_exact {T : Addr} {cls fl : Value} (F : Fly s.heap x T cls fl) (h : ∀ h', (∀ b, b ≠ T → h'.get? b = s.heap.get? b) → Fly h' x T cls .none → Q () { s with heap := h' }) : wpAny M A (setFlight (.ref x) none) Q E s := by
  obtain ⟨oe, vs, oT, ts, hx, hc, hdc, hd, h1, ne, hT, hdT, h3⟩ := F.ex
  unfold setFlight
  refine wpAny_bind (wpAny_field hx hd h1 ?_)
  rw [if_pos (by simp)]
  have ot : ∀ b, b ≠ T → (s.heap.update T (Obj.mapFields (·.setIfInBounds 3 ((none : Option Addr).elim Value.none fun f => rawInt f)))).get? b = s.heap.get? b := fun b n => Heap.get?_update_other _ _ (Ne.symm n)
  have sz := (Array.getElem?_eq_some_iff.mp h3).1
  exact wpAny_setField hT hdT sz (h _ ot ⟨oe, vs, _, _, (ot x (Ne.symm ne)).trans hx, hc, hdc, hd, h1, ne, Heap.get?_update_self _ hT (Obj.isFreed_of_fields (Obj.data_mapFields hdT _)), Obj.data_mapFields hdT _, by simp [sz]⟩)
end
section
variable {X : Cx} {pins : List (Addr × Obj)} {σ : St} {H1 : Hp} {s1 : Shared}
theorem Inv.tracked (I : Inv X pins σ H1 s1) {b : Addr} {u : HO} (h : H1 b = some u) : ∃ o, s1.heap.get? b = some o := by
  have hb := I.hok.lt h
  have := I.hok b u h
  cases u with
  | lst xs => obtain ⟨_, _, _, _, e⟩ := this; exact ⟨_, e⟩
  | tup xs => obtain ⟨_, _, _, o, e, _⟩ := this; exact ⟨_, e⟩
  | dK kvs => obtain ⟨_, _, _, _, o, _, _, e, _⟩ := this; exact ⟨_, e⟩
  | dT kvs => obtain ⟨_, _, _, _, o, _, _, e, _⟩ := this; exact ⟨_, e⟩
  | set S n => obtain ⟨o, _, _, _, e, _⟩ := this; exact ⟨_, e⟩
  | ins C dx fs => obtain ⟨_, _, _, e, _⟩ := this; exact ⟨_, e⟩
  | own y => exact this
  | xd fs => obtain ⟨_, ⟨_, _, _, e, _⟩, _⟩ := this; exact ⟨_, e⟩
  | rng lo hi => obtain ⟨_, _, _, e⟩ := this; exact ⟨_, e⟩
  | frz ob u => obtain ⟨e, _⟩ := this; exact ⟨_, e⟩
  | tbl ps => exact ⟨_, this⟩
  | met f y => exact ⟨_, this⟩
  | ext φ => obtain ⟨_, e, _⟩ := this; exact e
end
section
variable {P : Program} {w : World} {K : PySem.W.Frag} {mg : Str → Option Value} {base : Heap} {N : List Str} {qual : Str} {scope : Scope} {f : Addr} {cd : Value} {A : Around} {outer : List Env} {s : Shared} {H : Hp} {E : XK}
theorem left_cx {CX : CXT} {pins : List (Addr × Obj)} {σ : St} {H1 : Hp} {s1 : Shared} (I : Inv (cxOf CX P w K mg base N qual scope f cd A outer s H E) pins σ H1 s1) {x T : Addr} {ts : List Addr} {cls : Value} {h' : Heap}
    (hx : s.heap.get? x = none) (hxt : H1 x = none) (hts : ∀ b ∈ ts, s.heap.get? b = none ∧ H1 b = none) (he : E cls none H1) (k : Kept x ts (frs (cxOf CX P w K mg base N qual scope f cd A outer s H E).stack) s1.heap h')
    (hT : s1.heap.get? T = none) (F : Fly h' x T cls .none) : CXr P w outer H s E (.ref x) { s1 with heap := h' } := by
  have Lf : s.heap.objs.size ≤ (envOfC qual scope s.heap.objs.size f cd).locals := I.ok.above
  have trk : ∀ b u, H1 b = some u → ∀ o, s1.heap.get? b = some o → h'.get? b = some o := fun b u hb o e => by
    refine k.keep b o e (fun z => (by rw [z, hxt] at hb; cases hb)) (fun z => (by rw [(hts b z).2] at hb; cases hb)) fun z => ?_
    rw [I.stkFree b z] at hb; cases hb
  have old : ∀ b o, s.heap.get? b = some o → b ≠ x ∧ b ∉ ts ∧ (b ∉ frs outer → b ∉ frs (cxOf CX P w K mg base N qual scope f cd A outer s H E).stack) := fun b o e => by
    refine ⟨fun z => (by rw [z, hx] at e; cases e), fun z => (by rw [(hts b z).1] at e; cases e), fun n z => ?_⟩
    rcases List.mem_cons.mp (I.stkSub b z) with q | q
    · have : b < s.heap.objs.size := Heap.lt_size e
      have q' : b = (envOfC qual scope s.heap.objs.size f cd).locals := q
      rw [q'] at this
      exact absurd (Nat.lt_of_lt_of_le this Lf) (Nat.lt_irrefl _)
    · exact n q
  have ub : Un (frs outer) [] H H1 s.heap s1.heap := I.base
  have hTs : s.heap.get? T = none := by
    cases q : s.heap.get? T with
    | none => rfl
    | some o =>
      obtain ⟨o1, r⟩ := ub.there T o q (by simp)
      rw [hT] at r; cases r
  have hTH : H1 T = none := by
    cases q : H1 T with
    | none => rfl
    | some u =>
      obtain ⟨o1, r⟩ := I.tracked q
      rw [hT] at r; cases r
  refine ⟨x, T, cls, H1, rfl, I.os, I.bare, ?_, ?_, F, hx, hTs, hxt, hTH, he⟩
  · refine ⟨fun b o e n1 n2 n3 => ?_, fun b o e n1 n2 n3 => ?_, ub.free, fun b o e n3 => ?_, ub.tups, ub.frzs, ub.tbls⟩
    · obtain ⟨m1, m2, m3⟩ := old b o e
      exact k.keep b o (ub.keep b o e n1 n2 n3) m1 m2 (m3 n2)
    · obtain ⟨sl, q⟩ := ub.slot b o e n1 n2 n3
      obtain ⟨m1, m2, _⟩ := old b o e
      obtain ⟨sl', r⟩ := k.slot b _ q m1 m2
      exact ⟨sl', r⟩
    · obtain ⟨o1, r⟩ := ub.there b o e n3
      obtain ⟨m1, m2, _⟩ := old b o e
      obtain ⟨sl, q⟩ := k.slot b o1 r m1 m2
      exact ⟨_, q⟩
  · intro a o q
    refine (I.hok a o q).stay (fun b u hb r => ?_) (fun _ z => z) fun _ _ z => z
    rcases hb with rfl | hb
    · exact trk b o q u r
    · exact trk b _ hb u r
theorem Kept.flew {x T : Addr} {ts fr : List Addr} {h h' h'' : Heap} (k : Kept x ts fr h h') (hT : h.get? T = none) (o : ∀ b, b ≠ T → h''.get? b = h'.get? b) : Kept x ts fr h h'' :=
  have n : ∀ b o, h.get? b = some o → b ≠ T := fun b o q z => by rw [z, hT] at q; cases q
  ⟨fun b u q n1 n2 n3 => (o b (n b u q)).trans (k.keep b u q n1 n2 n3), fun b u q n1 n2 => let ⟨sl, r⟩ := k.slot b u q n1 n2; ⟨sl, (o b (n b u q)).trans r⟩⟩
theorem Inv.raised {X : Cx} {pins : List (Addr × Obj)} {σ : St} {H1 H' : Hp} {s1 s' : Shared} (I : Inv X pins σ H1 s1) (os : s'.os = s1.os) (bare : AllBare s'.gens) (un : Un (frs X.stack) [] H1 H' s1.heap s'.heap) (hok : HOk X.prog X.w H' s'.heap) : Inv X pins σ H' s' := by
  obtain ⟨hh, g, d, t, os'⟩ := s'
  obtain rfl : os' = s1.os := os
  exact I.call (h' := hh) (g' := g) (d' := d) (t' := t) (ch := []) un hok bare (fun b z => absurd z (by simp))
theorem passR : Passes (CXr P w) (cxOf (CXr P w) P w K mg base N qual scope f cd A outer s H E) E := by
  intro pins σ H1 s1 e s' I h
  obtain ⟨x, T, cls, H', rfl, os, bare, un, hok, F, hx, hT, hxH, hTH, he⟩ := h
  have I' := I.raised os bare un hok
  have fresh : ∀ b, s1.heap.get? b = none → s.heap.get? b = none := fun b hb => by
    cases q : s.heap.get? b with
    | none => rfl
    | some o =>
      obtain ⟨o1, r⟩ := I.base.there b o q (by simp [cxOf])
      rw [hb] at r; cases r
  show wpAny (model P w) (A.deeper (envOfC qual scope s.heap.objs.size f cd)) (leaving (envOfC qual scope s.heap.objs.size f cd) (.ref x)) _ _ s'
  unfold leaving
  refine wpAny_bind (note_next (base := base) I'.ok.frames I'.stack rfl F fun h' T' k n f' => ?_)
  refine flight_exact f' fun h'' o f'' => ?_
  exact left_cx I' (ts := [T]) (fresh x hx) hxH (fun b hb => by cases List.mem_singleton.mp hb; exact ⟨fresh T hT, hTH⟩) he (k.flew n o) n f''
theorem raiseR {pins : List (Addr × Obj)} {σ : St} {H1 : Hp} {s1 : Shared} (I : Inv (cxOf (CXr P w) P w K mg base N qual scope f cd A outer s H E) pins σ H1 s1) {x : Addr} {cls : Value} {us : List Value} {h1 : Heap} (hm : Heap.MadeExcOf s1.heap h1 x cls us) (he : E cls none H1) :
    (cxOf (CXr P w) P w K mg base N qual scope f cd A outer s H E).xe (.ref x) { s1 with heap := h1 } := by
  have I' : Inv (cxOf (CXr P w) P w K mg base N qual scope f cd A outer s H E) pins σ H1 { s1 with heap := h1 } := I.kept (t' := s1.toks) hm.keeps
  have fresh : s.heap.get? x = none := by
    cases q : s.heap.get? x with
    | none => rfl
    | some o =>
      obtain ⟨o1, r⟩ := I.base.there x o q (by simp [cxOf])
      rw [hm.new] at r; cases r
  have hxH : H1 x = none := by
    cases q : H1 x with
    | none => rfl
    | some u =>
      obtain ⟨o1, r⟩ := I.tracked q
      rw [hm.new] at r; cases r
  obtain ⟨t, ht, _, _⟩ := hm.there
  show wpAny (model P w) (A.deeper (envOfC qual scope s.heap.objs.size f cd)) (leaving (envOfC qual scope s.heap.objs.size f cd) (.ref x)) _ _ { s1 with heap := h1 }
  unfold leaving
  refine wpAny_bind (note_first (base := base) I'.ok.frames I'.stack rfl ht rfl rfl rfl fun h' T' k n f' => ?_)
  refine flight_exact f' fun h'' o f'' => ?_
  exact left_cx I' (ts := []) fresh hxH (fun b hb => by cases hb) he (k.flew n o) n f''
end
def veM : List Value := [.type "ValueError", .type "Exception", .type "BaseException", .type "object"]
structure ExcAt (K : PySem.W.Frag) (mg : Str → Option Value) (x : Str) (C : Addr) : Prop where
  gl : mg x = some (.ref C)
  ok : PySem.W.excIn K C veM "ValueError.__new__" = true
theorem exc_obj {K : PySem.W.Frag} {h : Heap} {C : Addr} {bmB : List Value} {newId : String} (kin : K.In h) (ok : PySem.W.excIn K C bmB newId = true) :
    ∃ (tl : List Value) (N : Addr) (nm qn : Str) (bs : List Value) (hd : Bool) (sn : List Str) (sub : List Value) (ab : Bool) (col : Option Bool) (dd : Option Addr) (k0 k1 k2 k3 k5 : Option Value) (mN : Str → Option Value),
      h.get? C = some (excClassObj nm qn C N bs tl hd sn sub ab col dd k0 k1 k2 k3 k5 newId) ∧ h.Ns N mN ∧ mN "__init__" = none ∧ OwnTail h bmB tl := by
  unfold PySem.W.excIn at ok
  split at ok
  next dd cd sl lk =>
    split at ok
    next C1 tl k0 k1 k2 k3 nn k5 em es =>
      have parts : ((((C1 = C ∧ nn = newId) ∧ cd.hasDel = false) ∧ PySem.W.tailIn K bmB tl = true) ∧ PySem.W.nsOkIn K cd.ns = true) ∧ PySem.W.nsIn K cd.ns "__init__" = some none := by
        simpa only [Bool.and_eq_true, beq_iff_eq, Bool.not_eq_true'] using ok
      obtain ⟨⟨⟨⟨⟨p1, p2⟩, p3⟩, p4⟩, p5⟩, p6⟩ := parts
      subst p1 p2
      cases cd
      simp only at em p3 p5 p6
      subst em p3
      have : sl = #[k0, k1, k2, k3, some (.builtin nn), k5] := by
        cases sl
        simp only at es
        rw [es]
      subst this
      exact ⟨tl, _, _, _, _, _, _, _, _, _, dd, k0, k1, k2, k3, k5, _, kin _ _ lk, Heap.Ns.of_isNs (PySem.W.isNs_of_in kin p5), PySem.W.nsMap_none_of_in kin p5 p6, PySem.W.tail_of_in kin p4⟩
    next => cases ok
  next => cases ok
def Raises (X : Cx) (E : XK) : Prop := ∀ (pins : List (Addr × Obj)) (σ : St) (H : Hp) (s : Shared) (x : Addr) (cls : Value) (us : List Value) (h1 : Heap), Inv X pins σ H s → Heap.MadeExcOf s.heap h1 x cls us → E cls none H → X.xe (.ref x) { s with heap := h1 }
def tRaise (C : Addr) (t : TA) (E : XK) : TS := fun _ σ H => t σ H fun vs H1 => vs.length ≤ sizeLine ∧ E (.ref C) none H1
section
variable {X : Cx} {E : XK} {x : Str} {C : Addr} {np cpos pos : Pos} {e : Expr} {es : List Expr} {t : TA}
theorem ps_raise (hx : Raises X E) (hc : X.calm = true) (O : ExcAt X.K X.mg x C) (hg : Gl X x) (ha : PA X (e :: es) t) (hdb : (x == ("__debug__" : Str)) = false := by decide) (hs : (e :: es).all notStar = true := by rfl) :
    PS X (.Raise (some (.Call (.Name x np) (e :: es) [] cpos)) none pos) (tRaise C t E) := by
  intro pins s σ H D I h
  obtain ⟨tl, N, nm, qn, bs, hd, sn, sub, ab, col, dd, k0, k1, k2, k3, k5, mN, hC, hN, hni, T⟩ := exc_obj I.mod.kin O.ok
  have h1 := star_of (es := es) (env := X.env) (Bool.and_eq_true_iff.mp hs).1
  refine wpAny_Raise_call_subU (C := C) (nm := nm) (q := qn) (N := N) (bs := bs) (bm := tl) (hdct := hd) (sn := sn) (sub := sub) (ab := ab) (col := col) (dd := dd) (k0 := k0) (k1 := k1) (k2 := k2) (k3 := k3) (k5 := k5)
    PySem.F.excBase_ValueError (by decide +kernel) PySem.F.excBase_ValueError (mN := mN) (T.hasType (by decide +kernel)) (I.ok.hd hc) (star_all hs) hni (ld_glob I hg O.gl ⟨rfl, ?_⟩ hdb)
  have hA := ha cpos pins s σ H _ I h
  rw [h1] at hA ⊢
  refine Calls.evalArgs_plain (thn hA fun us s2 ⟨vs, H2, I2, r, z, q⟩ => ⟨rfl, by show us.length ≤ sizeLine; rw [← r.length]; exact z, I2.bk _ _ hC, hN.keeps I2.bk, T.keeps I2.bk, fun h' x' hm => hx pins σ H2 s2 x' _ us h' I2 hm q⟩)
end
section
variable {P : Program} {w : World} {K : PySem.W.Frag} {mg : Str → Option Value} {base : Heap} {N : List Str} {qual : Str} {scope : Scope} {f : Addr} {cd : Value} {A : Around} {outer : List Env} {s : Shared} {H : Hp} {E : XK}
theorem raises_def : Raises (cxOf (CXr P w) P w K mg base N qual scope f cd A outer s H E) E := fun _ _ _ _ _ _ _ _ I hm he => raiseR I hm he
theorem owns_def : PassesOwn (model P w) (cxOf (CXr P w) P w K mg base N qual scope f cd A outer s H E).A (cxOf (CXr P w) P w K mg base N qual scope f cd A outer s H E).env (cxOf (CXr P w) P w K mg base N qual scope f cd A outer s H E).xe := PassesOwn.leaving
end
structure OkR (P : Program) (w : World) (K : PySem.W.Frag) (mg : Str → Option Value) (base : Heap) (n : Nat) (x : Str) (ps : List Str) (sp : Sp) : Prop where
  ex : ∃ f fd, mg x = some (.ref f) ∧ PySem.W.keepIn K (.ref f) = true ∧ Binds K fd ps [] ∧ FnOk P w K mg base (CXr P w) n f fd ps sp
def tDefR (sp : Sp) (E : XK) (t : TA) : TE := fun σ H Q => t σ H fun vs H1 => sp vs H1 Q E
section
variable {P : Program} {w : World} {K : PySem.W.Frag} {mg : Str → Option Value} {base : Heap} {x : Str} {st : Stmt} {N ps : List Str} {k : Nat} {sp : Sp}
theorem OkD.toR {n : Nat} (G : OkD P w K mg base n x ps sp) : OkR P w K mg base n x ps sp := by
  obtain ⟨f, fd, a, b, c, d⟩ := G.ex
  refine ⟨f, fd, a, b, c, d.len, fun A outer s H args us vs Q E hr he hb hv hs => ?_⟩
  refine codeAny_mono (d.run A outer s H args us vs Q E hr he hb hv hs) fun r s' h => ?_
  cases r with
  | error e => exact False.elim h
  | ok fl => cases fl <;> exact h
theorem DefAt.okR (D : DefAt K mg x st ps) (S : FnScope N ps (defScope st)) (len : ∀ vs H Q E, sp vs H Q E → vs.length = ps.length)
    (hbody : ∀ (f : Addr) (cdv : Value) (A : Around) (outer : List Env) (s : Shared) (H : Hp) (vs : List V) (Q : VK) (E : XK), Room k (A.deeper (envOfC x (defScope st) s.heap.objs.size f cdv)) → sp vs H Q E →
      ∃ t, PSs (cxOf (CXr P w) P w K mg base N x (defScope st) f cdv A outer s H E) (defBody st) t ∧ t { nx := fun _ H' => Q .non H', rt := Q } (start N vs) H) : OkR P w K mg base (k + 1) x ps sp := by
  obtain ⟨f, fd, hm, F, hb⟩ := D.ex
  refine ⟨f, fd, hm, F.kp, hb, ?_⟩
  obtain ⟨oc, od, kV, doc, pm, an, cdv, ct, osl, rfl, lk, hcd⟩ := F.ex
  exact fn_of lk hcd S len fun A outer s H vs Q E hr hsp => hbody f cdv A outer s H vs Q E hr hsp
theorem DefAt.neverR (D : DefAt K mg x st ps) (n : Nat) (h : ∀ vs H Q E, ¬ sp vs H Q E) : OkR P w K mg base n x ps sp := (D.never n h).toR
end
section
variable {X : Cx} {E : XK} {k n : Nat} {ps : List Str} {sp : Sp} {x : Str} {p pos : Pos} {e : Expr} {es : List Expr} {t : TA}
theorem pe_defR (G : OkR X.prog X.w X.K X.mg X.base k x ps sp) (hx : Passes (CXr X.prog X.w) X E) (hr : Room n X.A) (hg : Gl X x) (ha : PA X (e :: es) t) (hk : k ≤ n := by omega) (hdb : (x == ("__debug__" : Str)) = false := by decide)
    (hs : (e :: es).all notStar = true := by rfl) : PE X (.Call (.Name x p) (e :: es) [] pos) (tDefR sp E t) := by
  obtain ⟨f, fd, hm, kp, hb, F⟩ := G.ex
  intro pins s σ H Q I h
  refine pe_call F (hr.mono hk) hg hm kp hb .nil hx ha hdb (star_of (Bool.and_eq_true_iff.mp hs).1) (star_all (Bool.and_eq_true_iff.mp hs).2) pins s σ H Q I ?_
  have e : (fun vs H1 => sp (vs ++ []) H1 Q E) = fun vs H1 => sp vs H1 Q E := by funext vs H1; rw [List.append_nil]
  show t σ H fun vs H1 => sp (vs ++ []) H1 Q E
  rw [e]
  exact h
end
abbrev Cx.marked (X : Cx) (x : Addr) : Cx := { X with A := X.A.mark (some (.ref x)), calm := false, xe := fun _ _ => False }
section
variable {X : Cx} {pins : List (Addr × Obj)} {σ : St} {H : Hp} {s : Shared}
theorem Inv.marked (I : Inv X pins σ H s) (x : Addr) : Inv (X.marked x) pins σ H s :=
  have ok := I.ok
  ⟨⟨ok.mod, ok.kind, ok.glob, ok.blt, ok.above, ok.inj, ok.has, ok.cab, fun z => absurd z Bool.false_ne_true, ok.frames, ok.stk, ok.exf, ok.bs, ok.bsz, ok.noex, ok.exfs, ok.funs, ok.frf⟩, I.os, I.bare, I.base, I.loc, I.cell, I.free, I.freeC, I.pin, I.hok, I.len⟩
theorem Inv.unmarked {x : Addr} (I : Inv (X.marked x) pins σ H s) (ok : X.Ok) : Inv X pins σ H s := ⟨ok, I.os, I.bare, I.base, I.loc, I.cell, I.free, I.freeC, I.pin, I.hok, I.len⟩
structure Far (X : Cx) (pins : List (Addr × Obj)) (b : Addr) : Prop where
  old : X.s₀.heap.get? b = none
  loc : b ≠ X.env.locals
  cel : ∀ y c, X.env.cells.lookup y = some c → c ≠ b
  pin : ∀ p ∈ X.pn ++ pins, p.1 ≠ b
theorem Inv.far (I : Inv X pins σ H s) {b : Addr} (h : s.heap.get? b = none) (hex : X.ex = []) : Far X pins b where
  old := by
    cases q : X.s₀.heap.get? b with
    | none => rfl
    | some o =>
      obtain ⟨o1, r⟩ := I.base.there b o q (by rw [hex]; simp)
      rw [h] at r; cases r
  loc := fun z => by
    obtain ⟨m, ⟨o, _, _, q, _⟩, _⟩ := I.loc
    rw [← z, h] at q; cases q
  cel := fun y c e z => by
    obtain ⟨v, o, q, _⟩ := I.cell y c e
    rw [z, h] at q; cases q
  pin := fun p hp z => by
    have q := (I.pin p hp).1
    rw [z, h] at q; cases q
theorem Inv.noted {x : Addr} {ts : List Addr} {h' : Heap} {tk : Nat} (I : Inv X pins σ H s) (k : Kept x ts (frs X.stack) s.heap h') (fx : Far X pins x) (hx : H x = none) (ft : ∀ b ∈ ts, Far X pins b ∧ H b = none) : Inv X pins σ H { s with heap := h', toks := tk } := by
  have far : ∀ b, (b = x ∨ b ∈ ts) → Far X pins b ∧ H b = none := fun b hb => by
    rcases hb with rfl | hb
    · exact ⟨fx, hx⟩
    · exact ft b hb
  have nf : ∀ b, ¬ (Far X pins b ∧ H b = none) → b ≠ x ∧ b ∉ ts := fun b n => ⟨fun z => n (far b (.inl z)), fun z => n (far b (.inr z))⟩
  have slot : ∀ b o, s.heap.get? b = some o → ¬ (Far X pins b ∧ H b = none) → ∃ sl, h'.get? b = some { o with slots := sl } := fun b o q n => k.slot b o q (nf b n).1 (nf b n).2
  have keep : ∀ b o, s.heap.get? b = some o → ¬ (Far X pins b ∧ H b = none) → b ∉ frs X.stack → h'.get? b = some o := fun b o q n n3 => k.keep b o q (nf b n).1 (nf b n).2 n3
  have s0 : ∀ b o, X.s₀.heap.get? b = some o → ¬ (Far X pins b ∧ H b = none) := fun b o q z => by rw [z.1.old] at q; cases q
  refine ⟨I.ok, I.os, I.bare, ⟨fun b o e n1 n2 n3 => ?_, fun b o e n1 n2 n3 => ?_, I.base.free, fun b o e n3 => ?_, I.base.tups, I.base.frzs, I.base.tbls⟩, ?_, fun y c e => ?_, I.free, I.freeC, fun p hp => ?_, fun a o q => ?_, I.len⟩
  · refine keep b o (I.base.keep b o e n1 n2 n3) (s0 b o e) fun z => ?_
    rcases List.mem_cons.mp (I.stkSub b z) with q | q
    · have l1 : b < X.s₀.heap.objs.size := Heap.lt_size e
      rw [q] at l1
      exact absurd (Nat.lt_of_lt_of_le l1 I.ok.above) (Nat.lt_irrefl _)
    · exact n2 q
  · obtain ⟨sl, q⟩ := I.base.slot b o e n1 n2 n3
    obtain ⟨sl', r⟩ := slot b _ q (s0 b o e)
    exact ⟨sl', r⟩
  · obtain ⟨o1, q⟩ := I.base.there b o e n3
    obtain ⟨sl', r⟩ := slot b _ q (s0 b o e)
    exact ⟨_, r⟩
  · obtain ⟨m, ⟨o, es, ep, q, hd, hk⟩, hl⟩ := I.loc
    obtain ⟨sl, r⟩ := slot _ o q fun z => z.1.loc rfl
    refine ⟨m, ⟨_, es, ep, r, hd, hk⟩, fun i y v a b c => ?_⟩
    obtain ⟨u, ru, l⟩ := hl i y v a b c
    refine ⟨u, ru, ?_⟩
    rcases l with l | ⟨l, cc, e, o', q', hd'⟩
    · exact .inl l
    · obtain ⟨sl', r'⟩ := slot cc o' q' fun z => z.1.cel y cc e rfl
      exact .inr ⟨l, cc, e, _, r', hd'⟩
  · obtain ⟨v, o, q, hd⟩ := I.cell y c e
    obtain ⟨sl, r⟩ := slot c o q fun z => z.1.cel y c e rfl
    exact ⟨v, _, r, hd⟩
  · obtain ⟨p1, p2, p3, p4, p5⟩ := I.pin p hp
    refine ⟨keep p.1 p.2 p1 (fun z => z.1.pin p hp rfl) fun z => ?_, p2, p3, p4, p5⟩
    rcases List.mem_cons.mp (I.stkSub p.1 z) with q | q
    · exact p3 q
    · exact p4 q
  · refine (I.hok a o q).stay (fun b u hb r => ?_) (fun _ z => z) fun _ _ z => z
    have tr : ∀ {c : Addr} {w' : HO}, H c = some w' → ∀ u, s.heap.get? c = some u → h'.get? c = some u := fun {c w'} hc u r =>
      keep c u r (fun z => by rw [z.2] at hc; cases hc) fun z => by rw [I.stkFree c z] at hc; cases hc
    rcases hb with rfl | hb
    · exact tr q u r
    · exact tr hb u r
theorem Inv.track {x : Addr} {o : HO} (I : Inv X pins σ H s) (fx : Far X pins x) (hx : H x = none) (ho : ObjOk X.prog X.w (upd H x o) s.heap x o) : Inv X pins σ (upd H x o) s := by
  have H0 : X.H₀ x = none → ∀ b u, X.H₀ b = some u → b ≠ x := fun z b u q e => by rw [e, z] at q; cases q
  refine ⟨I.ok, I.os, I.bare, ⟨I.base.keep, I.base.slot, fun b q e n1 n3 => ?_, I.base.there, fun b xs q => ?_, fun b a u q => ?_, fun b ps q => ?_⟩, I.loc, I.cell, ?_, fun y c e => ?_, fun p hp => ?_, fun a u q => ?_, I.len⟩
  · rw [upd_ne (fun z => by rw [z, fx.old] at e; cases e)]
    exact I.base.free b q e n1 n3
  · have r := I.base.tups b xs q
    rw [upd_ne (ne_of_none r hx)]; exact r
  · have r := I.base.frzs b a u q
    rw [upd_ne (ne_of_none r hx)]; exact r
  · obtain ⟨more, r⟩ := I.base.tbls b ps q
    exact ⟨more, by rw [upd_ne (ne_of_none r hx)]; exact r⟩
  · rw [upd_ne (Ne.symm fx.loc)]; exact I.free
  · rw [upd_ne (fx.cel y c e)]; exact I.freeC y c e
  · obtain ⟨p1, p2, p3, p4, p5⟩ := I.pin p hp
    exact ⟨p1, by rw [upd_ne (fx.pin p hp)]; exact p2, p3, p4, p5⟩
  · by_cases z : a = x
    · subst z; rw [upd_same] at q; cases q; exact ho
    · rw [upd_ne z] at q
      exact (I.hok a u q).stay (fun b v _ r => r) (fun b r => by rw [upd_ne (ne_of_none r hx)]; exact r) fun b xs r => by rw [upd_ne (ne_of_none r hx)]; exact r
theorem Inv.gone {i : Nat} {n : Str} {h' : Heap} {tk : Nat} {m : Str → Option Value} {v : Option Value} (I : Inv X pins σ H s) (nd : X.N.Nodup) (hi : X.N[i]? = some n)
    (hl : ∀ (j : Nat) (x : Str) (v : V), X.N[j]? = some x → σ[j]? = some (some v) → Vis X.env.scope x → ∃ u, RelV v u ∧ Look X.env s.heap m x u)
    (hn : h'.Ns X.env.locals fun y => if y = n then v else m y) (hs : Heap.SameBut X.env.locals s.heap h') : Inv X pins (σ.set i none) H { s with heap := h', toks := tk } := by
  have s0 : ∀ b o, X.s₀.heap.get? b = some o → b ≠ X.env.locals := fun b o e z => by
    have l1 : b < X.s₀.heap.objs.size := Heap.lt_size e
    rw [z] at l1
    exact absurd (Nat.lt_of_lt_of_le l1 I.ok.above) (Nat.lt_irrefl _)
  refine ⟨I.ok, I.os, I.bare, ⟨fun b o e n1 n2 n3 => (hs.2 b (s0 b o e)).trans (I.base.keep b o e n1 n2 n3), fun b o e n1 n2 n3 => ?_, I.base.free, fun b o e n3 => ?_, I.base.tups, I.base.frzs, I.base.tbls⟩, ⟨_, hn, fun j y w a b c => ?_⟩, fun y c e => ?_, I.free, I.freeC, fun p hp => ?_, fun a o q => ?_, by rw [List.length_set]; exact I.len⟩
  · obtain ⟨sl, q⟩ := I.base.slot b o e n1 n2 n3
    exact ⟨sl, (hs.2 b (s0 b o e)).trans q⟩
  · obtain ⟨o1, q⟩ := I.base.there b o e n3
    exact ⟨o1, (hs.2 b (s0 b o e)).trans q⟩
  · have ji : j ≠ i := fun z => by
      subst z
      rw [List.getElem?_set] at b
      split at b
      · split at b <;> cases b
      · rename_i q; exact q rfl
    rw [List.getElem?_set_ne (Ne.symm ji)] at b
    obtain ⟨u, ru, l⟩ := hl j y w a b c
    have yn : y ≠ n := fun z => by
      subst z
      exact ji ((List.getElem?_inj (List.getElem?_eq_some_iff.mp a).1 nd).mp (a.trans hi.symm))
    refine ⟨u, ru, ?_⟩
    rcases l with ⟨l1, l2⟩ | ⟨l, cc, e, o', q', hd'⟩
    · exact .inl ⟨l1, by show (if y = n then v else m y) = _; rw [if_neg yn]; exact l2⟩
    · exact .inr ⟨l, cc, e, o', (hs.2 cc (I.cne y cc e)).trans q', hd'⟩
  · obtain ⟨w, o, q, hd⟩ := I.cell y c e
    exact ⟨w, o, (hs.2 c (I.cne y c e)).trans q, hd⟩
  · obtain ⟨p1, p2, p3, p4, p5⟩ := I.pin p hp
    exact ⟨(hs.2 p.1 p3).trans p1, p2, p3, p4, p5⟩
  · refine (I.hok a o q).stay (fun b u hb r => (hs.2 b fun z => ?_).trans r) (fun _ z => z) fun _ _ z => z
    rcases hb with rfl | hb
    · rw [z, I.free] at q; cases q
    · rw [z, I.free] at hb; cases hb
end
def ExcIs (x C : Addr) (h : Heap) : Prop := ∃ ox, PySem.W.InstAt h x ox C none
def excO (x C : Addr) : HO := .ext (ExcIs x C)
theorem Fly.exc {h : Heap} {x T C : Addr} {fl : Value} (F : Fly h x T (.ref C) fl) : ExcIs x C h := by
  obtain ⟨oe, vs, oT, ts, hx, hc, hdc, hd, _⟩ := F.ex
  refine ⟨oe, hx, hc, ?_, ?_⟩
  · cases oe with | mk c d dt sl => cases hd; rfl
  · rw [hdc]; exact True.intro
theorem excO_ok {P : Program} {w : World} {H : Hp} {h : Heap} {x C : Addr} (e : ExcIs x C h) : ObjOk P w H h x (excO x C) := by
  refine ⟨e, ?_, fun h1 h2 q k => ?_⟩
  · obtain ⟨ox, i⟩ := e; exact ⟨ox, i.at_⟩
  · obtain ⟨ox, i⟩ := q
    refine ⟨ox, k _ i.at_, i.cls, i.no, ?_⟩
    have z := i.dict
    revert z
    cases ox.dict with
    | none => exact fun _ => True.intro
    | some d => exact fun z => z.elim
section
open PySem.W
theorem exc_cls {prog : Program} {w : World} {A : Around} {E : Value → Shared → Prop} {Q : Option Value → Shared → Prop} {s : Shared} {K : PySem.W.Frag} {x C : Addr} {ox : Obj} {odo : Option Obj} (X : K.In s.heap) (I : InstAt s.heap x ox C odo)
    (hga : findIn K (.ref C) "__getattribute__" = some (some (.builtin "BaseException.__getattribute__"))) (hgt : findIn K (.ref C) "__getattr__" = some none)
    (hf : findObj K C odo "__class__" = some (.bind (.builtin "getset_descriptor.__get__") (.builtin "object.__class__"))) (hmB : mroIn K C (.type "BaseException") = some true) (hmO : mroIn K C (.type "object") = some true)
    (k : Q (some (.ref C)) { s with toks := s.toks + 1 }) : wpAny (model prog w) A (getAttr? (.ref x) "__class__") Q E s := by
  obtain ⟨hh, g, d, t, os⟩ := s
  have L0 := I.type (M := model prog w)
  have L1 := looks_findIn (M := model prog w) X hga
  have L2 := looks_findIn (M := model prog w) X hgt
  have L3 := looks_mroIn (M := model prog w) X hmB
  have L4 := looks_find (M := model prog w) X I hf
  unfold getAttr? getAttrBy? getAttrBy
  refine wpAny_bind (wpAny_mkText (wpAny_bind (wpAny_attempt (wpAny_holding (wpAny_bind (L0.at (wpAny_bind (L1.at ?_))))))))
  show wpAny _ _ (getAttrByItsOwn _ _ _ _ _ _) _ _ _
  unfold getAttrByItsOwn
  refine wpAny_bind (L2.at ?_)
  refine wpAny_bind (wpAny_attempt (wpAny_holding ?_))
  show wpAny _ _ (boundAndCalled _ _ _) _ _ _
  unfold boundAndCalled
  have FB := PySem.F.attrBase_ValueError
  rw [FB.ga.bind (.ref x)]
  refine wpAny_bind (wpAny_pure ?_)
  refine wpAny_call (codeAny_call_builtin FB.ga.plain F.entry_bexc_ga ?_)
  have hk : builtinKind "BaseException.__getattribute__" = some .slot := by decide +kernel
  have hsplit : splitId "BaseException.__getattribute__" = some ("BaseException", "__getattribute__") := by decide +kernel
  have ha := F.args_bexc_ga (.ref x) (.str "__class__" t)
  simp only [checkBuiltinCall, hk, hsplit]
  refine wpAny_bind ?_
  unfold isInstance
  repeat (first | assumption | (with_reducible refine wpAny_call (class_get (ox := ox) (od := odo) X I hmO ?_)) | lk | wp_step)
end
structure PlainX (K : PySem.W.Frag) (C : Addr) : Prop where
  ga : PySem.W.findIn K (.ref C) "__getattribute__" = some (some (.builtin "BaseException.__getattribute__"))
  gt : PySem.W.findIn K (.ref C) "__getattr__" = some none
  mroB : PySem.W.mroIn K C (.type "BaseException") = some true
  cls : (PySem.W.clsIn K C).isSome = true
  fnd : PySem.W.findIn K (.ref C) "__class__" = some (some (.builtin "object.__class__"))
  spc : PySem.W.specialIn K (.builtin "object.__class__") "__get__" = some (some (.builtin "getset_descriptor.__get__"))
  tak : PySem.W.takesIn K (.builtin "object.__class__") = some true
  mro : PySem.W.mroIn K C (.type "object") = some true
theorem kitx_exc {K : PySem.W.Frag} {x C : Addr} (p : PlainX K C) : PySem.W.KitX K (.ref x) (.ref C) (ExcIs x C) where
  ty := fun _ _ _ ⟨_, i⟩ => i.type
  it := fun M h X _ => by
    obtain ⟨cd, hc⟩ := Option.isSome_iff_exists.mp p.cls
    unfold PySem.W.clsIn at hc
    split at hc
    · next c' d' cd' sl' ho =>
      intro A' Q' E' s' k q
      unfold isType loadHead
      exact wpAny_bind (wpAny_loadPart (k _ _ (X _ _ ho)) (wpAny_pure q))
    · cases hc
  ne := fun h tp dd its n sl X htp => by
    obtain ⟨cd, hc⟩ := Option.isSome_iff_exists.mp p.cls
    refine Bool.eq_false_iff.mpr fun q => ?_
    obtain rfl : C = tp := Value.ref.inj (beq_iff_eq.mp q)
    unfold PySem.W.clsIn at hc
    split at hc
    · next c' d' cd' sl' ho =>
      have z := (X _ _ ho).symm.trans htp
      cases z
    · cases hc
  ca := fun {prog w A E Q s} X e k => by
    obtain ⟨ox, i⟩ := e
    have hf : PySem.W.findObj K C none "__class__" = some (.bind (.builtin "getset_descriptor.__get__") (.builtin "object.__class__")) := by
      obtain ⟨cd, hc⟩ := Option.isSome_iff_exists.mp p.cls
      unfold PySem.W.findObj
      simp [hc, p.fnd, p.spc, p.tak]
    exact exc_cls X i p.ga p.gt hf p.mroB p.mro k
def rIsiX (K : PySem.W.Frag) : List V → Hp → VK → Prop := fun xs H Q => ∃ x C c cv b, xs = [.ref x, c] ∧ H x = some (excO x C) ∧ PlainX K C ∧ (c = .ref cv ∧ PySem.W.kitOne K (.ref C) (.ref cv) = some b ∧ Q (.bl b) H)
theorem call_isinstX {X : Cx} : CallR X (.builtin "isinstance") (rIsiX X.K) := by
  intro pins s σ H xs us Q I r h
  obtain ⟨x, C, c, cv, b, rfl, hx, p, rfl, e, q⟩ := h
  obtain ⟨u, w', rfl, ru, rw'⟩ := vals2 r
  cases ru
  cases rw'
  obtain ⟨ex, _, _⟩ := (show ObjOk X.prog X.w H s.heap x (excO x C) from I.hok x _ hx)
  exact PySem.W.kia_one (kitx_exc p) I.kIn ex e (fun z => nomatch z) fun tk => ⟨.bl b, H, I.tok _, rfl, q⟩
def rIsiXT (K : PySem.W.Frag) : List V → Hp → VK → Prop := fun xs H Q => ∃ x C T b, xs = [.ref x, .ty T] ∧ H x = some (excO x C) ∧ PlainX K C ∧ PySem.W.kitOne K (.ref C) (.type T) = some b ∧ Q (.bl b) H
theorem call_isinstXT {X : Cx} : CallR X (.builtin "isinstance") (rIsiXT X.K) := by
  intro pins s σ H xs us Q I r h
  obtain ⟨x, C, T, b, rfl, hx, p, e, q⟩ := h
  obtain ⟨u, w', rfl, ru, rw'⟩ := vals2 r
  cases ru
  cases rw'
  obtain ⟨ex, _, _⟩ := (show ObjOk X.prog X.w H s.heap x (excO x C) from I.hok x _ hx)
  exact PySem.W.kia_one (kitx_exc p) I.kIn ex e (fun z => nomatch z) fun tk => ⟨.bl b, H, I.tok _, rfl, q⟩
abbrev TX := St → Hp → VK → XK → Prop
def PEX (X : Cx) (e : Expr) (t : TX) : Prop :=
  ∀ (pins : List (Addr × Obj)) (s : Shared) (σ : St) (H : Hp) (Q : VK) (E : XK), Inv X pins σ H s → t σ H Q E →
    wpAny (model X.prog X.w) X.A (eval e X.env) (EP X pins σ Q) (fun ev s' => ∃ H1 s1, Inv X pins σ H1 s1 ∧ CXr X.prog X.w X.stack H1 s1 E ev s') s
def tCallX (sp : Sp) (t : TA) : TX := fun σ H Q E => t σ H fun vs H1 => sp vs H1 Q E
section
variable {X : Cx} {k n : Nat} {ps : List Str} {sp : Sp} {x : Str} {p pos : Pos} {e : Expr} {es : List Expr} {t : TA}
theorem pex_def (G : OkR X.prog X.w X.K X.mg X.base k x ps sp) (hr : Room n X.A) (hg : Gl X x) (ha : PA X.nox (e :: es) t) (hk : k ≤ n := by omega) (hdb : (x == ("__debug__" : Str)) = false := by decide)
    (hs : (e :: es).all notStar = true := by rfl) : PEX X (.Call (.Name x p) (e :: es) [] pos) (tCallX sp t) := by
  obtain ⟨f, fd, hm, kp, hb, F⟩ := G.ex
  intro pins s σ H Q E I h
  refine wpAny_Call_Name_kw (ld_glob I hg hm ?_ hdb)
  have hA := ha pos pins s σ H _ (I.wish _) h
  refine PySem.W.callWith_K (h₀ := X.base) I.ok.mod.kin kp (wpAny_mono hA (fun us s1 ⟨vs, H1, I1, r, q⟩ => ⟨I1.unwish.kIn, ?_⟩) fun _ _ z => z.elim) (star_of (Bool.and_eq_true_iff.mp hs).1) (star_all (Bool.and_eq_true_iff.mp hs).2)
  have I1 := I1.unwish
  have hl : us.length = ps.length := by rw [← r.length]; exact F.len _ _ _ _ q
  have bs := hb s1 us I1.kIn (by rw [List.append_nil]; exact hl)
  rw [List.append_nil] at bs
  refine wpAny_call (codeAny_mono (F.run X.A X.stack s1 H1 ⟨us, []⟩ us vs Q E (hr.mono hk) I1.env0 bs r q) fun fl s' z => ?_)
  cases fl with
  | error ev => exact ⟨H1, s1, I1, z⟩
  | ok fl =>
    cases fl with
    | ret u => exact I1.after z
    | next => exact False.elim z
    | brk => exact False.elim z
    | cont => exact False.elim z
end
def tTry1 (K : PySem.W.Frag) (B : Addr) (i : Nat) (t : TX) (th : TS) : TS := fun D σ H => t σ H (fun _ H1 => D.nx σ H1) fun cls _ H1 => ∃ C, cls = .ref C ∧ PySem.W.exmOne K (.ref C) (.ref B) = some true ∧
  ∀ x H2, H1 x = none → Same H1 H2 → H2 x = some (excO x C) → th { nx := fun σ' H' => D.nx (σ'.set i none) H', rt := D.rt, bk := fun σ' H' => D.bk (σ'.set i none) H', ct := fun σ' H' => D.ct (σ'.set i none) H' } (σ.set i (some (.ref x))) H2
section
variable {X : Cx} {B : Addr} {i : Nat} {n cx : Str} {e : Expr} {b0 : Stmt} {suite : List Stmt} {ep np hpos pos : Pos} {t : TX} {th : TS}
theorem ps_try1 (hstk : X.stack = X.env :: X.outer) (hfr : X.env.frame = some X.env.locals) (hex : X.ex = []) (hb : PEX X e t) (hg : Gl X cx) (hm : X.mg cx = some (.ref B)) (nd : X.N.Nodup) (hi : X.N[i]? = some n) (hlo : X.env.scope.names.lookup n = some .local)
    (hh : ∀ x, PSs (X.marked x) (b0 :: suite) th) (hs : swapsWith e none ep.line X.env = pure false := by rfl) (hdb : (cx == ("__debug__" : Str)) = false := by decide) :
    PS X (.Try [.Expr e ep] [.ExceptHandler (some (.Name cx np)) (some n) (b0 :: suite) hpos] [] [] pos) (tTry1 X.K B i t th) := by
  intro pins s σ H D I h
  refine wpAny_Try_except (wpAny_execs_cons (wpAny_Expr_any (wpAny_mono (hb pins s σ H _ _ I h) (fun v s1 ⟨y, H1, I1, r1, q1⟩ => wpAny_execs_nil (wpAny_execs_nil ⟨σ, H1, I1, q1⟩)) fun ev s' hx => ?_) I.quiet hs))
  obtain ⟨H1, s1, I1, x, T, cls, H', rfl, os, bare, un, hok, F, hx, hT, hxH, hTH, C, rfl, hex1, hth⟩ := hx
  have I' := I1.raised os bare un hok
  have fx : Far X pins x := I1.far hx hex
  have fT : Far X pins T := I1.far hT hex
  have hA : X.A.frames = some (X.env :: X.outer) := by rw [← hstk]; exact I.ok.frames
  have hF : s'.heap.FunFrames X.base (X.env :: X.outer) := by rw [← hstk]; exact I'.stack
  refine note_next hA hF hfr F fun h2 T2 k2 n2 f2 => flight_exact f2 fun h3 o3 f3 => ?_
  have k3 : Kept x [T] (frs X.stack) s'.heap h3 := by rw [hstk]; exact k2.flew n2 o3
  have I3 : Inv X pins σ H' { s' with heap := h3 } := I'.noted (tk := s'.toks) k3 fx hxH (fun b hb => by cases List.mem_singleton.mp hb; exact ⟨fT, hTH⟩)
  have fT2 : Far X pins T2 := I'.far n2 hex
  have hT2H : H' T2 = none := by
    cases q : H' T2 with
    | none => rfl
    | some u =>
      obtain ⟨o1, r⟩ := I'.tracked q
      rw [n2] at r; cases r
  have LT : PySem.W.Looks (model X.prog X.w) h3 (typeOf (.ref x)) (.ref C) := by
    obtain ⟨ox, i⟩ := f3.exc
    exact i.type
  have M3 := I3.marked x
  refine wpAny_handleBy_cons (codeAny_handlers_test (ld_glob M3 hg hm ?_ hdb)) (by intro q; cases q)
  refine (PySem.W.exm_one I3.kIn LT hex1).at (codeAny_handlers_suite_as ?_)
  refine flight_exact f3 fun h4 o4 f4 => ?_
  have I4 : Inv X pins σ H' { s' with heap := h4 } := by
    refine I3.noted (x := x) (ts := [T2]) (tk := s'.toks) ⟨fun b o q n1 n2 n3 => ?_, fun b o q n1 n2 => ?_⟩ fx hxH (fun b hb => by cases List.mem_singleton.mp hb; exact ⟨fT2, hT2H⟩)
    · exact (o4 b fun z => n2 (by rw [z]; exact List.mem_singleton_self _)).trans q
    · exact ⟨o.slots, (o4 b fun z => n2 (by rw [z]; exact List.mem_singleton_self _)).trans q⟩
  have I5 := I4.track (o := excO x C) fx hxH (excO_ok f4.exc)
  refine store_ok (X := X) (v := .ref x) I5 nd hi (.inl hlo) rfl (fun s6 I6 => ?_) (.inr hlo)
  have hth' := hth x (upd H' x (excO x C)) hxH (same_new hxH _) upd_same
  refine wpAny_mono (hh x pins s6 _ _ _ (I6.marked x) hth') (fun fl s7 q7 => ?_) fun _ _ z => z.elim
  have fin : ∀ {σ' : St} {H7 : Hp} {R : Shared → Prop}, Inv (X.marked x) pins σ' H7 s7 → (∀ s8, Inv X pins (σ'.set i none) H7 s8 → R s8) → wpAny (model X.prog X.w) X.A (do bindName X.env n .none; unbindBehindTheSuite X.env n hpos) (fun _ s8 => R s8) X.xe s7 := fun {σ' H7 R} M7 hR => by
    have I7 := M7.unmarked I.ok
    obtain ⟨m, hn, hl⟩ := I7.loc
    exact wpAny_nameGoes_keeps hlo hn (by rw [I7.ok.kind]; rfl) fun h8 v hn8 hs8 => hR _ (I7.gone nd hi hl hn8 hs8)
  cases fl with
  | next => obtain ⟨σ7, H7, M7, q⟩ := q7; exact fin M7 fun s8 I8 => ⟨_, _, I8, q⟩
  | brk => obtain ⟨σ7, H7, M7, q⟩ := q7; exact fin M7 fun s8 I8 => ⟨_, _, I8, q⟩
  | cont => obtain ⟨σ7, H7, M7, q⟩ := q7; exact fin M7 fun s8 I8 => ⟨_, _, I8, q⟩
  | ret u => obtain ⟨v, σ7, H7, M7, rv, q⟩ := q7; exact fin M7 fun s8 I8 => ⟨v, _, _, I8, rv, q⟩
end
end L2
namespace L2
open PySem PySem.Spec PyProof.Rows
abbrev Cx.comp (X : Cx) (scope : Scope) (cl : List (Str × Addr)) (N : List Str) (C : Addr) (fp : List Addr) (s₀ : Shared) (H₀ : Hp) : Cx :=
  { X with N := N, s₀ := s₀, H₀ := H₀, env := compEnvC scope cl C X.env, outer := X.stack, ex := fp, fn := fun _ => false, pn := [], xe := fun _ _ => False }
structure CompScope (X : Cx) (scope : Scope) (cl : List (Str × Addr)) (N : List Str) (cap : List Nat) : Prop where
  kind : scope.kind = .function
  clos : X.Ok → closureFor scope X.env = pure cl
  ncell : ∀ y ∈ scope.names, y.2 ≠ .cell
  names : ∀ y ∈ scope.names, y.2 = .local → scope.names.lookup y.1 = some .local
  nd : N.Nodup
  has : ∀ y, ((relabel scope X.env).names.lookup y = some .cell ∨ (relabel scope X.env).names.lookup y = some .free) → ∃ c, cl.lookup y = some c
  sub : X.Ok → ∀ y c, cl.lookup y = some c → X.env.cells.lookup y = some c
  len : N.length = cap.length + 1
  cap : ∀ (j i : Nat) (y : Str), N[j + 1]? = some y → cap[j]? = some i → X.N[i]? = some y ∧ Vis X.env.scope y ∧ X.env.kindOf y ≠ some .local ∧ ((relabel scope X.env).names.lookup y = some .cell ∨ (relabel scope X.env).names.lookup y = some .free)
def capOf (σ : St) (cap : List Nat) : St := cap.map fun i => (σ[i]?).join
def tComp (cap : List Nat) (wi : TI) (tc : TT) (te : TE) : TE := fun σ H Q => wi σ H fun J H1 => ∀ D, H1 D = none → ∃ W : Nat → Nat → Hp → Prop, (∃ m, W 0 m (upd H1 D (.lst []))) ∧ ∀ i m H, W i m H →
  (J.stop i H ∧ Q (.ref D) H) ∨ (J.go i H ∧ ∀ x H', J.yld i H x H' → tc (some x :: capOf σ cap) H' fun b H2 => if b = true then te (some x :: capOf σ cap) H2 fun v H3 => ∃ ys, H3 D = some (.lst ys) ∧ ys.length < sizeLine ∧ ∃ m', m' < m ∧ W (i + 1) m' (upd H3 D (.lst (ys ++ [v])))
    else ∃ m', m' < m ∧ W (i + 1) m' H2)
section
variable {X : Cx} {pins : List (Addr × Obj)} {σ : St} {H : Hp} {s : Shared} {scope : Scope} {cl : List (Str × Addr)} {N : List Str} {cap : List Nat}
theorem Inv.enter {fp : List Addr} {h' : Heap} {tk : Nat} (S : CompScope X scope cl N cap) (I : Inv X pins σ H s) (f : ∀ b ∈ fp, FpOk X pins H b ∧ b < s.heap.objs.size) (hn : h'.Ns s.heap.objs.size fun _ => none)
    (k : ∀ b o, s.heap.get? b = some o → h'.get? b = some o) : Inv (X.comp scope cl N s.heap.objs.size fp s H) [] (none :: capOf σ cap) H { s with heap := h', toks := tk } := by
  have nC : ∀ b o, s.heap.get? b = some o → b ≠ s.heap.objs.size := fun b o e => Nat.ne_of_lt (Heap.lt_size e)
  have ok := I.ok
  have cellOut : ∀ y c, cl.lookup y = some c → ∃ v, s.heap.IsCell c v := fun y c e => I.cell y c (S.sub I.ok y c e)
  refine ⟨⟨ok.mod, ?_, ok.glob, ok.blt, Nat.le_refl _, fun x y c a b => ok.inj x y c (S.sub I.ok x c a) (S.sub I.ok y c b), S.has, fun _ _ z => absurd z Bool.false_ne_true, ok.hd, ok.frames, .inl rfl, fun b hb => ⟨Nat.ne_of_lt (f b hb).2, fun y c e => (f b hb).1.2.2.2.2.1 y c (S.sub I.ok y c e)⟩, I.bs, Nat.le_trans ok.bsz I.sz, fun b o e hb => ?_, fun b hb z => ?_, I.stack, I.stkFree⟩,
    rfl, I.bare, Un.kept k, ⟨_, hn, fun i y v a b c => ?_⟩, fun y c e => ?_, I.hok.fresh (Nat.le_refl _), fun y c e => I.freeC y c (S.sub I.ok y c e), fun p hp => by simp at hp, I.hok.kept k, ?_⟩
  · exact S.kind
  · have := (f b hb).1.2.2.2.1
    rcases this with z | z
    · exact ok.noex b o e z
    · have l1 := Heap.lt_size e
      exact absurd (Nat.lt_of_lt_of_le l1 (Nat.le_trans ok.bsz z)) (Nat.lt_irrefl _)
  · rcases List.mem_cons.mp (I.stkSub b z) with q | q
    · exact (f b hb).1.2.1 q
    · exact (f b hb).1.2.2.1 q
  · cases i with
    | zero => simp at b
    | succ j =>
      simp only [List.getElem?_cons_succ] at b
      unfold capOf at b
      rw [List.getElem?_map] at b
      cases e : cap[j]? with
      | none => rw [e] at b; cases b
      | some i =>
        rw [e] at b
        have b : (σ[i]?).join = some v := by simpa using b
        obtain ⟨p1, p2, p3, p4⟩ := S.cap j i y a e
        have b' : σ[i]? = some (some v) := by
          cases q : σ[i]? with
          | none => rw [q] at b; cases b
          | some w => rw [q] at b; exact congrArg some b
        obtain ⟨m, hm, hl⟩ := I.loc
        obtain ⟨u, ru, l⟩ := hl i y v p1 b' p2
        refine ⟨u, ru, .inr ⟨p4, ?_⟩⟩
        rcases l with l | ⟨l, c0, e0, o', q', hd'⟩
        · exact absurd l.1 p3
        · obtain ⟨c, ec⟩ := S.has y p4
          have := S.sub I.ok y c ec
          rw [e0] at this
          cases this
          exact ⟨c0, ec, o', k _ _ q', hd'⟩
  · obtain ⟨v, o, q, hd⟩ := cellOut y c e
    exact ⟨v, o, k _ _ q, hd⟩
  · show (none :: capOf σ cap).length = N.length
    rw [S.len, List.length_cons]
    unfold capOf
    rw [List.length_map]
end
def PTs (X : Cx) (ifs : List Expr) (t : TT) : Prop :=
  ∀ (pins : List (Addr × Obj)) (s : Shared) (σ : St) (H : Hp) (Q : Bool → Hp → Prop), Inv X pins σ H s → t σ H Q →
    wpAny (model X.prog X.w) X.A (forIn ifs true fun c r => if r = true then do let ok ← isTrue c X.env (eval c X.env); pure (ForInStep.yield ok) else pure (ForInStep.yield r)) (TP X pins σ Q) X.xe s
def tYes : TT := fun _ H Q => Q true H
theorem pts_nil {X : Cx} : PTs X [] tYes := fun _ _ _ H _ I h => wpAny_tests_nil ⟨H, I, h⟩
theorem pts_one {X : Cx} {c : Expr} {t : TT} (h : PT X c t) : PTs X [c] t := fun pins s σ H Q I q => wpAny_tests_one (h pins s σ H Q I q)
section
variable {X : Cx} {scope : Scope} {cl : List (Str × Addr)} {N : List Str} {cap : List Nat} {x : Str} {px pos : Pos} {iter elt : Expr} {ifs : List Expr} {wi : TI} {tc : TT} {te : TE}
theorem comp_core {use : Option (Value → Sem Unit)} {Qv : Value → Shared → Prop} {pins : List (Addr × Obj)} {s : Shared} {σ : St} {H : Hp} {Q : VK} {pos' : Pos} (S : CompScope X scope cl N cap) (hc : X.calm = true) (hi : PI X (.Name x px) iter wi) (hx : N[0]? = some x) (hxl : scope.names.lookup x = some .local)
    (ht : ∀ C fp s₀ H₀, PTs (X.comp scope cl N C fp s₀ H₀) ifs tc) (he : ∀ C fp s₀ H₀, PE (X.comp scope cl N C fp s₀ H₀) elt te) (hs : ∀ x, foldedSetIterable iter X.env x = pure x)
    (I : Inv X pins σ H s) (h : tComp cap wi tc te σ H Q)
    (fin : ∀ (D C : Addr) (H6 : Hp) (s6 : Shared) (m : Str → Option Value), Inv X pins σ H6 s6 → FpOk X pins H6 C → s6.heap.Ns C m → Q (.ref D) H6 → compPost (model X.prog X.w) X.A X.xe use Qv (.ref D) C (.ok .next) s6) :
    wpAny (model X.prog X.w) X.A (comprehension (.ListComp elt [⟨.Name x px, iter, ifs, 0⟩] scope pos) scope X.env pos' (newList []) false (eval iter X.env) use) Qv X.xe s := by
  refine wpAny_comprehension_free (use := use) rfl hs (S.clos I.ok) S.kind S.names (thn (hi pins s σ H _ I h) fun v s1 h1 => thn h1 fun itv s2 h2 => ?_)
  obtain ⟨it, fp, tn, J, H2, rfl, I2, T, st2, f2, q⟩ := h2
  obtain ⟨W, ⟨m0, w0⟩, turn⟩ := q s2.heap.objs.size (I2.hok.fresh (Nat.le_refl _))
  have I3 : Inv X pins σ (upd H2 s2.heap.objs.size (.lst [])) { s2 with heap := s2.heap.push { cls := .type "list", dict := none, data := .seq ([] : List Value).toArray } } :=
    I2.laid (t' := s2.toks) (fun b u e => Heap.get?_push_of_some _ e) (Nat.le_refl _) ⟨Nat.zero_le _, [], 0, .nil, Heap.get?_push_size _ rfl⟩
  refine wpAny_newObj_type (wpAny_newFunctionEnv S.ncell (by intro y hy; simp at hy) (fun h4 hns hsb => ?_) S.kind)
  generalize hs3 : ({ s2 with heap := s2.heap.push { cls := .type "list", dict := none, data := .seq ([] : List Value).toArray } } : Shared) = s3 at I3 hns hsb ⊢
  have f3 : ∀ b ∈ fp, FpOk X pins (upd H2 s2.heap.objs.size (.lst [])) b ∧ b < s3.heap.objs.size := fun b hb => by
    obtain ⟨o, ho, _⟩ := T.obj _ _ st2 b hb
    have l1 : b < s2.heap.objs.size := Heap.lt_size ho
    refine ⟨⟨?_, (f2 b hb).2⟩, ?_⟩
    · rw [upd_ne (Nat.ne_of_lt l1)]; exact (f2 b hb).1
    · rw [← hs3, Heap.size_push]; exact Nat.lt_succ_of_lt l1
  have nsN : h4.Ns s3.heap.objs.size fun _ => none := by
    have := hns
    simpa using this
  have keep4 : ∀ b o, s3.heap.get? b = some o → h4.get? b = some o := fun b o e => (hsb.2 b (Nat.ne_of_lt (Heap.lt_size e))).trans (Heap.get?_push_of_some _ e)
  have Ic := I3.enter (tk := s3.toks + ([] : List (Str × Value)).length) S f3 nsN keep4
  have st4 : tn 0 h4 := T.keep _ _ _ st2 fun b hb o e => keep4 b o (by rw [← hs3]; exact Heap.get?_push_of_some _ e)
  have stat : ∀ {H' : Hp}, (∀ b ∈ fp, H' b = none) → ∀ b ∈ fp, FpOk (X.comp scope cl N s3.heap.objs.size fp s3 (upd H2 s2.heap.objs.size (.lst []))) [] H' b := fun hn b hb =>
    ⟨hn b hb, Nat.ne_of_lt (f3 b hb).2, fun z => (List.mem_cons.mp (I3.stkSub b z)).elim (fun q => (f3 b hb).1.2.1 q) fun q => (f3 b hb).1.2.2.1 q, .inl hb, fun y c e => (f3 b hb).1.2.2.2.2.1 y c (S.sub I.ok y c e), fun p hp => by simp at hp⟩
  have out : ∀ {ox : Option V} {H6 : Hp} {s6 : Shared}, Inv (X.comp scope cl N s3.heap.objs.size fp s3 (upd H2 s2.heap.objs.size (.lst []))) [] (ox :: capOf σ cap) H6 s6 → Q (.ref s2.heap.objs.size) H6 →
      compPost (model X.prog X.w) X.A X.xe use Qv (Value.ref s2.heap.objs.size) s3.heap.objs.size (.ok .next) s6 := fun {ox H6 s6} I6 q6 => by
    obtain ⟨m, hm, _⟩ := I6.loc
    have Io : Inv X pins σ H6 s6 := I3.call' I6.os I6.base I6.hok I6.bare fun b hb => ⟨(f3 b hb).1.2.2.2.1, (f3 b hb).1.2.1, (f3 b hb).1.2.2.2.2.1, (f3 b hb).1.2.2.2.2.2⟩
    exact fin _ _ _ _ m Io (I3.fpOk (b := s3.heap.objs.size) (H' := H6) (Nat.le_refl _) I6.free) hm q6
  have loop : codeAny (model X.prog X.w) X.A (.compLoop (.ListComp elt [⟨.Name x px, iter, ifs, 0⟩] scope pos) 0 (.ref it) (.ref s2.heap.objs.size) (compEnvC scope cl s3.heap.objs.size X.env))
      (compPost (model X.prog X.w) X.A X.xe use Qv (Value.ref s2.heap.objs.size) s3.heap.objs.size) { s3 with heap := h4, toks := s3.toks + ([] : List (Str × Value)).length } := by
    refine codeAny_compLoop_tests (fun n s' => ∃ i ox H', Inv (X.comp scope cl N s3.heap.objs.size fp s3 (upd H2 s2.heap.objs.size (.lst []))) [] (ox :: capOf σ cap) H' s' ∧ tn i s'.heap ∧ (∀ b ∈ fp, H' b = none) ∧ W i n H') ?_ m0 ⟨0, none, _, Ic, st4, fun b hb => (f3 b hb).1.1, w0⟩
    rintro n s5 ⟨i, ox, H5, I5, st5, fr5, w5⟩
    rcases turn i n H5 w5 with ⟨stop, qd⟩ | ⟨go, step⟩
    · refine wpAny_mono (T.done (X.comp scope cl N s3.heap.objs.size fp s3 (upd H2 s2.heap.objs.size (.lst []))) rfl rfl rfl hc i [] s5 _ H5 (fun _ _ => False) I5 (stat fr5) st5 stop) (fun r s6 ⟨hr, I6⟩ => ?_) fun _ _ z => z.elim
      subst hr
      exact out I6 qd
    · refine wpAny_mono (T.item (X.comp scope cl N s3.heap.objs.size fp s3 (upd H2 s2.heap.objs.size (.lst []))) rfl rfl rfl hc i [] s5 _ H5 (fun _ _ => False) I5 (stat fr5) st5 go) (fun r s6 ⟨u, hr, h6⟩ => ?_) fun _ _ z => z.elim
      subst hr
      have hgx : PG (X.comp scope cl N s3.heap.objs.size fp s3 (upd H2 s2.heap.objs.size (.lst []))) (.Name x px) (gName 0) := pg_name (i := 0) S.nd hx (.inl (lookup_relabel_local hxl)) (.inr (lookup_relabel_local hxl))
      refine (show wpAny (model X.prog X.w) X.A (letOwnedTupleGo (.Name x px) (.ref it) u >>= fun _ => assign (.Name x px) (compEnvC scope cl s3.heap.objs.size X.env) u) _ _ s6 from wpAny_bind (wpAny_mono h6 (fun _ s7 ⟨v, H7, I7, r7, y7, st7, fr7⟩ => ?_) fun _ _ z => z.elim))
      have I7' := I7.pinned (stat fr7) (T.obj _ _ st7)
      have again : ∀ {v' : V} {H9 : Hp} {s9 : Shared}, Inv (X.comp scope cl N s3.heap.objs.size fp s3 (upd H2 s2.heap.objs.size (.lst []))) ([] ++ pinsAt fp s7.heap) (some v' :: capOf σ cap) H9 s9 → (∃ m', m' < n ∧ W (i + 1) m' H9) →
          ∃ m', m' < n ∧ ∃ i ox H', Inv (X.comp scope cl N s3.heap.objs.size fp s3 (upd H2 s2.heap.objs.size (.lst []))) [] (ox :: capOf σ cap) H' s9 ∧ tn i s9.heap ∧ (∀ b ∈ fp, H' b = none) ∧ W i m' H' := fun {v' H9 s9} I9 ⟨m', lt, w'⟩ => by
        refine ⟨m', lt, i + 1, some v', H9, I9.unpinned, T.keep _ _ _ st7 fun b hb o e => (I9.pin (b, o) (List.mem_append_right _ (List.mem_append_right _ (mem_pinsAt hb e)))).1, fun b hb => ?_, w'⟩
        obtain ⟨o, e, d⟩ := T.obj _ _ st7 b hb
        exact (I9.pin (b, o) (List.mem_append_right _ (List.mem_append_right _ (mem_pinsAt hb e)))).2.1
      refine wpAny_mono (hgx _ s7 (ox :: capOf σ cap) H7 v u (fun σ' H' => σ' = some v :: capOf σ cap ∧ H' = H7) I7' r7 ⟨rfl, rfl⟩) (fun _ s8 ⟨σ8, H8, I8, e8, e8'⟩ => ?_) fun _ _ z => z.elim
      subst e8 e8'
      refine wpAny_mono (ht _ _ _ _ _ s8 _ H8 _ I8 (step v H8 y7)) (fun b s9 ⟨H9, I9, q9⟩ => ?_) fun _ _ z => z.elim
      cases b with
      | false => exact again I9 q9
      | true =>
        refine wpAny_mono (he _ _ _ _ _ s9 _ H9 _ I9 q9) (fun u' s10 ⟨v', H10, I10, r10, ys, hD, hz, q10⟩ => ?_) fun _ _ z => z.elim
        refine wpAny_mono (mt_append (X := X.comp scope cl N s3.heap.objs.size fp s3 (upd H2 s2.heap.objs.size (.lst []))) _ s10 _ H10 (.ref s2.heap.objs.size) [v'] (.ref s2.heap.objs.size) [u'] (fun _ H' => ∃ m', m' < n ∧ W (i + 1) m' H') I10 rfl (.cons r10 .nil) ⟨_, ys, v', rfl, rfl, hD, hz, q10⟩) (fun _ s11 ⟨_, H11, I11, _, q11⟩ => again I11 q11) fun _ _ z => z.elim
  exact codeAny_compStart_list loop (T.self _ 0 _ _ _ st4 loop)
theorem pe_comp (S : CompScope X scope cl N cap) (hc : X.calm = true) (hi : PI X (.Name x px) iter wi) (hx : N[0]? = some x) (hxl : scope.names.lookup x = some .local)
    (ht : ∀ C fp s₀ H₀, PTs (X.comp scope cl N C fp s₀ H₀) ifs tc) (he : ∀ C fp s₀ H₀, PE (X.comp scope cl N C fp s₀ H₀) elt te) (hs : ∀ x, foldedSetIterable iter X.env x = pure x := by intro _; rfl) :
    PE X (.ListComp elt [⟨.Name x px, iter, ifs, 0⟩] scope pos) (tComp cap wi tc te) := by
  intro pins s σ H Q I h
  rw [eval_ListComp]
  refine comp_core S hc hi hx hxl ht he hs I h fun D C H6 s6 m Io Cf hm q6 => ?_
  exact ⟨m, hm, fun h' sb => ⟨.ref D, H6, Io.turned (it := C) (t' := s6.toks) (fun b o n e => (sb.2 b n).trans e) Cf.1 Cf.2.1 Cf.2.2.2.1 Cf.2.2.2.2.1 Cf.2.2.2.2.2, rfl, q6⟩⟩
end
end L2
namespace L2
open PySem PySem.Spec PyProof.Rows
def Its (x : Str) : It := ⟨fun i _ => i < x.cps.size, fun i H v H' => H' = H ∧ ∃ c, x.cps[i]? = some c ∧ v = .str ⟨#[c]⟩, fun i _ => x.cps.size ≤ i⟩
theorem turn_ascii {P : Program} {w : World} {K : PySem.W.Frag} {tg : Expr} (x : Str) (t : Tok) (it : Addr) : Turn P w K tg (Its x) [it] it (fun i h => h.IsStrIter it "str_ascii_iterator" x t i) where
  mem := List.mem_singleton_self _
  obj := fun i h st b hb => by
    obtain rfl := List.mem_singleton.mp hb
    obtain ⟨o, e, c, d⟩ := st
    exact ⟨o, e, fun v z => by rw [d] at z; cases z⟩
  keep := fun i h h' ⟨o, e, c, d⟩ k => ⟨o, k it (List.mem_singleton_self _) o e, c, d⟩
  item := by
    intro X hP hw hK hc i pins s σ H E I hf st hg
    subst hP hw hK
    obtain ⟨f0, f1, f2, f3, f4, f5⟩ := hf it (List.mem_singleton_self _)
    have hi : i < x.cps.size := hg
    refine wpAny_pyNext_ascii_item st (c := x.cps[i]) (Array.getElem?_eq_getElem hi) fun h' st' sb => ?_
    have I1 : Inv X pins σ H { s with heap := h', toks := s.toks + 1 } := I.turned (t' := s.toks + 1) (fun b o hb e => (sb.2 b hb).trans e) f0 f1 f3 f4 f5
    obtain ⟨o, e, c, d⟩ := id st'
    exact ⟨_, rfl, go_of (s := { s with heap := h', toks := s.toks + 1 }) e c d (by decide) ⟨.str ⟨#[x.cps[i]]⟩, H, I1, ⟨_, rfl⟩, ⟨rfl, _, Array.getElem?_eq_getElem hi, rfl⟩, st', fun b hb => (hf b hb).1⟩⟩
  done := by
    intro X hP hw hK hc i pins s σ H E I hf st hg
    subst hP hw hK
    obtain ⟨f0, f1, f2, f3, f4, f5⟩ := hf it (List.mem_singleton_self _)
    have hi : x.cps.size ≤ i := hg
    exact wpAny_pyNext_ascii_end (I.ok.hd hc) st (Array.getElem?_eq_none hi) fun h' eb => ⟨rfl, I.turned (t' := s.toks) (fun b o hb e => eb b o hb e) f0 f1 f3 f4 f5⟩
  self := fun _ _ _ _ _ st h => wpAny_pyIter_striter_ascii st h
theorem turn_wide {P : Program} {w : World} {K : PySem.W.Frag} {tg : Expr} (x : Str) (t : Tok) (it : Addr) : Turn P w K tg (Its x) [it] it (fun i h => h.IsStrIter it "str_iterator" x t i) where
  mem := List.mem_singleton_self _
  obj := fun i h st b hb => by
    obtain rfl := List.mem_singleton.mp hb
    obtain ⟨o, e, c, d⟩ := st
    exact ⟨o, e, fun v z => by rw [d] at z; cases z⟩
  keep := fun i h h' ⟨o, e, c, d⟩ k => ⟨o, k it (List.mem_singleton_self _) o e, c, d⟩
  item := by
    intro X hP hw hK hc i pins s σ H E I hf st hg
    subst hP hw hK
    obtain ⟨f0, f1, f2, f3, f4, f5⟩ := hf it (List.mem_singleton_self _)
    have hi : i < x.cps.size := hg
    refine wpAny_pyNext_wide_item st (c := x.cps[i]) (Array.getElem?_eq_getElem hi) fun h' st' sb => ?_
    have I1 : Inv X pins σ H { s with heap := h', toks := s.toks + 1 } := I.turned (t' := s.toks + 1) (fun b o hb e => (sb.2 b hb).trans e) f0 f1 f3 f4 f5
    obtain ⟨o, e, c, d⟩ := id st'
    exact ⟨_, rfl, go_of (s := { s with heap := h', toks := s.toks + 1 }) e c d (by decide) ⟨.str ⟨#[x.cps[i]]⟩, H, I1, ⟨_, rfl⟩, ⟨rfl, _, Array.getElem?_eq_getElem hi, rfl⟩, st', fun b hb => (hf b hb).1⟩⟩
  done := by
    intro X hP hw hK hc i pins s σ H E I hf st hg
    subst hP hw hK
    obtain ⟨f0, f1, f2, f3, f4, f5⟩ := hf it (List.mem_singleton_self _)
    have hi : x.cps.size ≤ i := hg
    exact wpAny_pyNext_wide_end (I.ok.hd hc) st (Array.getElem?_eq_none hi) fun h' eb => ⟨rfl, I.turned (t' := s.toks) (fun b o hb e => eb b o hb e) f0 f1 f3 f4 f5⟩
  self := fun _ _ _ _ _ st h => wpAny_pyIter_striter_wide st h
def iStr (tl : TE) : TI := fun σ H R => tl σ H fun v H1 => ∃ x, v = .str x ∧ R (Its x) H1
theorem pi_str {X : Cx} {tg l : Expr} {tl : TE} (hl : PE X l tl) : PI X tg l (iStr tl) := by
  intro pins s σ H R I h
  refine thn (hl pins s σ H _ I h) fun v s1 ⟨y, H1, I1, r1, x, e, q⟩ => ?_
  subst e
  obtain ⟨t, rfl⟩ := r1
  have new : ∀ {o : Obj}, Inv X pins σ H1 { s1 with heap := s1.heap.push o } := fun {o} => I1.kept (t' := s1.toks) fun b u e => Heap.get?_push_of_some _ e
  have fp : ∀ b ∈ [s1.heap.objs.size], FpOk X pins H1 b := fun b hb => by
    obtain rfl := List.mem_singleton.mp hb
    exact I1.fpOk (Nat.le_refl _) (I1.hok.fresh (Nat.le_refl _))
  cases ha : x.cps.all (· < 128)
  · exact wpAny_pyIter_wide ha ⟨_, _, _, _, H1, rfl, new, turn_wide x t _, ⟨_, Heap.get?_push_size _ rfl, rfl, rfl⟩, fp, q⟩
  · exact wpAny_pyIter_ascii ha ⟨_, _, _, _, H1, rfl, new, turn_ascii x t _, ⟨_, Heap.get?_push_size _ rfl, rfl, rfl⟩, fp, q⟩
def rAll : List V → Hp → VK → Prop := fun xs H Q => ∃ (p : Addr) (bs : List Bool), xs = [.ref p] ∧ H p = some (.lst (bs.map V.bl)) ∧ Q (.bl (bs.all id)) H
theorem call_all {X : Cx} (hc : X.calm = true) : CallR X (.builtin "all") rAll := by
  intro pins s σ H xs us Q I r h
  obtain ⟨p, bs, rfl, hp, q⟩ := h
  obtain ⟨u, rfl, ru⟩ := vals1 r
  cases ru
  obtain ⟨its, rv, pl, hz⟩ := I.list (SqL.of hp)
  have hlt : p < s.heap.objs.size := I.hok.lt hp
  have item : ∀ (i : Nat) (v : Value), its.toArray[i]? = some v → ∃ b : Bool, bs[i]? = some b ∧ v = Value.bool b := fun i v e => by
    have e' : its[i]? = some v := by simpa using e
    have hi : i < its.length := (List.getElem?_eq_some_iff.mp e').1
    have hi' : i < (bs.map V.bl).length := by rw [rv.length]; exact hi
    obtain ⟨w', e2, rw'⟩ := rv.get (i := i) (x := (bs.map V.bl)[i]) (List.getElem?_eq_getElem hi')
    rw [e'] at e2; cases e2
    rw [List.getElem_map] at rw'
    exact ⟨_, List.getElem?_eq_getElem (by simpa using hi'), rw'⟩
  refine call_all_walk (wpAny_pyIter_list pl.isList ⟨_, _, _, _, _, _, fun i => bs.getD i false, rfl, Walks.list (A := X.A.in1) (show X.A.in1.handled = none from I.ok.hd hc) _ p (Nat.ne_of_lt hlt) its.toArray, ⟨?_, ?_⟩, ?_, fun h' tk k => ?_⟩)
  · exact ⟨_, Heap.get?_push_size _ rfl, rfl, rfl⟩
  · exact pl.isList.at fun o e => Heap.get?_push_of_some _ e
  · intro i v s' Q' E' hv hq
    obtain ⟨b, hb, rfl⟩ := item i v hv
    refine wpAny_truthy_bool ?_
    have e : bs.getD i false = b := by rw [List.getD_eq_getElem?_getD, hb]; rfl
    have hq : Q' (bs.getD i false) s' := hq
    rw [e] at hq
    exact hq
  · have e : (List.range its.toArray.size).all (fun i => bs.getD i false) = bs.all id := by
      have l : its.toArray.size = bs.length := by
        have := rv.length
        simp at this
        simp [this]
      rw [l]
      clear q hp rv item
      rw [Bool.eq_iff_iff]
      simp only [List.all_eq_true, List.mem_range, id]
      constructor
      · intro a b hb
        obtain ⟨i, hi, rfl⟩ := List.getElem_of_mem hb
        have := a i hi
        rw [List.getD_eq_getElem?_getD, List.getElem?_eq_getElem hi] at this
        exact this
      · intro a i hi
        rw [List.getD_eq_getElem?_getD, List.getElem?_eq_getElem hi]
        exact a _ (List.getElem_mem hi)
    rw [e]
    exact ⟨.bl _, H, I.kept (t' := tk) fun b o z => k b o (fun m => absurd (Heap.lt_size z) (by rw [List.mem_singleton.mp m]; exact Nat.lt_irrefl _)) (Heap.get?_push_of_some _ z), rfl, q⟩
theorem call_int_str {X : Cx} : CallR X (.type "int") (fun xs H Q => ∃ x n, xs = [.str x] ∧ PySem.intText? x = some n ∧ x.length ≤ 640 ∧ Q (.int n) H) := by
  intro pins s σ H xs us Q I r h
  obtain ⟨x, n, rfl, hn, hl, q⟩ := h
  obtain ⟨u, rfl, ru⟩ := vals1 r
  obtain ⟨t, rfl⟩ := ru
  exact PySem.W.KIN.call_text hn hl ⟨.int n, H, I.tok _, ⟨_, rfl⟩, q⟩
structure Over (J : It) (xs : List V) (ok : Hp → Prop) : Prop where
  go : ∀ i H, ok H → i < xs.length → J.go i H
  stop : ∀ i H, ok H → xs.length ≤ i → J.stop i H
  yld : ∀ i H x H', ok H → i < xs.length → J.yld i H x H' → H' = H ∧ xs[i]? = some x
theorem over_str (x : Str) : Over (Its x) (x.cps.toList.map fun c => V.str ⟨#[c]⟩) (fun _ => True) where
  go := fun i H _ h => (show i < x.cps.size by simpa using h)
  stop := fun i H _ h => (show x.cps.size ≤ i by simpa using h)
  yld := fun i H v H' _ h y => by
    obtain ⟨e, c, hc, rfl⟩ := y
    refine ⟨e, ?_⟩
    rw [List.getElem?_map]
    have : x.cps.toList[i]? = some c := by simpa using hc
    rw [this]; rfl
theorem over_list {K : PySem.W.Frag} {a : Addr} {xs : List V} : Over (Itl K a) xs (fun H => H a = some (.lst xs)) where
  go := fun i H e h => ⟨xs, xs[i], SqL.of e, List.getElem?_eq_getElem h⟩
  stop := fun i H e h => ⟨xs, SqL.of e, h⟩
  yld := fun i H v H' e h y => ⟨y.1, y.2 xs (SqL.of e)⟩
theorem over_range (lo : Int) (n : Nat) : Over (Itr lo n) ((List.range n).map fun (k : Nat) => V.int (lo + k)) (fun _ => True) where
  go := fun i H _ h => (show i < n by simpa using h)
  stop := fun i H _ h => (show n ≤ i by simpa using h)
  yld := fun i H v H' _ h y => by
    obtain ⟨e, rfl⟩ := y
    refine ⟨e, ?_⟩
    have h' : i < n := by simpa using h
    rw [List.getElem?_map, List.getElem?_range h']; rfl
theorem comp_pure {J : It} {xs : List V} {ok : Hp → Prop} (O : Over J xs ok) (p : V → Bool) (f : V → V) {tc : TT} {te : TE} {cs : St} {H1 : Hp} {Q : VK} {D : Addr} (hD : H1 D = none) (hok : ∀ ys, ok (upd H1 D (.lst ys))) (sz : xs.length < sizeLine)
    (htc : ∀ x ∈ xs, ∀ H Q, Q (p x) H → tc (some x :: cs) H Q) (hte : ∀ x ∈ xs, p x = true → ∀ H Q, Q (f x) H → te (some x :: cs) H Q)
    (q : ∀ H', Same H1 H' → H' D = some (.lst ((xs.filter p).map f)) → Q (.ref D) H') :
    ∃ W : Nat → Nat → Hp → Prop, (∃ m, W 0 m (upd H1 D (.lst []))) ∧ ∀ i m H, W i m H →
      (J.stop i H ∧ Q (.ref D) H) ∨ (J.go i H ∧ ∀ x H', J.yld i H x H' → tc (some x :: cs) H' fun b H2 => if b = true then te (some x :: cs) H2 fun v H3 => ∃ ys, H3 D = some (.lst ys) ∧ ys.length < sizeLine ∧ ∃ m', m' < m ∧ W (i + 1) m' (upd H3 D (.lst (ys ++ [v])))
        else ∃ m', m' < m ∧ W (i + 1) m' H2) := by
  refine ⟨fun i m H => m = xs.length - i ∧ i ≤ xs.length ∧ H = upd H1 D (.lst (((xs.take i).filter p).map f)), ⟨_, rfl, Nat.zero_le _, by simp⟩, ?_⟩
  rintro i m H ⟨rfl, hi, rfl⟩
  by_cases hlt : i < xs.length
  · refine .inr ⟨O.go i _ (hok _) hlt, fun x H' y => ?_⟩
    obtain ⟨rfl, hx⟩ := O.yld i _ x H' (hok _) hlt y
    have hm := List.mem_of_getElem? hx
    have tk : (xs.take (i + 1)).filter p = (xs.take i).filter p ++ (if p x then [x] else []) := take_succ_filter p xs i x hx
    refine htc x hm _ _ ?_
    cases hp : p x with
    | true =>
      refine iteT (hte x hm hp _ _ ⟨_, upd_same, ?_, xs.length - (i + 1), by omega, rfl, hlt, ?_⟩)
      · rw [List.length_map]
        exact Nat.lt_of_le_of_lt (Nat.le_trans (List.length_filter_le _ _) (List.length_take_le _ _)) (Nat.lt_of_lt_of_le (by omega) (Nat.le_refl _))
      · rw [upd_upd, tk, hp]; simp
    | false =>
      refine iteF ⟨xs.length - (i + 1), by omega, rfl, hlt, ?_⟩
      rw [tk, hp]; simp
  · have e : i = xs.length := by omega
    subst e
    refine .inl ⟨O.stop _ _ (hok _) (Nat.le_refl _), q _ (same_new hD _) ?_⟩
    rw [upd_same, List.take_length]
theorem lookup_mem {names : List (Str × NameKind)} {y : Str} {k : NameKind} (h : names.lookup y = some k) : (y, k) ∈ names := PySem.mem_of_lookup h
theorem comp_scope0 {X : Cx} {scope : Scope} {x : Str} (hk : scope.kind = .function) (h1 : scope.names.all (fun y => y.2 != .free && y.2 != .cell) = true) (h2 : scope.names.all (fun y => y.2 != .local || scope.names.lookup y.1 == some .local) = true) :
    CompScope X scope [] [x] [] := by
  have nf : ∀ y ∈ scope.names, y.2 ≠ .free ∧ y.2 ≠ .cell := fun y hy => by
    have := List.all_eq_true.mp h1 y hy
    simpa using this
  have rl : (relabel scope X.env).names = scope.names := by
    show scope.names.map _ = _
    refine map_eq_self fun y hy => ?_
    obtain ⟨n, k⟩ := y
    have q : (k == NameKind.free) = false := by
      have := (nf _ hy).1
      simpa using this
    simp [q]
  refine ⟨hk, fun _ => closureFor_none fun y hy => (nf y hy).1, fun y hy => (nf y hy).2, fun y hy e => ?_, List.nodup_cons.mpr ⟨by simp, List.nodup_nil⟩, fun y hy => ?_, fun _ y c e => (by cases e), rfl, fun j i y a b => (by simp at b)⟩
  · have := List.all_eq_true.mp h2 y hy
    simpa [e] using this
  · rw [rl] at hy
    rcases hy with hy | hy
    · exact absurd rfl (nf _ (lookup_mem hy)).2
    · exact absurd rfl (nf _ (lookup_mem hy)).1
def tFmt (te : TE) : TE := fun σ H Q => te σ H fun v H1 => (∃ x, v = .str x ∧ x.length ≤ sizeLine ∧ Q (.str x) H1) ∨ ∃ i : Int, v = .int i ∧ i.natAbs.log2 < 1920 ∧ Q (.str (toString i)) H1
theorem pe_fmt {X : Cx} {e : Expr} {te : TE} {pos : Pos} (he : PE X e te) : PE X (.FormattedValue e (-1) none pos) (tFmt te) := by
  intro pins s σ H Q I h
  refine PySem.wpAny_FormattedValue_plain (thn (he pins s σ H _ I h) fun v s1 ⟨y, H1, I1, r1, q1⟩ => ?_)
  rcases q1 with ⟨x, rfl, hz, q⟩ | ⟨i, rfl, hz, q⟩
  · obtain ⟨t, rfl⟩ := r1
    exact wpAny_formatField_str ⟨.str x, H1, I1, ⟨_, rfl⟩, q⟩ ⟨.str x, H1, I1.tok _, ⟨_, rfl⟩, q⟩ hz
  · obtain ⟨t, rfl⟩ := r1
    exact wpAny_formatField_int hz ⟨.str _, H1, (I1.tok _).tok _, ⟨_, rfl⟩, q⟩
abbrev TJ := Str → St → Hp → (Str → Hp → Prop) → Prop
def PJ (X : Cx) (es : List Expr) (t : TJ) : Prop := ∀ (pins : List (Addr × Obj)) (s : Shared) (σ : St) (H : Hp) (out : Str) (Q : Str → Hp → Prop), Inv X pins σ H s → t out σ H Q →
  wpAny (model X.prog X.w) X.A (joinParts out (evalEach es X.env)) (fun u s' => ∃ x t H', u = .str x t ∧ Inv X pins σ H' s' ∧ Q x H') X.xe s
def jNil : TJ := fun out _ H Q => out.length ≤ sizeLine ∧ Q out H
def jCons (te : TE) (t : TJ) : TJ := fun out σ H Q => te σ H fun v H1 => ∃ x, v = .str x ∧ (out ++ x).length ≤ sizeLine ∧ t (out ++ x) σ H1 Q
theorem pj_nil {X : Cx} : PJ X [] jNil := fun pins s σ H out Q I h => joinParts_nil ⟨out, _, H, rfl, I.tok _, h.2⟩ h.1
theorem pj_cons {X : Cx} {e : Expr} {es : List Expr} {te : TE} {t : TJ} (he : PE X e te) (hr : PJ X es t) : PJ X (e :: es) (jCons te t) := by
  intro pins s σ H out Q I h
  refine joinParts_cons (thn (he pins s σ H _ I h) fun v s1 ⟨y, H1, I1, r1, x, e, hz, q⟩ => ?_)
  subst e
  obtain ⟨t, rfl⟩ := r1
  exact ⟨hz, hr pins s1 σ H1 _ Q I1 q⟩
def tJoin (t : TJ) : TE := fun σ H Q => t Str.empty σ H fun x H1 => Q (.str x) H1
theorem pe_fstr {X : Cx} {e1 e2 : Expr} {es : List Expr} {t : TJ} {pos : Pos} (h : PJ X (e1 :: e2 :: es) t) : PE X (.JoinedStr (e1 :: e2 :: es) pos) (tJoin t) := fun pins s σ H Q I q =>
  JoinedStr_many (thn (h pins s σ H Str.empty _ I q) fun u s' ⟨x, t, H', e, I', q'⟩ => ⟨.str x, H', I', ⟨t, e⟩, q'⟩)
end L2
namespace L2
open PySem PySem.Spec PyProof.Rows
section
variable {X : Cx}
def rStarts : V → List V → Hp → VK → Prop := fun x vs H Q => ∃ a b, x = .str a ∧ vs = [.str b] ∧ Q (.bl (PySem.Txt.startswith a b)) H
theorem mt_startswith : MtR X "str.startswith" rStarts := by
  intro pins s σ H x vs v us Q I rx rv h
  obtain ⟨a, b, rfl, rfl, q⟩ := h
  obtain ⟨t, rfl⟩ := rx
  obtain ⟨u, rfl, ⟨t', rfl⟩⟩ := rv.one
  exact SC.startswith ⟨.bl _, H, I, rfl, q⟩
theorem pe_startswith {o e : Expr} {to te : TE} {apos cpos : Pos} (ho : PE X o to) (he : PE X e te) (hn : notStar e = true := by rfl)
    (hbase : attributeBase o "startswith" X.env (eval o X.env) = eval o X.env := by rfl)
    (hfew : ((backTo cpos (starEach [e] X.env)).all (fun x => !x.1) && (backToKw cpos (keywordEach [] X.env)).all (fun x => x.1.isSome)
      && decide (([e] : List Expr).length + ([] : List Keyword).length + (if ([] : List Keyword).isEmpty then 0 else 1) < 30)) = true := by rfl)
    (hline : (apos.endLine == cpos.line) = true := by rfl) (hs : starEach [e] X.env = (false, eval e X.env) :: starEach [] X.env := by rfl) (hplain : (backTo cpos (starEach [] X.env)).any (·.1) = false := by rfl) :
    PE X (.Call (.Attribute o "startswith" apos) [e] [] cpos) (tBM X.K "str" rStarts to (tCons te tNil)) :=
  pe_bm F.plainAttrs_str F.slot_str_startswith F.type_str_startswith mt_startswith ho (pa_c he pa_nil hn) hbase hfew hline hs hplain
def rMulS : R2 := fun x y H Q => ∃ a n, x = .str a ∧ y = .int n ∧ MulOk a n ∧ Q (.str (PySem.Txt.mul a n)) H
theorem op_mul_str : OpR X (binaryOp .Mult) rMulS := by
  intro pins s σ H x y v u Q I rx ry h
  obtain ⟨a, n, rfl, rfl, hok, q⟩ := h
  obtain ⟨t, rfl⟩ := rx
  obtain ⟨t', rfl⟩ := ry
  exact SB.mul hok fun t2 k => ⟨.str _, H, I.tok _, ⟨_, rfl⟩, q⟩
def rSlS : V → Option Int → Option Int → Hp → VK → Prop := fun x lo hi H Q => ∃ a, x = .str a ∧ a.length ≤ sizeLine ∧ Q (.str (PySem.Txt.slice a lo hi)) H
theorem vals_strs : ∀ {ys : List Str} {us : List Value}, Vals (ys.map V.str) us → ∃ l : List (Str × Tok), us = strValues l ∧ l.map (·.1) = ys
  | [], _, .nil => ⟨[], rfl, rfl⟩
  | y :: ys, _, .cons r t => by
    obtain ⟨k, rfl⟩ := r
    obtain ⟨l, rfl, e⟩ := vals_strs t
    exact ⟨(y, k) :: l, rfl, by rw [List.map_cons, e]⟩
def rJoinS : V → List V → Hp → VK → Prop := fun x vs H Q => ∃ a l ys, x = .str a ∧ vs = [.ref l] ∧ H l = some (.lst (ys.map V.str)) ∧ JoinOk a ys = true ∧ Q (.str (PySem.Txt.join a ys)) H
theorem mt_join : MtR X "str.join" rJoinS := by
  intro pins s σ H x vs v us Q I rx rv h
  obtain ⟨a, l, ys, rfl, rfl, hl, hok, q⟩ := h
  obtain ⟨t, rfl⟩ := rx
  obtain ⟨u, rfl, ru⟩ := rv.one
  cases ru
  obtain ⟨z, its, n, r, hlen, e⟩ := I.lstM hl
  obtain ⟨m, rfl, e2⟩ := vals_strs r
  exact SC.join ⟨_, e, rfl, _, rfl⟩ e2 hok fun t' k => ⟨.str _, H, I.tok _, ⟨_, rfl⟩, q⟩
theorem pe_join {o e : Expr} {to te : TE} {apos cpos : Pos} (ho : PE X o to) (he : PE X e te) (hn : notStar e = true := by rfl)
    (hbase : attributeBase o "join" X.env (eval o X.env) = eval o X.env := by rfl)
    (hfew : ((backTo cpos (starEach [e] X.env)).all (fun x => !x.1) && (backToKw cpos (keywordEach [] X.env)).all (fun x => x.1.isSome)
      && decide (([e] : List Expr).length + ([] : List Keyword).length + (if ([] : List Keyword).isEmpty then 0 else 1) < 30)) = true := by rfl)
    (hline : (apos.endLine == cpos.line) = true := by rfl) (hs : starEach [e] X.env = (false, eval e X.env) :: starEach [] X.env := by rfl) (hplain : (backTo cpos (starEach [] X.env)).any (·.1) = false := by rfl) :
    PE X (.Call (.Attribute o "join" apos) [e] [] cpos) (tBM X.K "str" rJoinS to (tCons te tNil)) :=
  pe_bm F.plainAttrs_str F.slot_str_join F.type_str_join mt_join ho (pa_c he pa_nil hn) hbase hfew hline hs hplain
def rInK (K : PySem.W.Frag) (neg : Bool) : R2 := fun x y H Q => ∃ p xs, y = .ref p ∧ (∀ H, SqT K H p xs) ∧ flatV x = true ∧ xs.all flatV = true ∧ Q (.bl (if neg then !inV x xs else inV x xs)) H
theorem op_notInK : OpR X (compareOp .NotIn) (rInK X.K true) := by
  intro pins s σ H x y v u Q I rx ry h
  obtain ⟨p, xs, rfl, hq, fx, fs, q⟩ := h
  exact op_notIn_seq pins s σ H x _ v u Q I rx ry ⟨p, xs, rfl, .inr (hq H), fx, fs, q⟩
end
def sgn (v : V) : Nat := match v with | .str s => s.cps[0]?.getD 0 | _ => 0
theorem filter_signs (p : Nat → Bool) (f : Nat → V) : ∀ l : List Nat, ((l.map fun c => V.str ⟨#[c]⟩).filter fun v => p (sgn v)).map (fun v => f (sgn v)) = (l.filter p).map f
  | [] => rfl
  | c :: l => by
    have e : sgn (V.str ⟨#[c]⟩) = c := rfl
    rw [List.map_cons, List.filter_cons, List.filter_cons, e]
    cases p c
    · exact filter_signs p f l
    · show f (sgn (V.str ⟨#[c]⟩)) :: _ = f c :: _
      rw [e, filter_signs p f l]
theorem tcomp_str {cap : List Nat} {tl te : TE} {tc : TT} {σ : St} {H : Hp} {Q : VK} (x : Str) (p : Nat → Bool) (f : Nat → V) (htl : ∀ K : VK, K (.str x) H → tl σ H K) (sz : x.length < sizeLine)
    (htc : ∀ c ∈ x.cps.toList, ∀ (H : Hp) (Q : Bool → Hp → Prop), Q (p c) H → tc (some (.str ⟨#[c]⟩) :: capOf σ cap) H Q) (hte : ∀ c ∈ x.cps.toList, p c = true → ∀ (H : Hp) (Q : VK), Q (f c) H → te (some (.str ⟨#[c]⟩) :: capOf σ cap) H Q)
    (q : ∀ D H', H D = none → Same H H' → H' D = some (.lst ((x.cps.toList.filter p).map f)) → Q (.ref D) H') : tComp cap (iStr tl) tc te σ H Q := by
  refine htl _ ⟨x, rfl, fun D hD => ?_⟩
  refine comp_pure (over_str x) (fun v => p (sgn v)) (fun v => f (sgn v)) hD (fun _ => trivial) (by rw [List.length_map]; exact sz) ?_ ?_ ?_
  · intro v hv
    obtain ⟨c, hc, rfl⟩ := List.mem_map.mp hv
    exact htc c hc
  · intro v hv
    obtain ⟨c, hc, rfl⟩ := List.mem_map.mp hv
    exact hte c hc
  · intro H' hS e
    exact q D H' hD hS (by rw [e, filter_signs])
theorem tcomp_list {K : PySem.W.Frag} {cap : List Nat} {tl te : TE} {tc : TT} {σ : St} {H H1 : Hp} {Q : VK} (a : Addr) (xs : List V) (p : V → Bool) (f : V → V) (htl : ∀ R : VK, R (.ref a) H1 → tl σ H R) (ha : H1 a = some (.lst xs)) (sz : xs.length < sizeLine)
    (htc : ∀ v ∈ xs, ∀ (H : Hp) (Q : Bool → Hp → Prop), Q (p v) H → tc (some v :: capOf σ cap) H Q) (hte : ∀ v ∈ xs, p v = true → ∀ (H : Hp) (Q : VK), Q (f v) H → te (some v :: capOf σ cap) H Q)
    (q : ∀ D H', H1 D = none → Same H1 H' → H' D = some (.lst ((xs.filter p).map f)) → Q (.ref D) H') : tComp cap (iList K tl) tc te σ H Q := by
  refine htl _ ⟨a, rfl, ⟨xs, SqL.of ha⟩, fun D hD => ?_⟩
  have hne : a ≠ D := fun e => by rw [e, hD] at ha; cases ha
  refine comp_pure over_list p f hD (fun ys => ?_) sz htc hte fun H' hS e => q D H' hD hS e
  rw [upd_ne hne]; exact ha
def rCatG : R2 := fun x y H Q => ∃ l b xs zs, x = .ref l ∧ y = .ref b ∧ H l = some (.lst xs) ∧ H b = some (.lst zs) ∧ xs.length + zs.length ≤ sizeLine ∧ ∀ p H', H p = none → Same H H' → H' p = some (.lst (xs ++ zs)) → Q (.ref p) H'
theorem op_catG {X : Cx} : OpR X (binaryOp .Add) rCatG := by
  intro pins s σ H x y v u Q I rx ry h
  obtain ⟨l, b, xs, zs, e1, e2, h1, h2, hz, q⟩ := h
  exact op_cat pins s σ H x y v u Q I rx ry ⟨l, b, xs, zs, e1, e2, h1, h2, hz, fresh_any q⟩
def rSetG : V → V → V → Hp → (Hp → Prop) → Prop := fun o i v H Q => ∃ p xs k j, o = .ref p ∧ i = .int k ∧ H p = some (.lst xs) ∧ ixN xs.length k = some j ∧ ∀ H', Mu H p (.lst (xs.set j v)) H' → Q H'
theorem set_listG {X : Cx} : PSet X rSetG := by
  intro pins s σ H o i v ov iv u Q I ro ri rv h
  obtain ⟨p, xs, k, j, e1, e2, h1, h2, q⟩ := h
  exact set_list pins s σ H o i v ov iv u Q I ro ri rv ⟨p, xs, k, j, e1, e2, h1, h2, q _ .mk'⟩
theorem for_over {J : It} {xs : List V} {ok : Hp → Prop} (O : Over J xs ok) {g : TG} {tb : TS} {D : Ends} {σ : St} {H : Hp} (Pv : Nat → St → Hp → Prop) (h0 : Pv 0 σ H) (hl : ∀ i σ H, i ≤ xs.length → Pv i σ H → ok H)
    (hs : ∀ i x σ H, xs[i]? = some x → Pv i σ H → g x σ H fun σ2 H2 => tb { D with nx := Pv (i + 1), ct := Pv (i + 1), bk := D.nx } σ2 H2) (hd : ∀ σ H, Pv xs.length σ H → D.nx σ H) :
    ∃ W : Nat → Nat → St → Hp → Prop, (∃ m, W 0 m σ H) ∧ ∀ i m σ H, W i m σ H →
      (J.stop i H ∧ D.nx σ H) ∨ (J.go i H ∧ ∃ N : St → Hp → Prop, (∀ σ' H', N σ' H' → ∃ m', m' < m ∧ W (i + 1) m' σ' H') ∧ ∀ x H', J.yld i H x H' → g x σ H' fun σ2 H2 => tb { D with nx := N, ct := N, bk := D.nx } σ2 H2) := by
  refine ⟨fun i m σ H => m = xs.length - i ∧ i ≤ xs.length ∧ Pv i σ H, ⟨xs.length, by simp, Nat.zero_le _, h0⟩, ?_⟩
  rintro i m σ H ⟨rfl, hi, p⟩
  have q := hl i σ H hi p
  by_cases hlt : i < xs.length
  · refine .inr ⟨O.go i H q hlt, Pv (i + 1), fun σ' H' p' => ⟨xs.length - (i + 1), by omega, rfl, hlt, p'⟩, fun x H' y => ?_⟩
    obtain ⟨rfl, hx⟩ := O.yld i H x H' q hlt y
    exact hs i x σ H' hx p
  · have e : i = xs.length := by omega
    subst e
    exact .inl ⟨O.stop _ _ q (Nat.le_refl _), hd σ H p⟩
theorem tfor_str {tl : TE} {g : TG} {tb : TS} {D : Ends} {σ : St} {H : Hp} (x : Str) (htl : ∀ R : VK, R (.str x) H → tl σ H R) (Pv : List Nat → St → Hp → Prop) (h0 : Pv [] σ H)
    (hs : ∀ (l : List Nat) (c : Nat) (r : List Nat) σ H, x.cps.toList = l ++ c :: r → Pv l σ H → g (.str ⟨#[c]⟩) σ H fun σ2 H2 => tb { D with nx := Pv (l ++ [c]), ct := Pv (l ++ [c]), bk := D.nx } σ2 H2)
    (hd : ∀ σ H, Pv x.cps.toList σ H → D.nx σ H) : tFor (iStr tl) g tb D σ H := by
  refine htl _ ⟨x, rfl, for_over (over_str x) (fun i => Pv (x.cps.toList.take i)) h0 (fun _ _ _ _ _ => trivial) (fun i v σ H hx p => ?_) (fun σ H p => hd σ H (by rw [List.length_map, List.take_length] at p; exact p))⟩
  rw [List.getElem?_map] at hx
  cases hc : x.cps.toList[i]? with
  | none => rw [hc] at hx; cases hx
  | some c =>
    rw [hc] at hx
    cases hx
    obtain ⟨hi, rfl⟩ := List.getElem?_eq_some_iff.mp hc
    have e : x.cps.toList.take (i + 1) = x.cps.toList.take i ++ [x.cps.toList[i]] := by rw [List.take_append_getElem]
    rw [e]
    refine hs _ _ (x.cps.toList.drop (i + 1)) σ H ?_ p
    rw [List.getElem_cons_drop, List.take_append_drop]
def tMs (t : TS) : TS := fun D σ H => ∃ Z : St → Hp → Prop, t { D with nx := Z } σ H ∧ ∀ σ' H', Z σ' H' → D.nx σ' H'
theorem ps_up {X : Cx} {st : Stmt} {t : TS} (h : PS X st t) : PS X st (tMs t) := by
  intro pins s σ H D I hq
  obtain ⟨Z, h1, h2⟩ := hq
  refine thn (h pins s σ H _ I h1) fun fl s' hs => ?_
  cases fl with
  | next => obtain ⟨σ', H', I', q⟩ := hs; exact ⟨σ', H', I', h2 _ _ q⟩
  | _ => exact hs
end L2
namespace L2
open PySem PySem.Spec PyProof.Rows
section
variable {X : Cx} {pins : List (Addr × Obj)} {σ : St} {H : Hp} {s : Shared} {h' : Heap}
theorem Inv.turnedL {t' : Nat} {ch : List Addr} (I : Inv X pins σ H s) (k : ∀ b o, b ∉ ch → s.heap.get? b = some o → h'.get? b = some o) (hf : ∀ b ∈ ch, FpOk X pins H b) : Inv X pins σ H { s with heap := h', toks := t' } := by
  have nit : ∀ b u, H b = some u → b ∉ ch := fun b u e z => by rw [(hf b z).1] at e; cases e
  refine I.step (g' := s.gens) (d' := s.drawn) (ch := ch) (fun b hb => ?_) (fun b o _ _ hc e _ => k b o hc e) (fun b o _ _ hc e _ => ⟨o.slots, k b o hc e⟩) (fun _ _ _ _ n => n)
    (fun b o hc e => ⟨o, k b o hc e⟩) (fun _ _ e => e) (fun _ _ _ e => e) (fun b ps e => ⟨#[], by rw [e]; simp⟩) (fun m hm => ?_) (fun b u e => ?_) I.bare
  · obtain ⟨_, f1, _, f3, f4, f5⟩ := hf b hb
    exact ⟨f3, f1, f4, f5⟩
  · obtain ⟨o, es, ep, ho, r⟩ := hm
    exact ⟨o, es, ep, k _ o (fun z => (hf _ z).2.1 rfl) ho, r⟩
  · refine (I.hok b u e).stay (fun c v hc q => k c v ?_ q) (fun _ q => q) fun _ _ q => q
    rcases hc with z | z
    · rw [z]; exact nit b u e
    · exact nit c _ z
end
inductive F2 (R : V → V → Prop) : List V → List V → Prop
  | nil : F2 R [] []
  | cons {x v : V} {xs vs : List V} : R x v → F2 R xs vs → F2 R (x :: xs) (v :: vs)
theorem forIn_yield_fold {α β : Type} {f : α → β → Sem (ForInStep β)} (g : α → β → β) : ∀ (l : List α) (b : β), (∀ x ∈ l, ∀ b, f x b = pure (.yield (g x b))) → forIn l b f = pure (l.foldl (fun b x => g x b) b)
  | [], b, _ => by rw [List.forIn_nil]; rfl
  | x :: l, b, h => by
    rw [List.forIn_cons, h x List.mem_cons_self b, pure_bind]
    exact forIn_yield_fold g l (g x b) fun y hy => h y (List.mem_cons_of_mem _ hy)
def capG (env : Env) (x : Str × NameKind) (r : List (Str × Addr)) : List (Str × Addr) := if x.2 == .free then (x.1, (env.cells.lookup x.1).getD 0) :: r else r
def clOf (env : Env) (scope : Scope) : List (Str × Addr) := scope.names.foldl (fun r x => capG env x r) []
theorem closure_of {scope : Scope} {env : Env} (h : ∀ y ∈ scope.names, y.2 = .free → ∃ c, env.cells.lookup y.1 = some c) : closureFor scope env = pure (clOf env scope) := by
  simp only [closureFor]
  rw [forIn_yield_fold (capG env) scope.names [] (fun x hx b => by
    obtain ⟨n, k⟩ := x
    cases hk : (k == NameKind.free) with
    | false => simp [capG, hk]
    | true =>
      have e : k = .free := by simpa using hk
      obtain ⟨c, hc⟩ := h _ hx e
      have hc' : env.cells.lookup n = some c := hc
      simp [capG, hk, cellOf, hc'])]
  rfl
theorem cl_sub {env : Env} : ∀ (names : List (Str × NameKind)) (acc : List (Str × Addr)), (∀ y ∈ names, y.2 = .free → ∃ c, env.cells.lookup y.1 = some c) → (∀ y c, acc.lookup y = some c → env.cells.lookup y = some c) →
    ∀ y c, (names.foldl (fun r x => capG env x r) acc).lookup y = some c → env.cells.lookup y = some c
  | [], acc, _, ha, y, c, e => ha y c e
  | (n, k) :: names, acc, h, ha, y, c, e => by
    refine cl_sub names (capG env (n, k) acc) (fun z hz => h z (List.mem_cons_of_mem _ hz)) (fun z d ez => ?_) y c e
    unfold capG at ez
    split at ez
    · rename_i hk
      have hk' : k = .free := by simpa using hk
      obtain ⟨c', hc'⟩ := h _ List.mem_cons_self hk'
      have hc' : env.cells.lookup n = some c' := hc'
      rw [List.lookup_cons] at ez
      split at ez
      · rename_i hzn
        have : z = n := by simpa using hzn
        subst this
        rw [hc'] at ez ⊢
        exact ez
      · exact ha z d ez
    · exact ha z d ez
theorem cl_has {env : Env} : ∀ (names : List (Str × NameKind)) (acc : List (Str × Addr)) (y : Str), ((y, NameKind.free) ∈ names ∨ (acc.lookup y).isSome) → ((names.foldl (fun r x => capG env x r) acc).lookup y).isSome
  | [], acc, y, h => h.elim (fun z => absurd z List.not_mem_nil) id
  | (n, k) :: names, acc, y, h => by
    refine cl_has names (capG env (n, k) acc) y ?_
    rcases h with h | h
    · rcases List.mem_cons.mp h with h | h
      · obtain ⟨rfl, rfl⟩ := Prod.mk.inj h
        right
        simp [capG]
      · exact .inl h
    · right
      unfold capG
      split
      · rw [List.lookup_cons]
        split
        · rfl
        · exact h
      · exact h
theorem lookup_relabel_free {env : Env} : ∀ {names : List (Str × NameKind)} {x : Str}, names.lookup x = some .free →
    (names.map fun (n, k) => if (k == NameKind.free && env.scope.kind == .function && env.kindOf n == some .cell) then (n, NameKind.cell) else (n, k)).lookup x = some .cell ∨
    (names.map fun (n, k) => if (k == NameKind.free && env.scope.kind == .function && env.kindOf n == some .cell) then (n, NameKind.cell) else (n, k)).lookup x = some .free
  | [], _, h => by simp at h
  | (n, k) :: r, x, h => by
    have ih := @lookup_relabel_free env r x
    rw [List.lookup_cons] at h
    rw [List.map_cons]
    cases hx : x == n with
    | true =>
      rw [hx] at h
      have hk : k = .free := by simpa using h
      subst hk
      dsimp only
      split
      · left; rw [List.lookup_cons, hx]
      · right; rw [List.lookup_cons, hx]
    | false =>
      rw [hx] at h
      dsimp only
      split
      · rw [List.lookup_cons, hx]; exact ih h
      · rw [List.lookup_cons, hx]; exact ih h
def tTry0 (K : PySem.W.Frag) (B : Addr) (t : TX) (th : TS) : TS := fun D σ H => t σ H (fun _ H1 => D.nx σ H1) fun cls _ H1 => ∃ C, cls = .ref C ∧ PySem.W.exmOne K (.ref C) (.ref B) = some true ∧ th D σ H1
section
variable {X : Cx} {B : Addr} {cx : Str} {e : Expr} {b0 : Stmt} {suite : List Stmt} {ep np hpos pos : Pos} {t : TX} {th : TS}
end
def ForJ (J : It) (g : TG) (tb : TS) (D : Ends) (σ : St) (H1 : Hp) : Prop := ∃ W : Nat → Nat → St → Hp → Prop, (∃ m, W 0 m σ H1) ∧ ∀ i m σ H, W i m σ H →
  (J.stop i H ∧ D.nx σ H) ∨ (J.go i H ∧ ∃ N : St → Hp → Prop, (∀ σ' H', N σ' H' → ∃ m', m' < m ∧ W (i + 1) m' σ' H') ∧ ∀ x H', J.yld i H x H' → g x σ H' fun σ2 H2 => tb { D with nx := N, ct := N, bk := D.nx } σ2 H2)
theorem tfor_in {wi : TI} {g : TG} {tb : TS} {D : Ends} {σ : St} {H : Hp} (h : wi σ H fun J H1 => ForJ J g tb D σ H1) : tFor wi g tb D σ H := h
end L2
namespace L2
open PySem PySem.Spec PyProof.Rows
section
variable {X : Cx} {pins : List (Addr × Obj)} {σ : St} {H : Hp} {s : Shared}
end
def Itk (d : Addr) (o : Obj) (kvs : List (Key × V)) : It :=
  ⟨fun i H => i < kvs.length ∧ H d = some (.frz o (.dK kvs)), fun i H x H' => H' = H ∧ ∃ k v, kvs[i]? = some (k, v) ∧ x = kV k, fun i H => kvs.length ≤ i ∧ H d = some (.frz o (.dK kvs))⟩
def iKeys (nf : Addr → Prop) (tl : TE) : TI := fun σ H R => tl σ H fun x H1 => ∃ d kvs, x = .ref d ∧ H1 d = some (.dK kvs) ∧ ∀ o, nf d → R (Itk d o kvs) (upd H1 d (.frz o (.dK kvs)))
def tForK (nf : Addr → Prop) (tl : TE) (g : TG) (tb : TS) : TS := fun D => tFor (iKeys nf tl) g tb { D with nx := fun σ' H' => ∃ d o kvs, nf d ∧ H' d = some (.frz o (.dK kvs)) ∧ D.nx σ' (upd H' d (.dK kvs)) }
def tDGetR (td ty : TE) : TE := fun σ H Q => td σ H fun x H1 => ty σ H1 fun y H2 => ∃ a kvs k v, x = .ref a ∧ Rd H2 a (.dK kvs) ∧ keyOf y = some k ∧ valV kvs k = some v ∧ Q v H2
section
variable {X : Cx}
def rPopG : V → List V → Hp → VK → Prop := fun x vs H Q => ∃ l xs y, x = .ref l ∧ vs = [] ∧ H l = some (.lst (xs ++ [y])) ∧ ∀ H', Mu H l (.lst xs) H' → Q y H'
theorem mt_popG : MtR X "list.pop" rPopG := by
  intro pins s σ H x vs v us Q I rx rv h
  obtain ⟨l, xs, y, e1, e2, hH, q⟩ := h
  refine mt_pop pins s σ H x vs v us Q I rx rv ⟨l, xs ++ [y], y, e1, e2, hH, ?_, ?_⟩
  · rw [List.length_append, List.length_singleton, Nat.add_sub_cancel]
    simp
  · rw [List.dropLast_concat]
    exact q _ .mk'
def rRepG : R2 := fun x y H Q => ∃ l k xs, x = .ref l ∧ y = .int k ∧ H l = some (.lst xs) ∧ -(2 ^ 63) ≤ k ∧ k < 2 ^ 63 ∧ xs.length * k.toNat ≤ sizeLine ∧ ∀ p H', H p = none → Same H H' → H' p = some (.lst (List.replicate k.toNat xs).flatten) → Q (.ref p) H'
theorem op_repG : OpR X (binaryOp .Mult) rRepG := by
  intro pins s σ H x y v u Q I rx ry h
  obtain ⟨l, k, xs, e1, e2, h1, h2, h3, h4, q⟩ := h
  exact op_rep pins s σ H x y v u Q I rx ry ⟨l, k, xs, e1, e2, h1, h2, h3, h4, fresh_any q⟩
end
section
variable {prog : Program} {w : World} {A : Around} {E : Value → Shared → Prop} {s : Shared}
theorem draw_list {it t : Addr} {items : Array Value} (hne : t ≠ it) : ∀ (n i : Nat) (s : Shared) (Q : List Value → Shared → Prop), s.heap.IsListIter it t i → s.heap.IsList t items → i + n ≤ items.size →
    (∀ h', h'.IsListIter it t (i + n) → Heap.SameBut it s.heap h' → Q ((items.toList.drop i).take n) { s with heap := h' }) → wpAny (model prog w) A (draw (.ref it) n) Q E s
  | 0, i, s, Q, hit, _, _, hQ => by
    show wpAny _ _ (pure []) Q E s
    exact wpAny_pure (by simpa using hQ s.heap hit (Heap.SameBut.refl ..))
  | n + 1, i, s, Q, hit, ht, hle, hQ => by
    have hlt : i < items.size := by omega
    show wpAny _ _ (pyNext (.ref it) >>= _) Q E s
    refine wpAny_bind (wpAny_pyNext_list_item hit ht (x := items[i]) (by simp [hlt]) fun h₁ hit₁ hs₁ => ?_)
    refine wpAny_bind (wpAny_holding (draw_list hne n (i + 1) _ _ hit₁ (ht.at fun o e => (hs₁.2 t hne).trans e) (by omega) fun h₂ hit₂ hs₂ => wpAny_pure ?_))
    have hd : items.toList.drop i = items[i] :: items.toList.drop (i + 1) := by simp [List.drop_eq_getElem_cons, hlt]
    have := hQ h₂ (by rw [show i + (n + 1) = i + 1 + n by omega]; exact hit₂) (hs₁.trans hs₂)
    rw [hd, List.take_succ_cons] at this
    exact this
theorem unpackItems_list {t : Addr} {items : Array Value} {Q : List Value → Shared → Prop} (hh : A.handled = none) (ht : s.heap.IsList t items)
    (hQ : ∀ h', Heap.ExtBut s.heap.objs.size s.heap h' → Q items.toList { s with heap := h' }) : wpAny (model prog w) A (unpackItems (.ref t) items.size none) Q E s := by
  have hlt : t ≠ s.heap.objs.size := by obtain ⟨o, ho, _⟩ := ht; exact Nat.ne_of_lt (Heap.lt_size ho)
  unfold unpackItems
  refine wpAny_bind ?_
  unfold notIterableAtAll
  refine wpAny_bind (wpAny_specialOf ht.typeIs F.slot_list_iter.lookup ?_)
  refine wpAny_pure ?_
  simp only [Bool.false_eq_true, if_false]
  refine wpAny_bind (wpAny_holding (wpAny_pyIter_list ht ?_))
  refine wpAny_bind (wpAny_holding (draw_list hlt items.size 0 _ _ ⟨_, Heap.get?_push_size _ rfl, rfl, rfl⟩ (ht.at fun o e => Heap.get?_push_of_some _ e) (by omega) fun h₁ hit₁ hs₁ => ?_))
  have hall : List.take items.size (List.drop 0 items.toList) = items.toList := by
    rw [List.drop_zero]; exact List.take_of_length_le (by simp)
  rw [hall]
  rw [if_neg (by simp)]
  have ht₁ : h₁.IsList t items := (ht.at fun o e => Heap.get?_push_of_some _ e).at fun o e => (hs₁.2 t hlt).trans e
  refine wpAny_bind (wpAny_holding (wpAny_pyNext_list_end hh hit₁ ht₁ (by simp) fun h₂ he₂ => ?_))
  simp only [Option.isSome_none, Bool.false_eq_true, if_false]
  refine wpAny_pure (hQ h₂ fun b o hb e => he₂ b o hb (hs₁.extBut b o hb (Heap.get?_push_of_some _ e)))
end
def gLstG (n : Nat) (t : TGs) : TG := fun v σ H Q => ∃ a xs, v = .ref a ∧ H a = some (.lst xs) ∧ xs.length = n ∧ t xs σ H Q
theorem pg_lstG {X : Cx} {es : List Expr} {k : Nat} {t : TGs} {pos : Pos} (n : Nat) (hc : X.calm = true) (h : PGs X es t)
    (hn : (assignEach es X.env).length = n := by rfl) (hst : (assignEach es X.env).findIdx? (·.1) = none := by rfl) : PG X (.Tuple es k pos) (gLstG n t) := by
  intro pins s σ H v u Q I r hw
  obtain ⟨a, xs, e1, hq, hl, hw⟩ := hw
  subst e1
  cases r
  obtain ⟨its, rv, p, hz⟩ := I.list (SqL.of hq)
  rw [assign_Tuple]
  refine wpAny_bind (wpAny_standAt ?_)
  unfold unpack
  have e : (assignEach es X.env).length = its.toArray.size := by simp [hn, ← hl, rv.length]
  rw [e, hst]
  refine wpAny_bind (wpAny_holding (unpackItems_list (I.ok.hd hc) p.isList fun h' hx => ?_))
  have I1 : Inv X pins σ H { s with heap := h' } := I.kept (t' := s.toks) fun b o e => hx b o (Nat.ne_of_lt (Heap.lt_size e)) e
  exact h pins _ σ H xs _ Q I1 (by simpa using rv) hw
end L2
namespace L2
open PySem PySem.Spec PyProof.Rows
theorem ints_are : ∀ {ns : List Int} {its : List Value}, Vals (ns.map V.int) its → IntsAre its ns
  | [], _, .nil => .nil
  | n :: ns, _, .cons h r => by
    obtain ⟨t, rfl⟩ := h
    exact .cons n t (ints_are r)
def rSum : List V → Hp → VK → Prop := fun xs H Q => ∃ (p : Addr) (ns : List Int), xs = [.ref p] ∧ H p = some (.lst (ns.map V.int)) ∧ Q (.int ns.sum) H
def rSort : List V → Hp → VK → Prop := fun xs H Q => ∃ (p : Addr) (ns : List Int), xs = [.ref p] ∧ (H p = some (.lst (ns.map V.int)) ∨ ∃ kvs : List (Key × V), H p = some (.dK kvs) ∧ kvs.map (·.1) = ns.map Sum.inl) ∧ ns.length < 64 ∧
  ∀ D H' ms, H D = none → Same H H' → H' D = some (.lst (ms.map V.int)) → List.Perm ms ns → List.Pairwise (fun x y => x ≤ y) ms → Q (.ref D) H'
def rListG (K : PySem.W.Frag) : List V → Hp → VK → Prop := fun xs H Q => ∃ p ys, xs = [.ref p] ∧ (H p = some (.lst ys) ∨ H p = some (.tup ys)) ∧ ∀ l H', H l = none → Same H H' → H' l = some (.lst ys) → Q (.ref l) H'
def insL (xs : List V) (k : Nat) (y : V) : List V := xs.take k ++ y :: xs.drop k
def rInsG : V → List V → Hp → VK → Prop := fun x vs H Q => ∃ l xs k y, x = .ref l ∧ vs = [.int k, y] ∧ H l = some (.lst xs) ∧ 0 ≤ k ∧ k ≤ xs.length ∧ xs.length < 1000 ∧ ∀ H', Mu H l (.lst (insL xs k.toNat y)) H' → Q .non H'
theorem mt_insG {X : Cx} : MtR X "list.insert" rInsG := by
  intro pins s σ H x vs v us Q I rx rv h
  obtain ⟨l, xs, k, y, rfl, rfl, hH, h0, h1, hz, q⟩ := h
  cases rx
  cases rv with
  | cons r1 rv =>
  cases rv with
  | cons r2 rv =>
  cases rv
  obtain ⟨t, rfl⟩ := r1
  rename_i u
  obtain ⟨z, its, n, r, hl, e⟩ := I.lstM hH
  have hb : 1000 ≤ sizeLine := by unfold sizeLine; decide
  have hf : ¬ (!Builtin.List.listFitsIndex k) = true := by
    have : Builtin.List.listFitsIndex k = true := fitsIndex_both (by omega) (by omega)
    rw [this]; decide
  refine call_meets F.slot_list_insert ⟨_, e, rfl⟩ F.entry_list_insert (F.args_list_insert_3 _ _ _) (PySem.AutoSeq1.list_insert_list_int_val_1 l its.toArray n k t u hf (by rw [List.size_toArray]; omega)) ⟨e, ?_⟩
  refine ⟨.non, _, I.lset (ys := insL xs k.toNat y) (its' := its.take k.toNat ++ u :: its.drop k.toNat) hH e ?_ ?_ ?_, rfl, q _ .mk'⟩
  · show (its.toArray.extract 0 (if k < 0 then (k + (its.toArray.size : Int)).toNat else min k.toNat its.toArray.size)).push u ++ its.toArray.extract (if k < 0 then (k + (its.toArray.size : Int)).toNat else min k.toNat its.toArray.size) = _
    rw [if_neg (by omega), List.size_toArray, Nat.min_eq_left (by omega)]
    apply Array.toList_inj.mp
    simp
    exact List.take_of_length_le (by rw [List.length_drop]; exact Nat.le_refl _)
  · exact (r.take _).append (.cons r2 (r.drop _))
  · unfold insL
    rw [List.length_append, List.length_take, List.length_cons, List.length_drop]
    omega
def tDPopG (td ty : TE) : TE := fun σ H Q => td σ H fun x H1 => ∃ a, x = .ref a ∧ (∃ kvs, H1 a = some (.dK kvs)) ∧ ty σ H1 fun y H2 => ∃ kvs k v, H2 a = some (.dK kvs) ∧ keyOf y = some k ∧ valV kvs k = some v ∧ ∀ H', Mu H2 a (.dK (dropK kvs k)) H' → Q v H'
section
variable {prog : Program} {w : World} {A : Around} {s : Shared}
theorem cl_loop {elt target iter : PySem.Expr} {ifs : List PySem.Expr} {scope : Scope} {pos : Pos} {it acc : Value} {env : Env} {R : Result → Shared → Prop} (I : Nat → Shared → Prop)
    (turn : ∀ n s, I n s → wpAny (model prog w) A (pyNext it) (fun r s₁ => match r with
      | none => R (.ok .next) s₁
      | some v => wpAny (model prog w) A (letOwnedTupleGo target it v) (fun _ s₀ => wpAny (model prog w) A (assign target env v) (fun _ s₂ =>
          wpAny (model prog w) A (forIn ifs true fun c r => if r = true then do let ok ← isTrue c env (eval c env); pure (ForInStep.yield ok) else pure (ForInStep.yield r)) (fun ok s₃ => if ok = true then wpAny (model prog w) A (eval elt env) (fun x s₄ =>
            wpAny (model prog w) A (call (.builtin "list.append") [acc, x]) (fun _ s₅ => ∃ m, m < n ∧ I m s₅) (notedBy (model prog w) A env fun e s' => R (.error e) s') s₄) (notedBy (model prog w) A env fun e s' => R (.error e) s') s₃
            else ∃ m, m < n ∧ I m s₃) (notedBy (model prog w) A env fun e s' => R (.error e) s') s₂)
          (notedBy (model prog w) A env fun e s' => R (.error e) s') s₀) (notedBy (model prog w) A env fun e s' => R (.error e) s') s₁) (notedBy (model prog w) A env fun e s' => R (.error e) s') s)
    (n : Nat) (h : I n s) : codeAny (model prog w) A (.compLoop (.ListComp elt [⟨target, iter, ifs, 0⟩] scope pos) 0 it acc env) R s := by
  refine codeAny_loop rfl I (fun n s hI => ?_) n h
  refine (show wpAny _ A ((compTurn (.ListComp elt [⟨target, iter, ifs, 0⟩] scope pos) 0 it acc env).onRaise _) _ _ s from wpAny_noted ?_)
  rw [compTurn_list]
  refine wpAny_bind (wpAny_standAt (wpAny_bind (wpAny_mono (turn n s hI) (fun r s1 q1 => ?_) fun _ _ z => z)))
  cases r with
  | none => exact wpAny_pure q1
  | some v =>
    refine wpAny_bind (wpAny_mono q1 (fun _ s2 q2 => wpAny_bind (wpAny_mono q2 (fun _ s3 q3 => wpAny_bind (wpAny_mono q3 (fun b s4 q4 => ?_) fun _ _ z => z)) fun _ _ z => z)) fun _ _ z => z)
    cases b with
    | false => exact wpAny_pure ⟨rfl, q4⟩
    | true => exact wpAny_bind (wpAny_bind (wpAny_mono q4 (fun x s5 q5 => wpAny_bind (wpAny_mono q5 (fun _ s6 q6 => wpAny_pure (wpAny_pure ⟨rfl, q6⟩)) fun _ _ z => z)) fun _ _ z => z))
end
structure CompScopeN (X : Cx) (scope : Scope) (cl : List (Str × Addr)) (N : List Str) (cap : List Nat) (k : Nat) : Prop where
  kind : scope.kind = .function
  clos : X.Ok → closureFor scope X.env = pure cl
  ncell : ∀ y ∈ scope.names, y.2 ≠ .cell
  names : ∀ y ∈ scope.names, y.2 = .local → scope.names.lookup y.1 = some .local
  nd : N.Nodup
  has : ∀ y, ((relabel scope X.env).names.lookup y = some .cell ∨ (relabel scope X.env).names.lookup y = some .free) → ∃ c, cl.lookup y = some c
  sub : X.Ok → ∀ y c, cl.lookup y = some c → X.env.cells.lookup y = some c
  len : N.length = cap.length + k
  cap : ∀ (j i : Nat) (y : Str), N[j + k]? = some y → cap[j]? = some i → X.N[i]? = some y ∧ Vis X.env.scope y ∧ X.env.kindOf y ≠ some .local ∧ ((relabel scope X.env).names.lookup y = some .cell ∨ (relabel scope X.env).names.lookup y = some .free)
def frameN (k : Nat) (σ : St) (cap : List Nat) : St := List.replicate k none ++ capOf σ cap
def tCompN (k : Nat) (cap : List Nat) (wi : TI) (g : TG) (tc : TT) (te : TE) : TE := fun σ H Q => wi σ H fun J H1 => ∀ D, H1 D = none → ∃ W : Nat → Nat → St → Hp → Prop, (∃ m, W 0 m (frameN k σ cap) (upd H1 D (.lst []))) ∧ ∀ i m σ1 H, W i m σ1 H →
  (J.stop i H ∧ Q (.ref D) H) ∨ (J.go i H ∧ ∀ x H', J.yld i H x H' → g x σ1 H' fun σ2 H1 => tc σ2 H1 fun b H2 => if b = true then te σ2 H2 fun v H3 => ∃ ys, H3 D = some (.lst ys) ∧ ys.length < sizeLine ∧ ∃ m', m' < m ∧ W (i + 1) m' σ2 (upd H3 D (.lst (ys ++ [v])))
    else ∃ m', m' < m ∧ W (i + 1) m' σ2 H2)
section
variable {X : Cx} {pins : List (Addr × Obj)} {σ : St} {H : Hp} {s : Shared} {scope : Scope} {cl : List (Str × Addr)} {N : List Str} {cap : List Nat} {k : Nat}
theorem Inv.enterN {fp : List Addr} {h' : Heap} {tk : Nat} (S : CompScopeN X scope cl N cap k) (I : Inv X pins σ H s) (f : ∀ b ∈ fp, FpOk X pins H b ∧ b < s.heap.objs.size) (hn : h'.Ns s.heap.objs.size fun _ => none)
    (kp : ∀ b o, s.heap.get? b = some o → h'.get? b = some o) : Inv (X.comp scope cl N s.heap.objs.size fp s H) [] (frameN k σ cap) H { s with heap := h', toks := tk } := by
  have nC : ∀ b o, s.heap.get? b = some o → b ≠ s.heap.objs.size := fun b o e => Nat.ne_of_lt (Heap.lt_size e)
  have ok := I.ok
  have cellOut : ∀ y c, cl.lookup y = some c → ∃ v, s.heap.IsCell c v := fun y c e => I.cell y c (S.sub I.ok y c e)
  refine ⟨⟨ok.mod, ?_, ok.glob, ok.blt, Nat.le_refl _, fun x y c a b => ok.inj x y c (S.sub I.ok x c a) (S.sub I.ok y c b), S.has, fun _ _ z => absurd z Bool.false_ne_true, ok.hd, ok.frames, .inl rfl, fun b hb => ⟨Nat.ne_of_lt (f b hb).2, fun y c e => (f b hb).1.2.2.2.2.1 y c (S.sub I.ok y c e)⟩, I.bs, Nat.le_trans ok.bsz I.sz, fun b o e hb => ?_, fun b hb z => ?_, I.stack, I.stkFree⟩,
    rfl, I.bare, Un.kept kp, ⟨_, hn, fun i y v a b c => ?_⟩, fun y c e => ?_, I.hok.fresh (Nat.le_refl _), fun y c e => I.freeC y c (S.sub I.ok y c e), fun p hp => by simp at hp, I.hok.kept kp, ?_⟩
  · exact S.kind
  · have := (f b hb).1.2.2.2.1
    rcases this with z | z
    · exact ok.noex b o e z
    · have l1 := Heap.lt_size e
      exact absurd (Nat.lt_of_lt_of_le l1 (Nat.le_trans ok.bsz z)) (Nat.lt_irrefl _)
  · rcases List.mem_cons.mp (I.stkSub b z) with q | q
    · exact (f b hb).1.2.1 q
    · exact (f b hb).1.2.2.1 q
  · unfold frameN at b
    by_cases hik : i < k
    · rw [List.getElem?_append_left (by rw [List.length_replicate]; exact hik)] at b
      simp [hik] at b
    · obtain ⟨j, rfl⟩ : ∃ j, i = j + k := ⟨i - k, by omega⟩
      rw [List.getElem?_append_right (by rw [List.length_replicate]; omega), List.length_replicate, Nat.add_sub_cancel] at b
      unfold capOf at b
      rw [List.getElem?_map] at b
      cases e : cap[j]? with
      | none => rw [e] at b; cases b
      | some i =>
        rw [e] at b
        have b : (σ[i]?).join = some v := by simpa using b
        obtain ⟨p1, p2, p3, p4⟩ := S.cap j i y a e
        have b' : σ[i]? = some (some v) := by
          cases q : σ[i]? with
          | none => rw [q] at b; cases b
          | some w => rw [q] at b; exact congrArg some b
        obtain ⟨m, hm, hl⟩ := I.loc
        obtain ⟨u, ru, l⟩ := hl i y v p1 b' p2
        refine ⟨u, ru, .inr ⟨p4, ?_⟩⟩
        rcases l with l | ⟨l, c0, e0, o', q', hd'⟩
        · exact absurd l.1 p3
        · obtain ⟨c, ec⟩ := S.has y p4
          have := S.sub I.ok y c ec
          rw [e0] at this
          cases this
          exact ⟨c0, ec, o', kp _ _ q', hd'⟩
  · obtain ⟨v, o, q, hd⟩ := cellOut y c e
    exact ⟨v, o, kp _ _ q, hd⟩
  · show (frameN k σ cap).length = N.length
    unfold frameN capOf
    rw [S.len, List.length_append, List.length_replicate, List.length_map]
    omega
end
section
variable {X : Cx} {scope : Scope} {cl : List (Str × Addr)} {N : List Str} {cap : List Nat} {k : Nat} {tg : Expr} {g : TG} {pos : Pos} {iter elt : Expr} {ifs : List Expr} {wi : TI} {tc : TT} {te : TE}
theorem comp_coreN {use : Option (Value → Sem Unit)} {Qv : Value → Shared → Prop} {pins : List (Addr × Obj)} {s : Shared} {σ : St} {H : Hp} {Q : VK} {pos' : Pos} (S : CompScopeN X scope cl N cap k) (hc : X.calm = true) (hi : PI X tg iter wi) (hg : ∀ C fp s₀ H₀, PG (X.comp scope cl N C fp s₀ H₀) tg g)
    (ht : ∀ C fp s₀ H₀, PTs (X.comp scope cl N C fp s₀ H₀) ifs tc) (he : ∀ C fp s₀ H₀, PE (X.comp scope cl N C fp s₀ H₀) elt te) (hs : ∀ x, foldedSetIterable iter X.env x = pure x)
    (I : Inv X pins σ H s) (h : tCompN k cap wi g tc te σ H Q)
    (fin : ∀ (D C : Addr) (H6 : Hp) (s6 : Shared) (m : Str → Option Value), Inv X pins σ H6 s6 → FpOk X pins H6 C → s6.heap.Ns C m → Q (.ref D) H6 → compPost (model X.prog X.w) X.A X.xe use Qv (.ref D) C (.ok .next) s6) :
    wpAny (model X.prog X.w) X.A (comprehension (.ListComp elt [⟨tg, iter, ifs, 0⟩] scope pos) scope X.env pos' (newList []) false (eval iter X.env) use) Qv X.xe s := by
  refine wpAny_comprehension_free (use := use) rfl hs (S.clos I.ok) S.kind S.names (thn (hi pins s σ H _ I h) fun v s1 h1 => thn h1 fun itv s2 h2 => ?_)
  obtain ⟨it, fp, tn, J, H2, rfl, I2, T, st2, f2, q⟩ := h2
  obtain ⟨W, ⟨m0, w0⟩, turn⟩ := q s2.heap.objs.size (I2.hok.fresh (Nat.le_refl _))
  have I3 : Inv X pins σ (upd H2 s2.heap.objs.size (.lst [])) { s2 with heap := s2.heap.push { cls := .type "list", dict := none, data := .seq ([] : List Value).toArray } } :=
    I2.laid (t' := s2.toks) (fun b u e => Heap.get?_push_of_some _ e) (Nat.le_refl _) ⟨Nat.zero_le _, [], 0, .nil, Heap.get?_push_size _ rfl⟩
  refine wpAny_newObj_type (wpAny_newFunctionEnv S.ncell (by intro y hy; simp at hy) (fun h4 hns hsb => ?_) S.kind)
  generalize hs3 : ({ s2 with heap := s2.heap.push { cls := .type "list", dict := none, data := .seq ([] : List Value).toArray } } : Shared) = s3 at I3 hns hsb ⊢
  have f3 : ∀ b ∈ fp, FpOk X pins (upd H2 s2.heap.objs.size (.lst [])) b ∧ b < s3.heap.objs.size := fun b hb => by
    obtain ⟨o, ho, _⟩ := T.obj _ _ st2 b hb
    have l1 : b < s2.heap.objs.size := Heap.lt_size ho
    refine ⟨⟨?_, (f2 b hb).2⟩, ?_⟩
    · rw [upd_ne (Nat.ne_of_lt l1)]; exact (f2 b hb).1
    · rw [← hs3, Heap.size_push]; exact Nat.lt_succ_of_lt l1
  have nsN : h4.Ns s3.heap.objs.size fun _ => none := by
    have := hns
    simpa using this
  have keep4 : ∀ b o, s3.heap.get? b = some o → h4.get? b = some o := fun b o e => (hsb.2 b (Nat.ne_of_lt (Heap.lt_size e))).trans (Heap.get?_push_of_some _ e)
  have Ic := I3.enterN (tk := s3.toks + ([] : List (Str × Value)).length) S f3 nsN keep4
  have st4 : tn 0 h4 := T.keep _ _ _ st2 fun b hb o e => keep4 b o (by rw [← hs3]; exact Heap.get?_push_of_some _ e)
  have stat : ∀ {H' : Hp}, (∀ b ∈ fp, H' b = none) → ∀ b ∈ fp, FpOk (X.comp scope cl N s3.heap.objs.size fp s3 (upd H2 s2.heap.objs.size (.lst []))) [] H' b := fun hn b hb =>
    ⟨hn b hb, Nat.ne_of_lt (f3 b hb).2, fun z => (List.mem_cons.mp (I3.stkSub b z)).elim (fun q => (f3 b hb).1.2.1 q) fun q => (f3 b hb).1.2.2.1 q, .inl hb, fun y c e => (f3 b hb).1.2.2.2.2.1 y c (S.sub I.ok y c e), fun p hp => by simp at hp⟩
  have out : ∀ {σx : St} {H6 : Hp} {s6 : Shared}, Inv (X.comp scope cl N s3.heap.objs.size fp s3 (upd H2 s2.heap.objs.size (.lst []))) [] σx H6 s6 → Q (.ref s2.heap.objs.size) H6 →
      compPost (model X.prog X.w) X.A X.xe use Qv (Value.ref s2.heap.objs.size) s3.heap.objs.size (.ok .next) s6 := fun {σx H6 s6} I6 q6 => by
    obtain ⟨m, hm, _⟩ := I6.loc
    have Io : Inv X pins σ H6 s6 := I3.call' I6.os I6.base I6.hok I6.bare fun b hb => ⟨(f3 b hb).1.2.2.2.1, (f3 b hb).1.2.1, (f3 b hb).1.2.2.2.2.1, (f3 b hb).1.2.2.2.2.2⟩
    exact fin _ _ _ _ m Io (I3.fpOk (b := s3.heap.objs.size) (H' := H6) (Nat.le_refl _) I6.free) hm q6
  have loop : codeAny (model X.prog X.w) X.A (.compLoop (.ListComp elt [⟨tg, iter, ifs, 0⟩] scope pos) 0 (.ref it) (.ref s2.heap.objs.size) (compEnvC scope cl s3.heap.objs.size X.env))
      (compPost (model X.prog X.w) X.A X.xe use Qv (Value.ref s2.heap.objs.size) s3.heap.objs.size) { s3 with heap := h4, toks := s3.toks + ([] : List (Str × Value)).length } := by
    refine cl_loop (fun n s' => ∃ i σx H', Inv (X.comp scope cl N s3.heap.objs.size fp s3 (upd H2 s2.heap.objs.size (.lst []))) [] σx H' s' ∧ tn i s'.heap ∧ (∀ b ∈ fp, H' b = none) ∧ W i n σx H') ?_ m0 ⟨0, _, _, Ic, st4, fun b hb => (f3 b hb).1.1, w0⟩
    rintro n s5 ⟨i, σx, H5, I5, st5, fr5, w5⟩
    rcases turn i n σx H5 w5 with ⟨stop, qd⟩ | ⟨go, step⟩
    · refine wpAny_mono (T.done (X.comp scope cl N s3.heap.objs.size fp s3 (upd H2 s2.heap.objs.size (.lst []))) rfl rfl rfl hc i [] s5 _ H5 (fun _ _ => False) I5 (stat fr5) st5 stop) (fun r s6 ⟨hr, I6⟩ => ?_) fun _ _ z => z.elim
      subst hr
      exact out I6 qd
    · refine wpAny_mono (T.item (X.comp scope cl N s3.heap.objs.size fp s3 (upd H2 s2.heap.objs.size (.lst []))) rfl rfl rfl hc i [] s5 _ H5 (fun _ _ => False) I5 (stat fr5) st5 go) (fun r s6 ⟨u, hr, h6⟩ => ?_) fun _ _ z => z.elim
      subst hr
      refine wpAny_mono h6 (fun _ s7 ⟨v, H7, I7, r7, y7, st7, fr7⟩ => ?_) fun _ _ z => z.elim
      have I7' := I7.pinned (stat fr7) (T.obj _ _ st7)
      have again : ∀ {σ9 : St} {H9 : Hp} {s9 : Shared}, Inv (X.comp scope cl N s3.heap.objs.size fp s3 (upd H2 s2.heap.objs.size (.lst []))) ([] ++ pinsAt fp s7.heap) σ9 H9 s9 → (∃ m', m' < n ∧ W (i + 1) m' σ9 H9) →
          ∃ m', m' < n ∧ ∃ i σx H', Inv (X.comp scope cl N s3.heap.objs.size fp s3 (upd H2 s2.heap.objs.size (.lst []))) [] σx H' s9 ∧ tn i s9.heap ∧ (∀ b ∈ fp, H' b = none) ∧ W i m' σx H' := fun {σ9 H9 s9} I9 ⟨m', lt, w'⟩ => by
        refine ⟨m', lt, i + 1, σ9, H9, I9.unpinned, T.keep _ _ _ st7 fun b hb o e => (I9.pin (b, o) (List.mem_append_right _ (List.mem_append_right _ (mem_pinsAt hb e)))).1, fun b hb => ?_, w'⟩
        obtain ⟨o, e, d⟩ := T.obj _ _ st7 b hb
        exact (I9.pin (b, o) (List.mem_append_right _ (List.mem_append_right _ (mem_pinsAt hb e)))).2.1
      refine wpAny_mono (hg _ _ _ _ _ s7 σx H7 v u _ I7' r7 (step v H7 y7)) (fun _ s8 ⟨σ8, H8, I8, q8⟩ => ?_) fun _ _ z => z.elim
      refine wpAny_mono (ht _ _ _ _ _ s8 _ H8 _ I8 q8) (fun b s9 ⟨H9, I9, q9⟩ => ?_) fun _ _ z => z.elim
      cases b with
      | false => exact again I9 q9
      | true =>
        refine wpAny_mono (he _ _ _ _ _ s9 _ H9 _ I9 q9) (fun u' s10 ⟨v', H10, I10, r10, ys, hD, hz, q10⟩ => ?_) fun _ _ z => z.elim
        refine wpAny_mono (mt_append (X := X.comp scope cl N s3.heap.objs.size fp s3 (upd H2 s2.heap.objs.size (.lst []))) _ s10 _ H10 (.ref s2.heap.objs.size) [v'] (.ref s2.heap.objs.size) [u'] (fun _ H' => ∃ m', m' < n ∧ W (i + 1) m' σ8 H') I10 rfl (.cons r10 .nil) ⟨_, ys, v', rfl, rfl, hD, hz, q10⟩) (fun _ s11 ⟨_, H11, I11, _, q11⟩ => again I11 q11) fun _ _ z => z.elim
  exact codeAny_compStart_list loop (T.self _ 0 _ _ _ st4 loop)
theorem pe_compN (S : CompScopeN X scope cl N cap k) (hc : X.calm = true) (hi : PI X tg iter wi) (hg : ∀ C fp s₀ H₀, PG (X.comp scope cl N C fp s₀ H₀) tg g)
    (ht : ∀ C fp s₀ H₀, PTs (X.comp scope cl N C fp s₀ H₀) ifs tc) (he : ∀ C fp s₀ H₀, PE (X.comp scope cl N C fp s₀ H₀) elt te) (hs : ∀ x, foldedSetIterable iter X.env x = pure x := by intro _; rfl) :
    PE X (.ListComp elt [⟨tg, iter, ifs, 0⟩] scope pos) (tCompN k cap wi g tc te) := by
  intro pins s σ H Q I h
  rw [eval_ListComp]
  refine comp_coreN S hc hi hg ht he hs I h fun D C H6 s6 m Io Cf hm q6 => ?_
  exact ⟨m, hm, fun h' sb => ⟨.ref D, H6, Io.turned (it := C) (t' := s6.toks) (fun b o n e => (sb.2 b n).trans e) Cf.1 Cf.2.1 Cf.2.2.2.1 Cf.2.2.2.2.1 Cf.2.2.2.2.2, rfl, q6⟩⟩
theorem ps_setCN {i : Nat} {y : Str} {py spos : Pos} (hN : X.N.Nodup) (hiy : X.N[i]? = some y) (hy : Loc X.env.scope y) (S : CompScopeN X scope cl N cap k) (hc : X.calm = true) (hi : PI X tg iter wi) (hg : ∀ C fp s₀ H₀, PG (X.comp scope cl N C fp s₀ H₀) tg g)
    (ht : ∀ C fp s₀ H₀, PTs (X.comp scope cl N C fp s₀ H₀) ifs tc) (he : ∀ C fp s₀ H₀, PE (X.comp scope cl N C fp s₀ H₀) elt te) (hs : ∀ x, foldedSetIterable iter X.env x = pure x := by intro _; rfl)
    (hsw : swapsWith (.ListComp elt [⟨tg, iter, ifs, 0⟩] scope pos) (some (.Name y py)) spos.line X.env = pure true := by rfl)
    (hf : X.fn y = true ∨ X.env.scope.names.lookup y = some .local := by first | exact .inl rfl | exact .inr rfl | assumption) :
    PS X (.Assign [.Name y py] (.ListComp elt [⟨tg, iter, ifs, 0⟩] scope pos) spos) (tAsg (tCompN k cap wi g tc te) (gName i)) := by
  intro pins s σ H D I h
  rw [exec_Assign_Name_used _ _ _ _ hsw]
  refine wpAny_bind (wpAny_standAt (wpAny_bind ?_))
  show wpAny _ X.A (do let _ ← comprehension (.ListComp elt [⟨tg, iter, ifs, 0⟩] scope pos) scope X.env _ (newList []) false (eval iter X.env) (some (assign (.Name y py) X.env))) _ _ s
  refine wpAny_bind (wpAny_mono (comp_coreN (use := some (assign (.Name y py) X.env)) (Qv := fun _ s' => SP X pins D .next s') S hc hi hg ht he hs I h fun D' C H6 s6 m Io Cf hm q6 => ?_) (fun _ s' hq => wpAny_pure (wpAny_pure hq)) fun _ _ e => e)
  show wpAny _ X.A (assign (.Name y py) X.env (.ref D')) _ _ _
  refine wpAny_assign_Name (store_ok2 (v := .ref D') Io hN hiy hy rfl (fun s7 I7 hsb => ?_) hf)
  obtain ⟨a, sb, ha⟩ := hsb
  have hne : C ≠ a := fun e => ha.elim (fun q => Cf.2.1 (e.trans q)) fun q => Cf.2.2.2.2.1 _ _ q e.symm
  refine ⟨m, hm.at' fun o e => (sb.2 C hne).trans e, fun h' sb' => ?_⟩
  exact ⟨_, H6, I7.turned (it := C) (t' := s7.toks) (fun b o n e => (sb'.2 b n).trans e) Cf.1 Cf.2.1 Cf.2.2.2.1 Cf.2.2.2.2.1 Cf.2.2.2.2.2, q6⟩
end
theorem comp_scopeN (k : Nat) {X : Cx} {scope : Scope} {N : List Str} {cap : List Nat} (hk : scope.kind = .function) (h1 : scope.names.all (fun y => y.2 != .cell) = true) (h2 : scope.names.all (fun y => y.2 != .local || scope.names.lookup y.1 == some .local) = true)
    (h3 : scope.names.all (fun y => y.2 != .free || X.env.scope.names.lookup y.1 == some .cell || X.env.scope.names.lookup y.1 == some .free) = true)
    (nd : N.Nodup) (hl : N.length = cap.length + k) (hc : (N.drop k).map some = cap.map (fun i => X.N[i]?)) (hf : (N.drop k).all (fun y => scope.names.lookup y == some .free) = true) : CompScopeN X scope (clOf X.env scope) N cap k := by
  have fr : ∀ y : Str, (y, NameKind.free) ∈ scope.names → X.env.scope.names.lookup y = some .cell ∨ X.env.scope.names.lookup y = some .free := fun y hy => by
    have := List.all_eq_true.mp h3 _ hy
    simpa using this
  have nc : ∀ y ∈ scope.names, y.2 ≠ .cell := fun y hy => by
    have := List.all_eq_true.mp h1 y hy
    simpa using this
  have fr2 : X.Ok → ∀ y ∈ scope.names, y.2 = .free → ∃ c, X.env.cells.lookup y.1 = some c := fun ok y hy e => by
    obtain ⟨n, k⟩ := y
    have e : k = .free := e
    subst e
    exact ok.has n (fr n hy)
  refine ⟨hk, fun ok => closure_of (fr2 ok), nc, fun y hy e => ?_, nd, fun y hy => ?_, fun ok y c e => cl_sub scope.names [] (fr2 ok) (fun _ _ z => by simp at z) y c e, hl, fun j i y a b => ?_⟩
  · have := List.all_eq_true.mp h2 y hy
    simpa [e] using this
  · have hm : (y, NameKind.free) ∈ scope.names := by
      have : ∃ k', (k' = NameKind.cell ∨ k' = NameKind.free) ∧ (y, k') ∈ (relabel scope X.env).names := by
        rcases hy with hy | hy
        · exact ⟨_, .inl rfl, lookup_mem hy⟩
        · exact ⟨_, .inr rfl, lookup_mem hy⟩
      obtain ⟨k', hk', hm⟩ := this
      obtain ⟨⟨n, k⟩, hz, e⟩ := List.mem_map.mp hm
      dsimp only at e
      split at e
      · rename_i hcond
        obtain ⟨rfl, rfl⟩ := Prod.mk.inj e
        simp only [Bool.and_eq_true] at hcond
        have : k = .free := by simpa using hcond.1.1
        subst this
        exact hz
      · obtain ⟨rfl, rfl⟩ := Prod.mk.inj e
        rcases hk' with rfl | rfl
        · exact absurd rfl (nc _ hz)
        · exact hz
    have := cl_has (env := X.env) scope.names [] y (.inl hm)
    exact Option.isSome_iff_exists.mp this
  · have hy : y ∈ N.drop k := by
      refine List.mem_of_getElem? (i := j) ?_
      rw [List.getElem?_drop, Nat.add_comm]
      exact a
    have e1 : X.N[i]? = some y := by
      have := congrArg (fun l => l[j]?) hc
      simp only [List.getElem?_map, List.getElem?_drop, Nat.add_comm k j, a, b, Option.map_some] at this
      exact (Option.some.inj this).symm
    have e2 : scope.names.lookup y = some .free := by
      have := List.all_eq_true.mp hf y hy
      simpa using this
    have e3 := fr y (lookup_mem e2)
    refine ⟨e1, e3.elim (fun z => .inr (.inl z)) fun z => .inr (.inr z), ?_, lookup_relabel_free e2⟩
    intro z
    have z : X.env.scope.names.lookup y = some .local := z
    rcases e3 with e3 | e3 <;> rw [e3] at z <;> cases z
def CompJ (J : It) (g : TG) (tc : TT) (te : TE) (cs : St) (H1 : Hp) (Q : VK) : Prop := ∀ D, H1 D = none → ∃ W : Nat → Nat → St → Hp → Prop, (∃ m, W 0 m cs (upd H1 D (.lst []))) ∧ ∀ i m σ1 H, W i m σ1 H →
  (J.stop i H ∧ Q (.ref D) H) ∨ (J.go i H ∧ ∀ x H', J.yld i H x H' → g x σ1 H' fun σ2 H1 => tc σ2 H1 fun b H2 => if b = true then te σ2 H2 fun v H3 => ∃ ys, H3 D = some (.lst ys) ∧ ys.length < sizeLine ∧ ∃ m', m' < m ∧ W (i + 1) m' σ2 (upd H3 D (.lst (ys ++ [v])))
    else ∃ m', m' < m ∧ W (i + 1) m' σ2 H2)
theorem tcomp_in {k : Nat} {cap : List Nat} {wi : TI} {g : TG} {tc : TT} {te : TE} {σ : St} {H : Hp} {Q : VK} (h : wi σ H fun J H1 => CompJ J g tc te (frameN k σ cap) H1 Q) : tCompN k cap wi g tc te σ H Q := h
def CW (xs : List V) (H1 : Hp) (D : Addr) (Pv : Nat → List V → St → Hp → Prop) (i m : Nat) (σ1 : St) (H : Hp) : Prop := m = xs.length - i ∧ i ≤ xs.length ∧ Same H1 H ∧ ∃ ys, H D = some (.lst ys) ∧ ys.length ≤ i ∧ Pv i ys σ1 H
def Put (xs : List V) (H1 : Hp) (D : Addr) (Pv : Nat → List V → St → Hp → Prop) (i : Nat) (σ2 : St) (v : V) (H3 : Hp) : Prop := ∃ ys, H3 D = some (.lst ys) ∧ ys.length < sizeLine ∧ ∃ m', m' < xs.length - i ∧ CW xs H1 D Pv (i + 1) m' σ2 (upd H3 D (.lst (ys ++ [v])))
def Skip (xs : List V) (H1 : Hp) (D : Addr) (Pv : Nat → List V → St → Hp → Prop) (i : Nat) (σ2 : St) (H2 : Hp) : Prop := ∃ m', m' < xs.length - i ∧ CW xs H1 D Pv (i + 1) m' σ2 H2
structure At (xs : List V) (H1 : Hp) (D : Addr) (i : Nat) (ys : List V) (H : Hp) : Prop where
  new : H1 D = none
  lt : i < xs.length
  sz : xs.length < sizeLine
  same : Same H1 H
  lst : H D = some (.lst ys)
  le : ys.length ≤ i
theorem At.put {xs : List V} {H1 : Hp} {D : Addr} {i : Nat} {ys : List V} {H H4 : Hp} {Pv : Nat → List V → St → Hp → Prop} {σ2 : St} {v : V} (a : At xs H1 D i ys H) (g : Same H H4) (p : ∀ H5, Mu H4 D (.lst (ys ++ [v])) H5 → Pv (i + 1) (ys ++ [v]) σ2 H5) : Put xs H1 D Pv i σ2 v H4 :=
  ⟨ys, g _ _ a.lst, by have := a.le; have := a.lt; have := a.sz; omega, xs.length - (i + 1), by have := a.lt; omega, rfl, a.lt, Mu.mk'.same (a.same.trans g) a.new, _, upd_same, by have := a.le; rw [List.length_append, List.length_singleton]; omega, p _ Mu.mk'⟩
theorem At.skip {xs : List V} {H1 : Hp} {D : Addr} {i : Nat} {ys : List V} {H H4 : Hp} {Pv : Nat → List V → St → Hp → Prop} {σ2 : St} (a : At xs H1 D i ys H) (g : Same H H4) (p : Pv (i + 1) ys σ2 H4) : Skip xs H1 D Pv i σ2 H4 :=
  ⟨xs.length - (i + 1), by have := a.lt; omega, rfl, a.lt, a.same.trans g, ys, g _ _ a.lst, Nat.le_succ_of_le a.le, p⟩
theorem compJ {J : It} {xs : List V} {ok : Hp → Prop} (O : Over J xs ok) {g : TG} {tc : TT} {te : TE} {cs : St} {H1 : Hp} {Q : VK} (hok : ∀ H, Same H1 H → ok H) (sz : xs.length < sizeLine) (Pv : Nat → List V → St → Hp → Prop)
    (h0 : ∀ H', Same H1 H' → Pv 0 [] cs H')
    (hs : ∀ D i x ys σ1 H', xs[i]? = some x → At xs H1 D i ys H' → Pv i ys σ1 H' → g x σ1 H' fun σ2 H2 => tc σ2 H2 fun b H3 => if b = true then te σ2 H3 fun v H4 => Put xs H1 D Pv i σ2 v H4 else Skip xs H1 D Pv i σ2 H3)
    (hd : ∀ D ys σ1 H', H1 D = none → Same H1 H' → H' D = some (.lst ys) → ys.length ≤ xs.length → Pv xs.length ys σ1 H' → Q (.ref D) H') : CompJ J g tc te cs H1 Q := by
  intro D hD
  refine ⟨CW xs H1 D Pv, ⟨_, rfl, Nat.zero_le _, same_new hD _, [], upd_same, Nat.le_refl _, h0 _ (same_new hD _)⟩, ?_⟩
  rintro i m σ1 H ⟨rfl, hi, sm, ys, hy, ly, p⟩
  by_cases hlt : i < xs.length
  · refine .inr ⟨O.go i _ (hok _ sm) hlt, fun x H' y => ?_⟩
    obtain ⟨rfl, hx⟩ := O.yld i _ x H' (hok _ sm) hlt y
    exact hs D i x ys σ1 H' hx ⟨hD, hlt, sz, sm, hy, ly⟩ p
  · have e : i = xs.length := by omega
    subst e
    exact .inl ⟨O.stop _ _ (hok _ sm) (Nat.le_refl _), hd D ys σ1 _ hD sm hy ly p⟩
theorem compJ_list {K : PySem.W.Frag} {a : Addr} {xs : List V} {g : TG} {tc : TT} {te : TE} {cs : St} {H1 : Hp} {Q : VK} (ha : H1 a = some (.lst xs)) (sz : xs.length < sizeLine) (Pv : Nat → List V → St → Hp → Prop)
    (h0 : ∀ H', Same H1 H' → Pv 0 [] cs H')
    (hs : ∀ D i x ys σ1 H', xs[i]? = some x → At xs H1 D i ys H' → Pv i ys σ1 H' → g x σ1 H' fun σ2 H2 => tc σ2 H2 fun b H3 => if b = true then te σ2 H3 fun v H4 => Put xs H1 D Pv i σ2 v H4 else Skip xs H1 D Pv i σ2 H3)
    (hd : ∀ D ys σ1 H', H1 D = none → Same H1 H' → H' D = some (.lst ys) → ys.length ≤ xs.length → Pv xs.length ys σ1 H' → Q (.ref D) H') : CompJ (Itl K a) g tc te cs H1 Q :=
  compJ over_list (fun H g => g _ _ ha) sz Pv h0 hs hd
theorem compJ_range {n : Nat} {g : TG} {tc : TT} {te : TE} {cs : St} {H1 : Hp} {Q : VK} (sz : n < 100000) (Pv : Nat → List V → St → Hp → Prop)
    (h0 : ∀ H', Same H1 H' → Pv 0 [] cs H')
    (hs : ∀ D i ys σ1 H', i < n → At ((List.range n).map fun (k : Nat) => V.int (0 + k)) H1 D i ys H' → Pv i ys σ1 H' → g (.int (i : Nat)) σ1 H' fun σ2 H2 => tc σ2 H2 fun b H3 => if b = true then te σ2 H3 fun v H4 => Put ((List.range n).map fun (k : Nat) => V.int (0 + k)) H1 D Pv i σ2 v H4 else Skip ((List.range n).map fun (k : Nat) => V.int (0 + k)) H1 D Pv i σ2 H3)
    (hd : ∀ D ys σ1 H', H1 D = none → Same H1 H' → H' D = some (.lst ys) → ys.length ≤ n → Pv n ys σ1 H' → Q (.ref D) H') : CompJ (Itr 0 n) g tc te cs H1 Q := by
  have el : ((List.range n).map fun (k : Nat) => V.int (0 + k)).length = n := by rw [List.length_map, List.length_range]
  refine compJ (over_range 0 n) (fun _ _ => trivial) (by rw [el]; unfold sizeLine; omega) Pv h0 (fun D i x ys σ1 H' hx a p => ?_) (fun D ys σ1 H' h1 h2 h3 h4 h5 => hd D ys σ1 H' h1 h2 h3 (by rw [el] at h4; exact h4) (by rw [el] at h5; exact h5))
  have hi : i < n := by have := a.lt; rw [el] at this; exact this
  have ex : x = .int (i : Nat) := by
    rw [List.getElem?_map, List.getElem?_range hi] at hx
    simp at hx
    exact hx.symm
  rw [ex]
  exact hs D i ys σ1 H' hi a p
end L2
namespace L2
open PySem PySem.Spec PyProof.Rows
def hide (D : Addr) (H : Hp) : Hp := fun c => if c = D then none else H c
theorem hide_of {D c : Addr} {H : Hp} {u : HO} (n : c ≠ D) (h : H c = some u) : hide D H c = some u := by unfold hide; rw [if_neg n]; exact h
theorem hide_inv {D c : Addr} {H : Hp} {u : HO} (h : hide D H c = some u) : c ≠ D ∧ H c = some u := by
  unfold hide at h
  by_cases e : c = D
  · rw [if_pos e] at h; cases h
  · rw [if_neg e] at h; exact ⟨e, h⟩
end L2
namespace L2
open PySem PySem.Spec PyProof.Rows
section
variable {X : Cx}
def rPopAtG : V → List V → Hp → VK → Prop := fun x vs H Q => ∃ l xs i y, x = .ref l ∧ vs = [.int i] ∧ H l = some (.lst xs) ∧ 0 ≤ i ∧ i < xs.length ∧ xs.length < 100000 ∧ xs[i.toNat]? = some y ∧ ∀ H', Mu H l (.lst (xs.eraseIdx i.toNat)) H' → Q y H'
def tRng1 (ta : TA) : TE := fun σ H Q => ta σ H fun vs H1 => ∃ j : Int, vs = [.int j] ∧ ∀ p H', H1 p = none → Same H1 H' → H' p = some (.rng 0 j) → Q (.ref p) H'
def rListRng : List V → Hp → VK → Prop := fun xs H Q => ∃ p, ∃ n : Nat, xs = [.ref p] ∧ H p = some (.rng 0 n) ∧ n < 100000 ∧ ∀ l H', H l = none → Same H H' → H' l = some (.lst (((List.range n).map fun k => ((k : Nat) : Int)).map V.int)) → Q (.ref l) H'
def tRev (te : TE) (ts : TO) : TE := fun σ H Q => te σ H fun x H1 => ts σ H1 fun o H2 => o = some (-1) ∧ ∃ a xs, x = .ref a ∧ H2 a = some (.lst xs) ∧ ∀ p H', H2 p = none → Same H2 H' → H' p = some (.lst xs.reverse) → Q (.ref p) H'
end
end L2
namespace L2
open PySem PySem.Spec PyProof.Rows
section
variable {X : Cx}
def rMinL : List V → Hp → VK → Prop := fun xs H Q => ∃ (p : Addr) (ns : List Int), xs = [.ref p] ∧ H p = some (.lst (ns.map V.int)) ∧ 0 < ns.length ∧ ∀ M : Int, M ∈ ns → (∀ a ∈ ns, M ≤ a) → Q (.int M) H
def rIdxG : V → List V → Hp → VK → Prop := fun x vs H Q => ∃ (l : Addr) (ns : List Int) (k : Int), x = .ref l ∧ vs = [.int k] ∧ H l = some (.lst (ns.map V.int)) ∧ k ∈ ns ∧ ns.length < 100000 ∧ Q (.int (ns.idxOf k : Nat)) H
end
end L2
namespace L2
open PySem PySem.Spec PyProof.Rows
theorem lookup_n {f : Str} : List.lookup f ([] : List (Str × V)) = none := rfl
theorem lookup_c {f g : Str} {v : V} {r : List (Str × V)} : List.lookup f ((g, v) :: r) = if f = g then some v else List.lookup f r := by
  by_cases h : f = g
  · have hb : (f == g) = true := beq_iff_eq.mpr h
    simp only [List.lookup, hb, if_pos h]
  · have hb : (f == g) = false := beq_eq_false_iff_ne.mpr h
    simp only [List.lookup, hb, if_neg h]
theorem putF_n {f : Str} {v : V} : putF f v [] = [(f, v)] := rfl
theorem putF_c {f g : Str} {v x : V} {r : List (Str × V)} : putF f v ((g, x) :: r) = if g = f then (g, v) :: r else (g, x) :: putF f v r := rfl
structure MethAt (K : PySem.W.Frag) (C : Addr) (m q : Str) (st : Stmt) (ps : List Str) : Prop where
  ex : ∃ f fd, Meth K C m f ∧ Fun K m q st f fd ∧ Binds K fd ps []
structure OkM (P : Program) (w : World) (K : PySem.W.Frag) (mg : Str → Option Value) (base : Heap) (n : Nat) (C : Addr) (m : Str) (ps : List Str) (sp : Sp) : Prop where
  ex : ∃ f fd, Meth K C m f ∧ Binds K fd ps [] ∧ FnOk P w K mg base CX0 n f fd ps sp
  cl : Cls K C
structure MakeAt (K : PySem.W.Frag) (mg : Str → Option Value) (x : Str) (C : Addr) (q : Str) (st : Stmt) (ps : List Str) : Prop where
  ex : ∃ f fd, mg x = some (.ref C) ∧ Mk K C f ∧ Fun K "__init__" q st f fd ∧ Binds K fd ps []
structure OkC (P : Program) (w : World) (K : PySem.W.Frag) (mg : Str → Option Value) (base : Heap) (n : Nat) (x : Str) (C : Addr) (ps : List Str) (sp : Sp) : Prop where
  ex : ∃ f fd, mg x = some (.ref C) ∧ Mk K C f ∧ Binds K fd ps [] ∧ FnOk P w K mg base CX0 n f fd ps sp
section
variable {P : Program} {w : World} {K : PySem.W.Frag} {mg : Str → Option Value} {base : Heap} {x m q : Str} {st : Stmt} {N ps : List Str} {k : Nat} {sp : Sp} {C : Addr}
end
def tFldG (C : Addr) (f : Str) (ta : TE) : TE := fun σ H Q => ta σ H fun x H1 => ∃ a dx fs v, x = .ref a ∧ H1 a = some (.ins C dx fs) ∧ fs.lookup f = some v ∧ Q v H1
def sFldG (C : Addr) (f : Str) (ta tv : TE) : TS := fun D σ H => tv σ H fun y H1 => ta σ H1 fun x H2 => ∃ a dx fs, x = .ref a ∧ H2 a = some (.ins C dx fs) ∧ fs.length < 1000 ∧ ∀ H', Mu H2 a (.ins C dx (putF f y fs)) H' → D.nx σ H'
def tMethG (C : Addr) (m : Str) (sp : Sp) (ta : TE) (t : TA) : TE := fun σ H Q => ta σ H fun x H1 => ∃ a dx fs, x = .ref a ∧ H1 a = some (.ins C dx fs) ∧ fs.lookup m = none ∧ t σ H1 fun vs H2 => sp (x :: vs) H2 Q E0
def tMakeG (C : Addr) (sp : Sp) (t : TA) : TE := fun σ H Q => t σ H fun vs H1 => ∀ x dx H', H1 x = none → H1 dx = none → Same H1 H' → H' x = some (.ins C dx []) → H' dx = some (.own x) → sp (.ref x :: vs) H' (fun v H2 => v = .non ∧ Q (.ref x) H2) E0
section
variable {X : Cx} {k n : Nat} {ps : List Str} {sp : Sp} {x m f : Str} {p pos pos' apos : Pos} {o e value : Expr} {es : List Expr} {t : TA} {ta tv : TE} {C : Addr}
end
end L2
namespace L2
open PySem PySem.Spec PyProof.Rows
def tUnf (nf : Addr → Prop) (t : TE) : TE := fun σ H Q => t σ H fun v H' => ∃ d o kvs, nf d ∧ H' d = some (.frz o (.dK kvs)) ∧ Q v (upd H' d (.dK kvs))
def tDGetDG (td ty tx : TE) : TE := fun σ H Q => td σ H fun x H1 => ∃ a, x = .ref a ∧ (∃ kvs, H1 a = some (.dK kvs)) ∧ ty σ H1 fun y H2 => tx σ H2 fun z H3 => ∃ kvs k, H3 a = some (.dK kvs) ∧ keyOf y = some k ∧ Q ((valV kvs k).getD z) H3
end L2
namespace L2
open PySem PySem.Spec PyProof.Rows
section
variable {prog : Program} {w : World}
inductive ItP (prog : Program) (w : World) (h : Heap) (d it : Addr) : List Value → List (Key × Value) → Prop
  | nil : ItP prog w h d it [] []
  | cons {a : Addr} {o : Obj} {key v : Value} {k : Key} {n : Nat} {xs : List Value} {ps : List (Key × Value)} : h.get? a = some o → o.cls = .type "tuple" → o.data = .seq #[key, v] n → (mixKind prog w).is k key = true → a ≠ d → a ≠ it → ItP prog w h d it xs ps → ItP prog w h d it (.ref a :: xs) ((k, v) :: ps)
end
inductive PrK (H : Hp) : List V → List (Key × V) → Prop
  | nil : PrK H [] []
  | cons {a : Addr} {k : Key} {v : V} {xs : List V} {ps : List (Key × V)} : H a = some (.tup [kV k, v]) → PrK H xs ps → PrK H (.ref a :: xs) ((k, v) :: ps)
def putAll (ps : List (Key × V)) : List (Key × V) := ps.foldl (fun c p => putK c p.1 p.2) []
def rDictP : List V → Hp → VK → Prop := fun xs H Q => ∃ (p : Addr) (ys : List V) (ps : List (Key × V)), xs = [.ref p] ∧ H p = some (.lst ys) ∧ PrK H ys ps ∧ ps.length < 1000 ∧ ∀ l H', H l = none → Same H H' → H' l = some (.dK (putAll ps)) → Q (.ref l) H'
end L2
namespace L2
open PySem PySem.Spec PyProof.Rows PySem.W
def Gd {α : Type} (N : Nat) (R : α → Prop) : KasT α → Prop
  | .ret a => R a
  | .ask i j k => i < N ∧ j < N ∧ ∀ b, Gd N R (k b)
def Ord (n : Nat) (p : Array Nat) : Prop := p.Perm (List.toArray (List.range n))
section
variable {N : Nat} (hN : 0 < N)
include hN
end
section
variable {prog : Program} {w : World} {A : Around} {E : Value → Shared → Prop} {s : Shared}
end
def rSortT : List V → Hp → VK → Prop := fun xs H Q => ∃ (p : Addr) (ys : List V), xs = [.ref p] ∧ H p = some (.lst ys) ∧ (∀ y ∈ ys, ∃ a i j, y = .ref a ∧ H a = some (.tup [.int i, .int j])) ∧ ys.length < 64 ∧
  ∀ D H' zs, H D = none → Same H H' → H' D = some (.lst zs) → zs.Perm ys → Q (.ref D) H'
end L2
namespace L2
open PySem PySem.Spec PyProof.Rows
end L2
namespace L2
open PySem PySem.Spec PyProof.Rows
section
variable {X : Cx}
def rListK : List V → Hp → VK → Prop := fun xs H Q => ∃ (d : Addr) (kvs : List (Key × V)), xs = [.ref d] ∧ H d = some (.dK kvs) ∧ kvs.length < 1000 ∧ ∀ l H', H l = none → Same H H' → H' l = some (.lst (kvs.map fun kv => kV kv.1)) → Q (.ref l) H'
end
end L2
namespace L2
open PySem PySem.Spec PyProof.Rows
def pairO (i j : Int) : Option HO → Bool
  | some (.tup [.int a, .int b]) => decide (a = i) && decide (b = j)
  | _ => false
def pairV (H : Hp) (i j : Int) : V → Bool
  | .ref b => pairO i j (H b)
  | _ => false
def rInP : R2 := fun x y H Q => ∃ a p i j xs, x = .ref a ∧ y = .ref p ∧ H a = some (.tup [.int i, .int j]) ∧ H p = some (.lst xs) ∧ (∀ v ∈ xs, ∃ b i' j', v = .ref b ∧ H b = some (.tup [.int i', .int j'])) ∧ Q (.bl (xs.any (pairV H i j))) H
def rIntB : List V → Hp → VK → Prop := fun xs H Q => ∃ k, xs = [.bl k] ∧ Q (.int (if k = true then 1 else 0)) H
theorem call_intB {X : Cx} : CallR X (.type "int") rIntB := by
  intro pins s σ H xs us Q I r h
  exact call_int1 pins s σ H xs us Q I r (.inr h)
end L2
namespace L2
open PySem PySem.Spec PyProof.Rows PySem.W
def Go {α : Type} (lt : Nat → Nat → Bool) (N : Nat) (R : α → Prop) : KasT α → Prop
  | .ret a => R a
  | .ask i j k => i < N ∧ j < N ∧ Go lt N R (k (lt i j))
section
variable {lt : Nat → Nat → Bool} {N : Nat} (hN : 0 < N) (tr : ∀ i j k, lt i j = true → lt j k = true → lt i k = true) (tot : ∀ i j, i < N → j < N → i ≠ j → lt i j = true ∨ lt j i = true)
def Up (lt : Nat → Nat → Bool) (p : Array Nat) (k : Nat) : Prop := ∀ i j, i < j → j < k → lt (p.getD i 0) (p.getD j 0) = true
def Down (lt : Nat → Nat → Bool) (p : Array Nat) (k : Nat) : Prop := ∀ i j, i < j → j < k → lt (p.getD j 0) (p.getD i 0) = true
include tr in
include tr in
include hN tr tot in
include hN tr tot in
include hN tr tot in
include hN tr tot in
include hN tr tot in
include hN tr tot in
end
section
variable {prog : Program} {w : World} {A : Around} {E : Value → Shared → Prop} {s : Shared}
end
def SN : Nat := 64
def rSortO : List V → Hp → VK → Prop := fun xs H Q => ∃ (p : Addr) (ps : List (Addr × List Int)) (L : Nat), xs = [.ref p] ∧ H p = some (.lst (ps.map fun q => .ref q.1)) ∧ (∀ q ∈ ps, H q.1 = some (.tup (q.2.map V.int))) ∧ 0 < L ∧ (∀ q ∈ ps, q.2.length = L) ∧ ps.Pairwise (fun q r => q.2 ≠ r.2) ∧ ps.length < SN ∧
  ∀ (D : Addr) (H' : Hp) (qs : List (Addr × List Int)), H D = none → Same H H' → H' D = some (.lst (qs.map fun q => .ref q.1)) → qs.Perm ps → qs.Pairwise (fun q r => HT.lexLt q.2 r.2 = true) → Q (.ref D) H'
end L2
theorem L2.exBl {b : Bool} {p : Bool → Prop} : (∃ c, L2.V.bl b = L2.V.bl c ∧ p c) = p b := propext ⟨fun ⟨_, e, h⟩ => (L2.V.bl.inj e) ▸ h, fun h => ⟨_, rfl, h⟩⟩
theorem L2.exIn {b : Int} {p : Int → Prop} : (∃ c, L2.V.int b = L2.V.int c ∧ p c) = p b := propext ⟨fun ⟨_, e, h⟩ => (L2.V.int.inj e) ▸ h, fun h => ⟨_, rfl, h⟩⟩
theorem L2.exIn1 {b : Int} {α : Sort _} {p : Int → α → Prop} : (∃ c x, L2.V.int b = L2.V.int c ∧ p c x) = ∃ x, p b x := propext ⟨fun ⟨_, x, e, h⟩ => ⟨x, (L2.V.int.inj e) ▸ h⟩, fun ⟨x, h⟩ => ⟨_, x, rfl, h⟩⟩
theorem L2.exRf {b : PySem.Addr} {p : PySem.Addr → Prop} : (∃ c, L2.V.ref b = L2.V.ref c ∧ p c) = p b := propext ⟨fun ⟨_, e, h⟩ => (L2.V.ref.inj e) ▸ h, fun h => ⟨_, rfl, h⟩⟩
theorem L2.exRf1 {b : PySem.Addr} {α : Sort _} {p : PySem.Addr → α → Prop} : (∃ c x, L2.V.ref b = L2.V.ref c ∧ p c x) = ∃ x, p b x := propext ⟨fun ⟨_, x, e, h⟩ => ⟨x, (L2.V.ref.inj e) ▸ h⟩, fun ⟨x, h⟩ => ⟨_, x, rfl, h⟩⟩
theorem L2.exRf2 {b : PySem.Addr} {α β : Sort _} {p : PySem.Addr → α → β → Prop} : (∃ c x y, L2.V.ref b = L2.V.ref c ∧ p c x y) = ∃ x y, p b x y := propext ⟨fun ⟨_, x, y, e, h⟩ => ⟨x, y, (L2.V.ref.inj e) ▸ h⟩, fun ⟨x, y, h⟩ => ⟨_, x, y, rfl, h⟩⟩
theorem L2.exRf3 {b : PySem.Addr} {α β γ : Sort _} {p : PySem.Addr → α → β → γ → Prop} : (∃ c x y z, L2.V.ref b = L2.V.ref c ∧ p c x y z) = ∃ x y z, p b x y z := propext ⟨fun ⟨_, x, y, z, e, h⟩ => ⟨x, y, z, (L2.V.ref.inj e) ▸ h⟩, fun ⟨x, y, z, h⟩ => ⟨_, x, y, z, rfl, h⟩⟩
theorem L2.exSt {b : PySem.Str} {p : PySem.Str → Prop} : (∃ c, L2.V.str b = L2.V.str c ∧ p c) = p b := propext ⟨fun ⟨_, e, h⟩ => (L2.V.str.inj e) ▸ h, fun h => ⟨_, rfl, h⟩⟩
theorem L2.exSo {α : Type} {b : α} {p : α → Prop} : (∃ c, some b = some c ∧ p c) = p b := propext ⟨fun ⟨_, e, h⟩ => (Option.some.inj e) ▸ h, fun h => ⟨_, rfl, h⟩⟩
theorem L2.qVar {i : Nat} {σ : L2.St} {H : L2.Hp} {Q : L2.VK} {v : L2.V} (h : σ[i]? = some (some v)) : L2.tVar i σ H Q = Q v H := propext ⟨fun ⟨_, e, q⟩ => by rw [h] at e; cases e; exact q, fun q => ⟨_, h, q⟩⟩
theorem L2.and_t {a b : Prop} (h : a = True) : (a ∧ b) = b := by rw [h, true_and]
theorem L2.and_f {a b : Prop} (h : a = False) : (a ∧ b) = False := by rw [h, false_and]
theorem L2.and_r {a b a1 a2 : Prop} (h : a = (a1 ∧ a2)) : (a ∧ b) = (a1 ∧ (a2 ∧ b)) := by rw [h, and_assoc]
theorem L2.and_l {a b a' : Prop} (h : a = a') : (a ∧ b) = (a' ∧ b) := by rw [h]
open Lean Meta Simp in
simproc_decl quickVar (L2.tVar _ _ _ _) := fun e => do
  let_expr L2.tVar i s H Q := e | return .continue
  let l ← mkAppM ``GetElem?.getElem? #[s, i]
  let w ← whnfD l
  let_expr Option.some _ o := w | return .continue
  let o' ← whnfD o
  let_expr Option.some _ v := o' | return .continue
  return .visit { expr := (mkApp2 Q v H).headBeta, proof? := some (mkApp6 (mkConst ``L2.qVar) i s H Q v (← mkEqRefl l)) }
open Lean Meta Simp in
simproc_decl lazyAnd (_ ∧ _) := fun e => do
  let_expr And a b := e | return .continue
  let r ← simp a
  let a' := r.expr
  if a'.isTrue then return .visit { expr := b, proof? := some (mkApp3 (mkConst ``L2.and_t) a b (← r.getProof)) }
  if a'.isFalse then return .done { expr := mkConst ``False, proof? := some (mkApp3 (mkConst ``L2.and_f) a b (← r.getProof)) }
  match_expr a' with
  | And a1 a2 => return .visit { expr := mkAnd a1 (mkAnd a2 b), proof? := some (mkApp5 (mkConst ``L2.and_r) a b a1 a2 (← r.getProof)) }
  | _ =>
    match r.proof? with
    | none => return .done { expr := mkAnd a' b }
    | some h => return .done { expr := mkAnd a' b, proof? := some (mkApp4 (mkConst ``L2.and_l) a b a' h) }
theorem L2.ite_c {α : Sort _} {c c' : Prop} [d : Decidable c] [d' : Decidable c'] (h : c = c') (x y : α) : ite c x y = ite c' x y := by subst h; congr
open Lean Meta Simp in
simproc_decl lazyIte (ite _ _ _) := fun e => do
  let_expr ite α c d x y := e | return .continue
  let r ← simp c
  if r.expr.isTrue || r.expr.isFalse then return .continue
  if r.expr == c then return .done { expr := e }
  let d' ← synthInstance (mkApp (mkConst ``Decidable) r.expr)
  return .done { expr := mkApp5 e.consumeMData.getAppFn α r.expr d' x y, proof? := some (mkAppN (mkConst ``L2.ite_c e.consumeMData.getAppFn.constLevels!) #[α, c, r.expr, d, d', ← r.getProof, x, y]) }
open Lean Meta Simp in
simproc_decl lazyAll (_) := fun e => do
  if e.isForall then return .done { expr := e } else return .continue
def L2.rdPost : String := "L2.rSortO L2.rLtT L2.rIntB L2.rListK L2.rInP L2.tFldG L2.sFldG L2.tMethG L2.tMakeG L2.lookup_n L2.lookup_c L2.putF_n L2.putF_c L2.HO.ins.injEq L2.tDGetDG L2.tUnf L2.rDictP L2.rSortT L2.rMinL L2.rIdxG L2.rPopAtG L2.tRng1 L2.rListRng L2.tRev L2.rIxL L2.tBreak L2.tCont L2.rSum L2.rSort L2.rListG L2.rInsG L2.tDPopG L2.frameN L2.capOf Option.join_some L2.tYes L2.tChain L2.rAll L2.tBM L2.tyV L2.rStarts L2.rInK L2.tFmt L2.tJoin L2.jCons L2.jNil L2.tDefR L2.tRaise L2.rMulS L2.rSlS L2.rJoinS L2.rCatG L2.tTry1 L2.tTry0 L2.tBM0 L2.rPopG L2.rRepG L2.tDGetR L2.gLstG L2.tCallX L2.rIsiX L2.rIsiXT L2.tMs L2.rSetG L2.gSub L2.tSeq L2.tNext L2.tIfS L2.tTest L2.tB L2.tOp L2.tUn L2.rU L2.tVar L2.tC L2.rI0 L2.rI L2.tRet L2.tRetN L2.tDrop L2.tAsg L2.gName L2.gTup L2.gCons L2.gNil L2.tNil L2.tCons L2.tTupG L2.tLstG L2.tDNewG L2.rDictG L2.tAppG L2.sDPutG2 L2.pairsOf L2.tDispG L2.tPairs Option.bind_some L2.tDef L2.tCB L2.tAnd L2.tOr L2.tNot L2.tAndV L2.tOrV L2.tNotV L2.tIf L2.rIxG L2.rIxS L2.rEq L2.rNe L2.scal_ss L2.scal_ii L2.scal_bb L2.scal_nn L2.scal_ns L2.scal_sn L2.scal_ni L2.scal_in L2.flat_s L2.flat_i L2.flat_n L2.flat_b L2.inV_nil L2.inV_cons L2.eqV_ss L2.eqV_ii L2.cx_K L2.rInG L2.gTupG L2.rSlG L2.tSl L2.tPart L2.tNoPart L2.tForT L2.tForL L2.turns L2.upd_same List.all_cons List.all_nil Bool.and_true Bool.true_and Bool.and_self Bool.or_false Bool.or_true Bool.false_or Bool.true_or L2.cutV HT.sIx L2.rIsiG L2.tyG_n L2.tyG_b L2.tyG_i L2.tyG_s L2.tyG_r L2.hoT_l L2.hoT_t L2.hoT_d L2.V.ty.injEq L2.kit_ii L2.kit_it L2.kit_il L2.kit_is L2.kit_ib L2.kit_id L2.kit_ni L2.kit_nt L2.kit_nl L2.kit_ns L2.kit_nb L2.kit_nd L2.kit_ti L2.kit_tt L2.kit_tl L2.kit_ts L2.kit_tb L2.kit_td L2.kit_li L2.kit_lt L2.kit_ll L2.kit_ls L2.kit_lb L2.kit_ld L2.kit_si L2.kit_st L2.kit_sl L2.kit_ss L2.kit_sb L2.kit_sd L2.kit_bi L2.kit_bt L2.kit_bl L2.kit_bs L2.kit_bb L2.kit_bd L2.kit_di L2.kit_dt L2.kit_dl L2.kit_ds L2.kit_db L2.kit_dd L2.mn1 L2.mn2 List.drop_succ_cons List.drop_zero List.take_succ_cons List.take_zero Nat.reduceEqDiff not_false_eq_true L2.tDInG L2.tDNotInG L2.tDGetG L2.keyOf_s L2.keyOf_i List.cons.injEq L2.tDNewK L2.start List.map_cons List.map_nil List.length_cons List.length_nil List.replicate List.cons_append List.nil_append List.getElem?_cons_zero List.getElem?_cons_succ List.set_cons_zero List.set_cons_succ Option.some.injEq L2.V.int.injEq L2.V.str.injEq L2.V.ref.injEq L2.V.bl.injEq L2.HO.tup.injEq L2.HO.lst.injEq L2.HO.dK.injEq reduceCtorEq exists_eq_left' exists_and_left exists_eq_left exists_eq_right L2.CPow L2.CMul L2.CDiv decide_eq_true_eq L2.ofString_inj String.reduceEq decide_true decide_false Bool.false_eq_true if_true if_false if_pos and_true true_and or_false false_or or_true true_or and_false false_and exists_const exists_false Bool.not_true Bool.not_false L2.sz0 L2.sz1 L2.sz2 L2.sz3 L2.sz4 L2.sz5 L2.sz6 L2.atI_0 L2.atI_1 L2.atI_2 L2.atI_3 L2.atI_4 Nat.reduceAdd Nat.reduceSub Nat.zero_add Nat.reduceLeDiff Int.reducePow Int.reduceToNat Int.reduceLT Int.reduceLE Int.reduceNeg L2.na2 L2.na10 Nat.reducePow Nat.reduceLT"
def L2.lzPre : String := "lazyAnd reduceIte lazyIte exists_eq_left exists_eq_left' reduceIte L2.exBl L2.exIn L2.exRf L2.exSt L2.exSo quickVar L2.exIn1 L2.exRf1 L2.exRf2 L2.exRf3"
def L2.rdPre : String := "exists_eq_left exists_eq_left' reduceIte L2.exBl L2.exIn L2.exRf L2.exSt L2.exSo quickVar L2.exIn1 L2.exRf1 L2.exRf2 L2.exRf3"
open Lean in
def L2.rdArgs (pre : String) : MacroM (TSyntaxArray ``Lean.Parser.Tactic.simpLemma) := do
  let p ← (L2.rdPost.splitOn " ").toArray.mapM fun n => `(Lean.Parser.Tactic.simpLemma| $(mkIdent n.toName):ident)
  let a ← (pre.splitOn " ").toArray.mapM fun n => `(Lean.Parser.Tactic.simpLemma| ↓ $(mkIdent n.toName):ident)
  return a ++ p
namespace L2
open PySem PySem.Spec PyProof.Rows PySem.W
section
variable {X : Cx} {k k2 n : Nat} {ps ps2 : List Str} {sp sp2 : Sp} {m : Str} {pos apos : Pos} {o e : Expr} {es : List Expr} {t : TA} {ta : TE} {C C2 : Addr}
end
end L2
namespace L2
open PySem PySem.Spec PyProof.Rows
end L2
namespace L2
open PySem PySem.Spec PyProof.Rows
structure Nx (prog : Program) (w : World) (i : Addr) (fp : List Addr) (T : Nat → Heap → Prop) (item : Nat → Option Value) : Prop where
  keep : ∀ k h h', T k h → (∀ b, b = i ∨ b ∈ fp → ∀ o, h.get? b = some o → h'.get? b = some o) → T k h'
  obj : ∀ k h, T k h → ∃ o, h.get? i = some o ∧ (∀ v, o.data ≠ .cell v) ∧ o.cls ≠ .type "StopIteration"
  next : ∀ (A : Around) k x s (Q : Value → Shared → Prop) (E : Value → Shared → Prop), T k s.heap → item k = some x → (∀ h', T (k + 1) h' → Heap.SameBut i s.heap h' → Q x { s with heap := h' }) → wpAny (model prog w) A (Builtin.SmallTypes.nextOf (.ref i)) Q E s
  done : ∀ (A : Around) k s (Q : Value → Shared → Prop) (E : Value → Shared → Prop), A.handled = none → T k s.heap → item k = none → (∀ h' e, Heap.ExtBut i s.heap h' → (∃ o, h'.get? e = some o ∧ o.cls = .type "StopIteration") → E (.ref e) { s with heap := h' }) → wpAny (model prog w) A (Builtin.SmallTypes.nextOf (.ref i)) Q E s
section
variable {prog : Program} {w : World} {A : Around} {E : Value → Shared → Prop} {s : Shared}
theorem nx_list (i l : Addr) (xs : Array Value) (ne : l ≠ i) : Nx prog w i [l] (fun k h => h.IsListIter i l k ∧ h.IsList l xs) (fun k => xs[k]?) where
  keep := fun k h h' ⟨h1, h2⟩ kp => ⟨h1.at fun o e => kp i (.inl rfl) o e, h2.at fun o e => kp l (.inr (by simp)) o e⟩
  obj := fun k h ⟨⟨o, e, c, d⟩, _⟩ => ⟨o, e, fun v z => (by rw [d] at z; cases z), fun z => (by rw [c] at z; simp at z)⟩
  next := fun A k x s Q E ⟨h1, h2⟩ hx q => wpAny_nextOf_list_item h1 h2 hx fun h' a b => q h' ⟨a, h2.extBut b.extBut ne⟩ b
  done := fun A k s Q E hh ⟨h1, h2⟩ hx q => wpAny_nextOf_list_end hh h1 h2 hx q
theorem nx_tuple (i l : Addr) (xs : Array Value) (ne : l ≠ i) : Nx prog w i [l] (fun k h => h.IsTupleIter i l k ∧ h.IsTuple l xs) (fun k => xs[k]?) where
  keep := fun k h h' ⟨⟨o, e, r⟩, ⟨o2, e2, r2⟩⟩ kp => ⟨⟨o, kp i (.inl rfl) o e, r⟩, ⟨o2, kp l (.inr (by simp)) o2 e2, r2⟩⟩
  obj := fun k h ⟨⟨o, e, c, d⟩, _⟩ => ⟨o, e, fun v z => (by rw [d] at z; cases z), fun z => (by rw [c] at z; simp at z)⟩
  next := fun A k x s Q E ⟨h1, h2⟩ hx q => by
    obtain ⟨o, ho, hc, hd⟩ := id h1
    obtain ⟨o2, ho2, hc2, n2, hd2⟩ := id h2
    unfold Builtin.SmallTypes.nextOf
    refine wpAny_bind (wpAny_callSpecial?_slot (name := Str.ofString "__next__") h1.typeIs F.slot_tuple_iterator_next (wpAny_call_entry F.slot_tuple_iterator_next h1.typeIs F.entry_tuple_iterator_next ?_ (F.args_tuple_iterator_next_1 _)))
    show wpAny _ _ (field (.ref i) 0 >>= _) _ _ _
    refine wpAny_bind (wpAny_field ho hd (x := .ref l) rfl ?_)
    show wpAny _ _ (if (Value.ref l == Value.none) = true then _ else _) _ _ _
    rw [if_neg (show ¬ ((Value.ref l == Value.none) = true) from Bool.false_ne_true)]
    show wpAny _ _ (field (.ref i) 1 >>= _) _ _ _
    refine wpAny_bind (wpAny_field ho hd (x := .int k 0) rfl ?_)
    show wpAny _ _ (seqItems? (.ref l) >>= _) _ _ _
    refine wpAny_bind (wpAny_seqItems ho2 hd2 ?_)
    simp only [Int.toNat_natCast, hx]
    have sb := Heap.SameBut.update s.heap i (Obj.mapFields (·.setIfInBounds 1 (rawInt ((k : Int) + 1))))
    refine wpAny_bind (wpAny_setField ho hd (by simp) (wpAny_pure ⟨x, rfl, wpAny_pure (q _ ⟨?_, h2.extBut sb.extBut ne⟩ sb)⟩))
    exact ⟨_, Heap.get?_update_self _ ho (Obj.isFreed_of_fields (Obj.data_mapFields hd _)), (Obj.cls_mapFields ..).trans hc, by rw [Obj.data_mapFields hd]; simp [rawInt]⟩
  done := fun A k s Q E hh ⟨h1, h2⟩ hx q => by
    obtain ⟨o, ho, hc, hd⟩ := id h1
    obtain ⟨o2, ho2, hc2, n2, hd2⟩ := id h2
    unfold Builtin.SmallTypes.nextOf
    refine wpAny_bind (wpAny_callSpecial?_slot (name := Str.ofString "__next__") h1.typeIs F.slot_tuple_iterator_next (wpAny_call_entry F.slot_tuple_iterator_next h1.typeIs F.entry_tuple_iterator_next ?_ (F.args_tuple_iterator_next_1 _)))
    show wpAny _ _ (field (.ref i) 0 >>= _) _ _ _
    refine wpAny_bind (wpAny_field ho hd (x := .ref l) rfl ?_)
    show wpAny _ _ (if (Value.ref l == Value.none) = true then _ else _) _ _ _
    rw [if_neg (show ¬ ((Value.ref l == Value.none) = true) from Bool.false_ne_true)]
    show wpAny _ _ (field (.ref i) 1 >>= _) _ _ _
    refine wpAny_bind (wpAny_field ho hd (x := .int k 0) rfl ?_)
    show wpAny _ _ (seqItems? (.ref l) >>= _) _ _ _
    refine wpAny_bind (wpAny_seqItems ho2 hd2 ?_)
    simp only [Int.toNat_natCast, hx]
    refine wpAny_bind (wpAny_rule (wpAny_bind (wpAny_setField ho hd (by simp) ?_)))
    show wpAny _ _ (newExc (.type "StopIteration") [] >>= _) _ _ _
    refine wpAny_bind ?_
    simp only [newExc, newTuple]
    refine wpAny_bind (wpAny_newObj_type ?_ (by size_fits))
    refine wpAny_bind (m := firstArgMember _ _) (wpAny_of_eq (a := Value.none) (by first | rfl | (simp only [firstArgMember]; rfl)) ?_)
    refine wpAny_newObj_type ?_ (by size_fits)
    simp only [raiseNew]
    refine wpAny_bind (wpAny_handled ?_)
    first | rw [show A.in1.handled = none from hh] | rw [hh]
    refine wpAny_bind (wpAny_pure (wpAny_throw ?_))
    exact q _ _ (((Heap.SameBut.update ..).extBut.push _).push _) ⟨_, Heap.get?_push_size _ rfl, rfl⟩
structure ZA (z TI TO i j : Addr) (f1 f2 : List Addr) : Prop where
  tz : TI ≠ z
  oz : TO ≠ z
  iz : i ≠ z
  jz : j ≠ z
  to : TI ≠ TO
  ti : TI ≠ i
  tj : TI ≠ j
  oi : TO ≠ i
  oj : TO ≠ j
  ij : i ≠ j
  a1 : ∀ b ∈ f1, b ≠ z ∧ b ≠ TO ∧ b ≠ i ∧ b ≠ j
  a2 : ∀ b ∈ f2, b ≠ z ∧ b ≠ TO ∧ b ≠ i ∧ b ≠ j
variable {z TI TO i j : Addr} {f1 f2 : List Addr} {T1 T2 : Nat → Heap → Prop} {e1 e2 : Nat → Option Value}
theorem zp_item {k : Nat} {x y a b : Value} {Q : Option Value → Shared → Prop} (D : ZA z TI TO i j f1 f2) (N1 : Nx prog w i f1 T1 e1) (N2 : Nx prog w j f2 T2 e2) (hz : IsZip s.heap z TI TO .none) (hTI : IsPair s.heap TI (.ref i) (.ref j)) (hTO : IsPair s.heap TO a b)
    (t1 : T1 k s.heap) (t2 : T2 k s.heap) (hx : e1 k = some x) (hy : e2 k = some y)
    (hQ : ∀ h', IsZip h' z TI TO (rawInt s.heap.objs.size) → IsPair h' TO x y → T1 (k + 1) h' → T2 (k + 1) h' → IsPair h' s.heap.objs.size x y → h'.objs.size = s.heap.objs.size + 1 → (∀ c o, c ≠ z → c ≠ TO → c ≠ i → c ≠ j → s.heap.get? c = some o → h'.get? c = some o) → Q (some (.ref s.heap.objs.size)) { s with heap := h' }) :
    wpAny (model prog w) A (pyNext (.ref z)) Q E s := by
  have hT : s.TypeIs (.ref z) "zip" := ⟨_, hz, rfl⟩
  unfold pyNext
  refine wpAny_bind (wpAny_attempt (wpAny_callSpecial?_slot (name := Str.ofString "__next__") hT F.slot_zip_next (wpAny_call_entry F.slot_zip_next hT F.entry_zip_next ?_ (F.args_zip_next_1 _))))
  show wpAny _ _ (field (.ref z) 2 >>= _) _ _ _
  refine wpAny_bind (wpAny_field hz rfl (x := .bool false) rfl ?_)
  show wpAny _ _ (field (.ref z) 3 >>= _) _ _ _
  refine wpAny_bind (wpAny_field hz rfl (x := .ref TI) rfl ?_)
  refine wpAny_bind (wpAny_seqItems hTI rfl ?_)
  show wpAny _ _ (Builtin.SmallTypes.ownedTupleIsFree (.ref z) >>= _) _ _ _
  refine wpAny_bind ?_
  unfold Builtin.SmallTypes.ownedTupleIsFree
  refine wpAny_bind (wpAny_field hz rfl (x := .none) rfl (wpAny_pure ?_))
  simp only [if_true]
  refine wpAny_bind (wpAny_rule ?_)
  refine wpAny_bind (wpAny_field hz rfl (x := .ref TO) rfl ?_)
  refine wpAny_bind (wpAny_setField_rec hz (by simp) fun g1 z1 s1 => ?_)
  replace z1 : IsZip g1 z TI TO .ellipsis := z1
  refine wpAny_bind ?_
  simp only [List.zipIdx_cons, List.zipIdx_nil, List.forIn_cons, List.forIn_nil]
  refine wpAny_bind (wpAny_bind (wpAny_onRaise ?_))
  show wpAny _ _ (Builtin.SmallTypes.nextOf (.ref i) >>= _) _ _ _
  have t1a : T1 k g1 := N1.keep k _ _ t1 fun b hb o e => s1.extBut _ _ (hb.elim (fun q => q ▸ D.iz) fun q => (D.a1 b q).1) e
  refine wpAny_bind (N1.next _ k x _ _ _ t1a hx fun g2 t1b s2 => wpAny_pure ?_)
  have o2 : IsPair g2 TO a b := s2.extBut _ _ D.oi (s1.extBut _ _ D.oz hTO)
  refine wpAny_bind (wpAny_seqItems o2 rfl ?_)
  refine wpAny_bind (wpAny_updateSeq_pair o2 fun g3 o3 s3 => ?_)
  replace o3 : IsPair g3 TO x b := o3
  refine wpAny_bind (wpAny_letGo (wpAny_pure ?_))
  refine wpAny_bind (wpAny_bind (wpAny_onRaise ?_))
  show wpAny _ _ (Builtin.SmallTypes.nextOf (.ref j) >>= _) _ _ _
  have t2a : T2 k g3 := N2.keep k _ _ t2 fun b hb o e => by
    have n : b ≠ z ∧ b ≠ TO ∧ b ≠ i := hb.elim (fun q => q ▸ ⟨D.jz, D.oj.symm, D.ij.symm⟩) fun q => ⟨(D.a2 b q).1, (D.a2 b q).2.1, (D.a2 b q).2.2.1⟩
    exact s3.extBut _ _ n.2.1 (s2.extBut _ _ n.2.2 (s1.extBut _ _ n.1 e))
  refine wpAny_bind (N2.next _ k y _ _ _ t2a hy fun g4 t2b s4 => wpAny_pure ?_)
  have o4 : IsPair g4 TO x b := s4.extBut _ _ D.oj o3
  refine wpAny_bind (wpAny_seqItems o4 rfl ?_)
  refine wpAny_bind (wpAny_updateSeq_pair o4 fun g5 o5 s5 => ?_)
  replace o5 : IsPair g5 TO x y := o5
  refine wpAny_bind (wpAny_letGo (wpAny_pure (wpAny_pure ?_)))
  refine wpAny_bind (wpAny_seqItems o5 rfl ?_)
  refine wpAny_bind (wpAny_newTuple ?_)
  have sz : g5.objs.size = s.heap.objs.size := by rw [s5.1, s4.1, s3.1, s2.1, s1.1]
  have z5 : IsZip g5 z TI TO .ellipsis := s5.extBut _ _ D.oz.symm (s4.extBut _ _ D.jz.symm (s3.extBut _ _ D.oz.symm (s2.extBut _ _ D.iz.symm z1)))
  have k5 : ∀ c o, c ≠ z → c ≠ TO → c ≠ i → c ≠ j → s.heap.get? c = some o → g5.get? c = some o := fun c o c1 c2 c3 c4 e => s5.extBut _ _ c2 (s4.extBut _ _ c4 (s3.extBut _ _ c2 (s2.extBut _ _ c3 (s1.extBut _ _ c1 e))))
  have t15 : T1 (k + 1) g5 := N1.keep _ _ _ t1b fun b hb o e => by
    have n : b ≠ TO ∧ b ≠ j := hb.elim (fun q => q ▸ ⟨D.oi.symm, D.ij⟩) fun q => ⟨(D.a1 b q).2.1, (D.a1 b q).2.2.2⟩
    exact s5.extBut _ _ n.1 (s4.extBut _ _ n.2 (s3.extBut _ _ n.1 e))
  have t25 : T2 (k + 1) g5 := N2.keep _ _ _ t2b fun b hb o e => s5.extBut _ _ (hb.elim (fun q => q ▸ D.oj.symm) fun q => (D.a2 b q).2.1) e
  have zl : z < g5.objs.size := Heap.lt_size z5
  show wpAny _ _ (Builtin.SmallTypes.ownedTupleHandOut (.ref z) (.ref g5.objs.size) >>= _) _ _ _
  refine wpAny_bind ?_
  unfold Builtin.SmallTypes.ownedTupleHandOut
  have z6 : IsZip (g5.push { cls := .type "tuple", data := .seq #[x, y] }) z TI TO .ellipsis := Heap.get?_push_of_some _ z5
  refine wpAny_bind (wpAny_setField_rec z6 (by simp) fun g7 z7 s7 => ?_)
  replace z7 : IsZip g7 z TI TO (rawInt g5.objs.size) := z7
  refine wpAny_setField_rec z7 (by simp) fun g8 z8 s8 => ?_
  replace z8 : IsZip g8 z TI TO (rawInt g5.objs.size) := z8
  have up : ∀ c o, c ≠ z → g5.get? c = some o → g8.get? c = some o := fun c o c1 e => s8.extBut _ _ c1 (s7.extBut _ _ c1 (Heap.get?_push_of_some _ e))
  have p8 : IsPair g8 g5.objs.size x y := s8.extBut _ _ (Nat.ne_of_gt zl) (s7.extBut _ _ (Nat.ne_of_gt zl) (Heap.get?_push_size _ rfl))
  have q8 : g8.objs.size = g5.objs.size + 1 := by rw [s8.1, s7.1, Heap.size_push]
  rw [sz] at z8 p8 q8
  refine wpAny_pure ⟨_, rfl, wpAny_pure ?_⟩
  rw [sz]
  exact hQ g8 z8 (up _ _ D.oz o5) (N1.keep _ _ _ t15 fun b hb o e => up b o (hb.elim (fun q => q ▸ D.iz) fun q => (D.a1 b q).1) e) (N2.keep _ _ _ t25 fun b hb o e => up b o (hb.elim (fun q => q ▸ D.jz) fun q => (D.a2 b q).1) e) p8 q8 fun c o c1 c2 c3 c4 e => up c o c1 (k5 c o c1 c2 c3 c4 e)
theorem zp_end {k : Nat} {a b : Value} {Q : Option Value → Shared → Prop} (hh : A.handled = none) (D : ZA z TI TO i j f1 f2) (N1 : Nx prog w i f1 T1 e1) (N2 : Nx prog w j f2 T2 e2) (hz : IsZip s.heap z TI TO .none) (hTI : IsPair s.heap TI (.ref i) (.ref j)) (hTO : IsPair s.heap TO a b)
    (t1 : T1 k s.heap) (t2 : T2 k s.heap) (hend : e1 k = none ∨ e2 k = none)
    (hQ : ∀ h', (∀ c o, c ≠ z → c ≠ TO → c ≠ i → c ≠ j → s.heap.get? c = some o → h'.get? c = some o) → Q none { s with heap := h' }) : wpAny (model prog w) A (pyNext (.ref z)) Q E s := by
  have hT : s.TypeIs (.ref z) "zip" := ⟨_, hz, rfl⟩
  have fin : ∀ h' e, (∀ c o, c ≠ z → c ≠ TO → c ≠ i → c ≠ j → s.heap.get? c = some o → h'.get? c = some o) → (∃ o, h'.get? e = some o ∧ o.cls = .type "StopIteration") → wpAny (model prog w) A (do if ← isInstance (.ref e) (.type "StopIteration") then pure none else throw (.ref e)) Q E { s with heap := h' } := fun h' e hk he => by
    obtain ⟨o, ho, hc⟩ := he
    exact wpAny_bind (wpAny_isInstance (T := "StopIteration") (b := true) ⟨o, ho, hc⟩ isSubtype_stop (wpAny_pure (hQ _ hk)))
  unfold pyNext
  refine wpAny_bind (wpAny_attempt (wpAny_callSpecial?_slot (name := Str.ofString "__next__") hT F.slot_zip_next (wpAny_call_entry F.slot_zip_next hT F.entry_zip_next ?_ (F.args_zip_next_1 _))))
  show wpAny _ _ (field (.ref z) 2 >>= _) _ _ _
  refine wpAny_bind (wpAny_field hz rfl (x := .bool false) rfl ?_)
  show wpAny _ _ (field (.ref z) 3 >>= _) _ _ _
  refine wpAny_bind (wpAny_field hz rfl (x := .ref TI) rfl ?_)
  refine wpAny_bind (wpAny_seqItems hTI rfl ?_)
  show wpAny _ _ (Builtin.SmallTypes.ownedTupleIsFree (.ref z) >>= _) _ _ _
  refine wpAny_bind ?_
  unfold Builtin.SmallTypes.ownedTupleIsFree
  refine wpAny_bind (wpAny_field hz rfl (x := .none) rfl (wpAny_pure ?_))
  simp only [if_true]
  refine wpAny_bind (wpAny_rule ?_)
  refine wpAny_bind (wpAny_field hz rfl (x := .ref TO) rfl ?_)
  refine wpAny_bind (wpAny_setField_rec hz (by simp) fun g1 z1 s1 => ?_)
  replace z1 : IsZip g1 z TI TO .ellipsis := z1
  refine wpAny_bind ?_
  simp only [List.zipIdx_cons, List.zipIdx_nil, List.forIn_cons, List.forIn_nil]
  refine wpAny_bind (wpAny_bind (wpAny_onRaise ?_))
  show wpAny _ _ (Builtin.SmallTypes.nextOf (.ref i) >>= _) _ _ _
  have t1a : T1 k g1 := N1.keep k _ _ t1 fun b hb o e => s1.extBut _ _ (hb.elim (fun q => q ▸ D.iz) fun q => (D.a1 b q).1) e
  cases hx : e1 k with
  | none =>
    refine wpAny_bind (N1.done _ k _ _ _ hh t1a hx fun g2 e s2 he => ?_)
    obtain ⟨oe, hoe, hce⟩ := he
    have z2 : IsZip g2 z TI TO .ellipsis := s2 _ _ D.iz.symm z1
    have ez : e ≠ z := fun q => by subst q; rw [z2] at hoe; cases hoe; simp at hce
    exact wpAny_setField_rec z2 (by simp) fun g3 _ s3 => fin g3 e (fun c o c1 _ c3 _ q => s3.extBut _ _ c1 (s2 _ _ c3 (s1.extBut _ _ c1 q))) ⟨oe, s3.extBut _ _ ez hoe, hce⟩
  | some x =>
    have hy : e2 k = none := by rcases hend with h | h; (rw [hx] at h; cases h); exact h
    refine wpAny_bind (N1.next _ k x _ _ _ t1a hx fun g2 t1b s2 => wpAny_pure ?_)
    have o2 : IsPair g2 TO a b := s2.extBut _ _ D.oi (s1.extBut _ _ D.oz hTO)
    refine wpAny_bind (wpAny_seqItems o2 rfl ?_)
    refine wpAny_bind (wpAny_updateSeq_pair o2 fun g3 o3 s3 => ?_)
    refine wpAny_bind (wpAny_letGo (wpAny_pure ?_))
    refine wpAny_bind (wpAny_bind (wpAny_onRaise ?_))
    show wpAny _ _ (Builtin.SmallTypes.nextOf (.ref j) >>= _) _ _ _
    have t2a : T2 k g3 := N2.keep k _ _ t2 fun b hb o e => by
      have n : b ≠ z ∧ b ≠ TO ∧ b ≠ i := hb.elim (fun q => q ▸ ⟨D.jz, D.oj.symm, D.ij.symm⟩) fun q => ⟨(D.a2 b q).1, (D.a2 b q).2.1, (D.a2 b q).2.2.1⟩
      exact s3.extBut _ _ n.2.1 (s2.extBut _ _ n.2.2 (s1.extBut _ _ n.1 e))
    refine wpAny_bind (N2.done _ k _ _ _ hh t2a hy fun g4 e s4 he => ?_)
    obtain ⟨oe, hoe, hce⟩ := he
    have z4 : IsZip g4 z TI TO .ellipsis := s4 _ _ D.jz.symm (s3.extBut _ _ D.oz.symm (s2.extBut _ _ D.iz.symm z1))
    have ez : e ≠ z := fun q => by subst q; rw [z4] at hoe; cases hoe; simp at hce
    exact wpAny_setField_rec z4 (by simp) fun g5 _ s5 => fin g5 e (fun c o c1 c2 c3 c4 q => s5.extBut _ _ c1 (s4 _ _ c4 (s3.extBut _ _ c2 (s2.extBut _ _ c3 (s1.extBut _ _ c1 q))))) ⟨oe, s5.extBut _ _ ez hoe, hce⟩
abbrev zG (h : Heap) (o1 o2 : Obj) : Heap := ((((h.push o1).push o2).push { cls := .type "tuple", data := .seq #[.ref h.objs.size, .ref (h.push o1).objs.size] }).push { cls := .type "tuple", data := .seq #[.none, .none] }).push { cls := .type "zip", data := .fields #[.none, .bool false, .bool false, .ref ((h.push o1).push o2).objs.size, .ref (((h.push o1).push o2).push { cls := .type "tuple", data := .seq #[.ref h.objs.size, .ref (h.push o1).objs.size] }).objs.size] }
abbrev zA (h : Heap) (o1 o2 : Obj) : Addr := ((((h.push o1).push o2).push { cls := .type "tuple", data := .seq #[.ref h.objs.size, .ref (h.push o1).objs.size] }).push { cls := .type "tuple", data := .seq #[.none, .none] }).objs.size
abbrev zO (n : String) (l : Addr) : Obj := { cls := .type n, data := .fields #[.ref l, .int 0 0] }
theorem zG_at (h : Heap) (o1 o2 : Obj) (f1 : o1.isFreed = false) (f2 : o2.isFreed = false) : IsZip (zG h o1 o2) (h.objs.size + 4) (h.objs.size + 2) (h.objs.size + 3) .none ∧ IsPair (zG h o1 o2) (h.objs.size + 2) (.ref h.objs.size) (.ref (h.objs.size + 1)) ∧ IsPair (zG h o1 o2) (h.objs.size + 3) .none .none ∧ (zG h o1 o2).get? h.objs.size = some o1 ∧ (zG h o1 o2).get? (h.objs.size + 1) = some o2 ∧ (zG h o1 o2).objs.size = h.objs.size + 5 ∧ ∀ c o, h.get? c = some o → (zG h o1 o2).get? c = some o := by
  have z1 : (h.push o1).objs.size = h.objs.size + 1 := Heap.size_push ..
  have z2 : ((h.push o1).push o2).objs.size = h.objs.size + 2 := by rw [Heap.size_push, z1]
  have z3 : (((h.push o1).push o2).push { cls := .type "tuple", data := .seq #[.ref h.objs.size, .ref (h.push o1).objs.size] }).objs.size = h.objs.size + 3 := by rw [Heap.size_push, z2]
  have z4 : ((((h.push o1).push o2).push { cls := .type "tuple", data := .seq #[.ref h.objs.size, .ref (h.push o1).objs.size] }).push { cls := .type "tuple", data := .seq #[.none, .none] }).objs.size = h.objs.size + 4 := by rw [Heap.size_push, z3]
  refine ⟨?_, ?_, ?_, ?_, ?_, by rw [Heap.size_push, z4], fun c o e => Heap.get?_push_of_some _ (Heap.get?_push_of_some _ (Heap.get?_push_of_some _ (Heap.get?_push_of_some _ (Heap.get?_push_of_some _ e))))⟩
  · have g : (zG h o1 o2).get? _ = some _ := Heap.get?_push_size _ rfl
    rw [z4, z2, z3] at g
    exact g
  · have g : (zG h o1 o2).get? _ = some _ := Heap.get?_push_of_some _ (Heap.get?_push_of_some _ (Heap.get?_push_size ((h.push o1).push o2) (o := { cls := .type "tuple", data := .seq #[.ref h.objs.size, .ref (h.push o1).objs.size] }) rfl))
    rw [z2, z1] at g
    exact g
  · have g : (zG h o1 o2).get? _ = some _ := Heap.get?_push_of_some _ (Heap.get?_push_size (((h.push o1).push o2).push { cls := .type "tuple", data := .seq #[.ref h.objs.size, .ref (h.push o1).objs.size] }) (o := { cls := .type "tuple", data := .seq #[.none, .none] }) rfl)
    rw [z3] at g
    exact g
  · exact Heap.get?_push_of_some _ (Heap.get?_push_of_some _ (Heap.get?_push_of_some _ (Heap.get?_push_of_some _ (Heap.get?_push_size _ f1))))
  · have g : (zG h o1 o2).get? _ = some _ := Heap.get?_push_of_some _ (Heap.get?_push_of_some _ (Heap.get?_push_of_some _ (Heap.get?_push_size (h.push o1) (o := o2) f2)))
    rw [z1] at g
    exact g
theorem meets_zip_tl (l1 l2 : Addr) (xs ys : Array Value) :
    Meets (Builtin.«zip.__new__» ⟨[.type "zip", .ref l1, .ref l2], []⟩) (fun _ R s => s.heap.IsTuple l1 xs ∧ s.heap.IsList l2 ys ∧ R (.ok (.ret (.ref (zA s.heap (zO "tuple_iterator" l1) (zO "list_iterator" l2))))) { s with heap := zG s.heap (zO "tuple_iterator" l1) (zO "list_iterator" l2) }) :=
  .of_wp fun prog w A R s h => by
    obtain ⟨hp, g, d, tk, os⟩ := s; obtain ⟨hl1, hl2, h⟩ := h
    have hsub := sub_zip
    have hL1 : Heap.IsTuple (Shared.heap ⟨hp, g, d, tk, os⟩) l1 xs := hl1
    have hL2 : Heap.IsList (Shared.heap ⟨hp.push (zO "tuple_iterator" l1), g, d, tk, os⟩) l2 ys := Heap.IsList.push hl2 _
    wp_walk using wpAny_pyIter_tuple hL1, wpAny_pyIter_list hL2
    exact ⟨_, rfl, h⟩
theorem zA_eq (h : Heap) (o1 o2 : Obj) : zA h o1 o2 = h.objs.size + 4 := by
  unfold zA
  rw [Heap.size_push, Heap.size_push, Heap.size_push, Heap.size_push]
theorem call_zip_tl {l1 l2 : Addr} {xs ys : Array Value} {Q : Value → Shared → Prop} (hl1 : s.heap.IsTuple l1 xs) (hl2 : s.heap.IsList l2 ys) (h : Q (.ref (s.heap.objs.size + 4)) { s with heap := zG s.heap (zO "tuple_iterator" l1) (zO "list_iterator" l2) }) :
    wpAny (model prog w) A (call (.type "zip") [.ref l1, .ref l2]) Q E s := by
  refine callType_new F.called_zip (by decide) (F.typeCall_zip_2 _ _) (F.newCall_zip_2 _ _) (fun obj => F.args_object_init_3 obj _ _) F.entry_zip_new (meets_zip_tl l1 l2 xs ys) ⟨hl1, hl2, ?_⟩
  have g := (zG_at s.heap (zO "tuple_iterator" l1) (zO "list_iterator" l2) rfl rfl).1
  show _ ∧ _
  rw [zA_eq]
  exact ⟨⟨_, g, rfl⟩, h⟩
def Itz (K : PySem.W.Frag) (a b : Addr) : It :=
  ⟨fun i H => ∃ xs ys x y, SqT K H a xs ∧ SqL K H b ys ∧ xs[i]? = some x ∧ ys[i]? = some y, fun i H v H' => ∃ p x y, v = .ref p ∧ H p = none ∧ Same H H' ∧ H' p = some (.tup [x, y]) ∧ (∀ xs, SqT K H a xs → xs[i]? = some x) ∧ ∀ ys, SqL K H b ys → ys[i]? = some y, fun i H => ∃ xs ys, SqT K H a xs ∧ SqL K H b ys ∧ (xs.length ≤ i ∨ ys.length ≤ i)⟩
end
end L2
namespace L2
open PySem PySem.Spec PyProof.Rows
theorem turn_zip {P : Program} {w : World} {K : PySem.W.Frag} {elts : List Expr} {kk : Nat} {tpos : Pos} {a b z TI TO i1 i2 : Addr} (D : ZA z TI TO i1 i2 [a] [b]) :
    Turn P w K (.Tuple elts kk tpos) (Itz K a b) [z, TI, TO, i1, i2] z (fun i h => IsZip h z TI TO .none ∧ IsPair h TI (.ref i1) (.ref i2) ∧ (∃ x y, IsPair h TO x y) ∧ h.IsTupleIter i1 a i ∧ h.IsListIter i2 b i) where
  mem := by simp
  obj := fun i h st c hc => by
    obtain ⟨h1, h2, ⟨x, y, h3⟩, ⟨o4, e4, c4, d4⟩, ⟨o5, e5, c5, d5⟩⟩ := st
    simp only [List.mem_cons, List.not_mem_nil, or_false] at hc
    rcases hc with rfl | rfl | rfl | rfl | rfl
    · exact ⟨_, h1, fun v q => by
        have q' : Data.fields _ = Data.cell v := q
        cases q'⟩
    · exact ⟨_, h2, fun v q => by
        have q' : Data.seq _ _ = Data.cell v := q
        cases q'⟩
    · exact ⟨_, h3, fun v q => by
        have q' : Data.seq _ _ = Data.cell v := q
        cases q'⟩
    · exact ⟨o4, e4, fun v q => by rw [d4] at q; cases q⟩
    · exact ⟨o5, e5, fun v q => by rw [d5] at q; cases q⟩
  keep := fun i h h' ⟨h1, h2, ⟨x, y, h3⟩, ⟨o4, e4, r4⟩, h5⟩ k => ⟨k z (by simp) _ h1, k TI (by simp) _ h2, ⟨x, y, k TO (by simp) _ h3⟩, ⟨o4, k i1 (by simp) _ e4, r4⟩, h5.at fun o e => k i2 (by simp) o e⟩
  item := by
    intro X hP hw hK hc i pins s σ H E I hf st hg
    subst hP hw hK
    obtain ⟨xs, ys, x, y, hq1, hq2, hx, hy⟩ := hg
    obtain ⟨h1, h2, ⟨p, q, h3⟩, h4, h5⟩ := st
    obtain ⟨its1, rv1, p1, hz1⟩ := I.tuple hq1
    obtain ⟨its2, rv2, p2, hz2⟩ := I.list hq2
    obtain ⟨u, hu, ru⟩ := rv1.get hx
    obtain ⟨v, hv, rv⟩ := rv2.get hy
    have t1 : s.heap.IsTuple a its1.toArray := p1
    have zl : ∀ c ∈ [z, TI, TO, i1, i2], c < s.heap.objs.size := fun c hc => by
      simp only [List.mem_cons, List.not_mem_nil, or_false] at hc
      rcases hc with rfl | rfl | rfl | rfl | rfl
      · exact Heap.lt_size h1
      · exact Heap.lt_size h2
      · exact Heap.lt_size h3
      · obtain ⟨_, e, _⟩ := h4; exact Heap.lt_size e
      · obtain ⟨_, e, _⟩ := h5; exact Heap.lt_size e
    refine zp_item D (nx_tuple i1 a its1.toArray (D.a1 a (by simp)).2.2.1) (nx_list i2 b its2.toArray (D.a2 b (by simp)).2.2.2) h1 h2 h3 ⟨h4, t1⟩ ⟨h5, p2.isList⟩ (x := u) (y := v) (by simpa using hu) (by simpa using hv) fun h' z' o' t1' t2' p' sz' kp => ?_
    refine ⟨_, rfl, wpAny_letOwnedTupleGo_zip z' fun h'' z'' sb => ?_⟩
    have I1 : Inv X pins σ (upd H s.heap.objs.size (.tup [x, y])) { s with heap := s.heap.push { cls := .type "tuple", data := .seq #[u, v] }, toks := s.toks } :=
      I.laid (fun b o q => Heap.get?_push_of_some _ q) (Nat.le_refl _) ⟨by show 2 ≤ sizeLine; decide, [u, v], .cons ru (.cons rv .nil), ⟨_, Heap.get?_push_size _ rfl, rfl, _, rfl⟩⟩
    have hf' : ∀ c ∈ [z, TI, TO, i1, i2], FpOk X pins (upd H s.heap.objs.size (.tup [x, y])) c := fun c hc => by
      refine ⟨?_, (hf c hc).2⟩
      rw [upd_ne (Nat.ne_of_lt (zl c hc))]
      exact (hf c hc).1
    have I2 : Inv X pins σ (upd H s.heap.objs.size (.tup [x, y])) { s with heap := h'', toks := s.toks } := I1.turnedL (t' := s.toks) (fun c o hc q => by
      simp only [List.mem_cons, List.not_mem_nil, or_false, not_or] at hc
      refine (sb.2 c hc.1).trans ?_
      by_cases hT : c = s.heap.objs.size
      · subst hT
        have q' : (s.heap.push { cls := .type "tuple", data := .seq #[u, v] }).get? s.heap.objs.size = some o := q
        rw [Heap.get?_push_size _ rfl] at q'
        cases q'
        exact p'
      · have q' : (s.heap.push { cls := .type "tuple", data := .seq #[u, v] }).get? c = some o := q
        rw [Heap.get?_push_ne _ _ _ hT] at q'
        exact kp c o hc.1 hc.2.2.1 hc.2.2.2.1 hc.2.2.2.2 q') hf'
    have up : ∀ c o, c ≠ z → h'.get? c = some o → h''.get? c = some o := fun c o n e => (sb.2 c n).trans e
    have ti' : h'.get? TI = some _ := kp TI _ D.tz D.to D.ti D.tj h2
    obtain ⟨⟨o4, e4, r4⟩, _⟩ := t1'
    refine ⟨.ref s.heap.objs.size, _, I2, rfl, ⟨_, x, y, rfl, I.hok.fresh (Nat.le_refl _), same_new (I.hok.fresh (Nat.le_refl _)) _, upd_same, fun xs' h => by rw [I.tuple_inj h hq1]; exact hx, fun ys' h => by rw [I.list_inj h hq2]; exact hy⟩, ⟨z'', up _ _ D.tz ti', ⟨_, _, up _ _ D.oz o'⟩, ⟨o4, up _ _ D.iz e4, r4⟩, t2'.1.at fun o e => up _ o D.jz e⟩, fun c hc => (hf' c hc).1⟩
  done := by
    intro X hP hw hK hc i pins s σ H E I hf st hg
    subst hP hw hK
    obtain ⟨xs, ys, hq1, hq2, hx⟩ := hg
    obtain ⟨h1, h2, ⟨p, q, h3⟩, h4, h5⟩ := st
    obtain ⟨its1, rv1, p1, hz1⟩ := I.tuple hq1
    obtain ⟨its2, rv2, p2, hz2⟩ := I.list hq2
    have t1 : s.heap.IsTuple a its1.toArray := p1
    have l1 := rv1.length
    have l2 := rv2.length
    refine zp_end (I.ok.hd hc) D (nx_tuple i1 a its1.toArray (D.a1 a (by simp)).2.2.1) (nx_list i2 b its2.toArray (D.a2 b (by simp)).2.2.2) h1 h2 h3 ⟨h4, t1⟩ ⟨h5, p2.isList⟩ (hx.imp (fun h => by simp; omega) fun h => by simp; omega) fun h' kp => ⟨rfl, I.turnedL (t' := s.toks) (fun c o hc e => ?_) hf⟩
    simp only [List.mem_cons, List.not_mem_nil, or_false, not_or] at hc
    exact kp c o hc.1 hc.2.2.1 hc.2.2.2.1 hc.2.2.2.2 e
  self := fun _ _ _ _ _ st h => wpAny_pyIter_zip st.1 h
theorem ne_nat {a b : Nat} (h : a < b ∨ b < a) : a ≠ b := by omega
theorem za_new (n l1 l2 : Nat) (h1 : l1 < n) (h2 : l2 < n) : ZA (n + 4) (n + 2) (n + 3) n (n + 1) [l1] [l2] := by
  have o : ∀ l : Nat, l < n → l ≠ n + 4 ∧ l ≠ n + 3 ∧ l ≠ n ∧ l ≠ n + 1 := fun l h => ⟨ne_nat (by omega), ne_nat (by omega), ne_nat (by omega), ne_nat (by omega)⟩
  exact ⟨ne_nat (.inl (by omega)), ne_nat (.inl (by omega)), ne_nat (.inl (by omega)), ne_nat (.inl (by omega)), ne_nat (.inl (by omega)), ne_nat (.inr (by omega)), ne_nat (.inr (by omega)), ne_nat (.inr (by omega)), ne_nat (.inr (by omega)), ne_nat (.inl (by omega)), fun c hc => by rw [List.mem_singleton.mp hc]; exact o l1 h1, fun c hc => by rw [List.mem_singleton.mp hc]; exact o l2 h2⟩
def iZip (K : PySem.W.Frag) (ta : TA) : TI := fun σ H R => ta σ H fun vs H1 => ∃ a b, vs = [.ref a, .ref b] ∧ (∃ xs, SqT K H1 a xs) ∧ (∃ ys, SqL K H1 b ys) ∧ R (Itz K a b) H1
theorem pi_zip {X : Cx} {a b : Expr} {ta : TA} {p pos tpos : Pos} {elts : List Expr} {kk : Nat} (hg : Gl X "zip") (hm : X.mg "zip" = none) (ha : PA X [a, b] ta) (hs : starEach [a, b] X.env = (false, eval a X.env) :: starEach [b] X.env := by rfl) (hs2 : starEach [b] X.env = [(false, eval b X.env)] := by rfl) :
    PI X (.Tuple elts kk tpos) (.Call (.Name "zip" p) [a, b] [] pos) (iZip X.K ta) := by
  intro pins s σ H R I h
  refine Call_ (ld_blt I hg hm (show bootBuiltins "zip" = some (.type "zip") by decide +kernel) (PyProof.Rows.callWith_type1 (thn (ha pos pins s σ H _ I h) fun us s1 ⟨vs, H1, I1, r1, q1⟩ => ?_) hs (by rw [hs2]; rfl)))
  obtain ⟨l1, l2, e, ⟨xs, hq1⟩, ⟨ys, hq2⟩, q⟩ := q1
  subst e
  cases r1 with
  | cons r rr =>
    cases rr with
    | cons r' rr =>
      cases rr
      cases r
      cases r'
      obtain ⟨its1, rv1, p1, hz1⟩ := I1.tuple hq1
      obtain ⟨its2, rv2, p2, hz2⟩ := I1.list hq2
      have t1 : s1.heap.IsTuple l1 its1.toArray := p1
      have b1 : l1 < s1.heap.objs.size := by obtain ⟨_, e, _⟩ := t1; exact Heap.lt_size e
      have b2 : l2 < s1.heap.objs.size := by obtain ⟨_, e, _⟩ := p2.isList; exact Heap.lt_size e
      refine call_zip_tl t1 p2.isList ?_
      obtain ⟨z1, z2, z3, z4, z5, z6, z7⟩ := zG_at s1.heap (zO "tuple_iterator" l1) (zO "list_iterator" l2) rfl rfl
      have D : ZA (s1.heap.objs.size + 4) (s1.heap.objs.size + 2) (s1.heap.objs.size + 3) s1.heap.objs.size (s1.heap.objs.size + 1) [l1] [l2] := za_new _ _ _ b1 b2
      refine wpAny_pyIter_zip z1 ⟨_, _, _, _, H1, rfl, I1.kept (t' := s1.toks) z7, turn_zip D, ⟨z1, z2, ⟨_, _, z3⟩, ⟨_, z4, rfl, rfl⟩, ⟨_, z5, rfl, rfl⟩⟩, fun c hc => ?_, q⟩
      have le : s1.heap.objs.size ≤ c := by
        simp only [List.mem_cons, List.not_mem_nil, or_false] at hc
        rcases hc with e | e | e | e | e <;> (rw [e]; first | exact Nat.le_refl _ | exact Nat.le_add_right _ _)
      exact I1.fpOk le (I1.hok.fresh le)
end L2
namespace L2
open PySem PySem.Spec PyProof.Rows
section
variable {prog : Program} {w : World} {A : Around} {E : Value → Shared → Prop} {s : Shared} {x y : Str} {t u : Tok} {Q : Value → Shared → Prop}
theorem split_at (hy : (y.length == 0) = false) (hsz : x.length ≤ sizeLine) (hs2 : (Txt.split x y).length ≤ sizeLine)
    (h : ∀ l k, l.map (·.1) = Txt.split x y → Q (.ref s.heap.objs.size) { s with toks := k, heap := s.heap.push { cls := .type "list", data := .seq (strValues l).toArray } }) :
    wpAny (model prog w) A (call (.builtin "str.split") [.str x t, .str y u]) Q E s := by
  cases h1 : (decide (x.length < y.length) || decide (Builtin.Str.strKind x < Builtin.Str.strKind y))
  · cases hf : (Builtin.Str.occurrences x y 0 x.length (x.length + 1)).isEmpty
    · have es : Txt.split x y = Builtin.Str.partsBetween x (Builtin.Str.occurrences x y 0 x.length (x.length + 1)) y.length := (if_neg (ne_true_of_eq_false h1)).trans (if_neg (ne_true_of_eq_false hf))
      refine call_meets F.slot_str_split (typeIs_str _ _ _) F.entry_str_split (F.args_str_split_2 _ _) (meets_str_split_sep x y t u h1 hy hf hsz (by rw [← es]; exact hs2)) ?_
      show wants Q E _ { s with toks := _, heap := s.heap.push { cls := .type "list", data := .seq (strsFrom s.toks _).toArray } }
      rw [strsFrom_eq]
      exact h _ _ ((numbered_texts _ _).trans es.symm)
    · exact call_meets F.slot_str_split (typeIs_str _ _ _) F.entry_str_split (F.args_str_split_2 _ _) (meets_str_split_not_found x y t u h1 hy hf) (h [(x, t)] s.toks ((if_neg (ne_true_of_eq_false h1)).trans (if_pos hf)).symm)
  · exact call_meets F.slot_str_split (typeIs_str _ _ _) F.entry_str_split (F.args_str_split_2 _ _) (meets_str_split_cannot_occur x y t u h1) (h [(x, t)] s.toks (if_pos h1).symm)
end
theorem strs_vals : ∀ (l : List (Str × Tok)), Vals ((l.map (·.1)).map V.str) (strValues l)
  | [] => .nil
  | p :: l => .cons ⟨p.2, rfl⟩ (strs_vals l)
def rSplit : V → List V → Hp → VK → Prop := fun x vs H Q => ∃ a y, x = .str a ∧ vs = [.str y] ∧ (y.length == 0) = false ∧ a.length ≤ sizeLine ∧ (Txt.split a y).length ≤ sizeLine ∧ ∀ p H', H p = none → Same H H' → H' p = some (.lst ((Txt.split a y).map V.str)) → Q (.ref p) H'
theorem mt_split {X : Cx} : MtR X "str.split" rSplit := by
  intro pins s σ H x vs v us Q I rx rv h
  obtain ⟨a, y, rfl, rfl, hy, h1, h2, q⟩ := h
  obtain ⟨t, rfl⟩ := rx
  obtain ⟨u, rfl, ru⟩ := rv.one
  obtain ⟨t2, rfl⟩ := ru
  refine split_at hy h1 h2 fun l k e => ?_
  have fr : H s.heap.objs.size = none := I.hok.fresh (Nat.le_refl _)
  have I2 := I.laid (a := s.heap.objs.size) (o := .lst ((Txt.split a y).map V.str)) (t' := k) (h' := s.heap.push { cls := .type "list", data := .seq (strValues l).toArray }) (fun b u e => Heap.get?_push_of_some _ e) (Nat.le_refl _) ⟨by rw [List.length_map]; exact h2, strValues l, 0, by rw [← e]; exact strs_vals l, Heap.get?_push_size _ rfl⟩
  exact ⟨.ref s.heap.objs.size, _, I2, rfl, q _ _ fr (same_new fr _) upd_same⟩
def rTupL : List V → Hp → VK → Prop := fun xs H Q => ∃ l ys, xs = [.ref l] ∧ H l = some (.lst ys) ∧ ∀ p H', H p = none → Same H H' → H' p = some (.tup ys) → Q (.ref p) H'
theorem call_tupL {X : Cx} : CallR X (.type "tuple") rTupL := by
  intro pins s σ H xs us Q I r h
  obtain ⟨l, ys, rfl, hl, q⟩ := h
  obtain ⟨u, rfl, ru⟩ := vals1 r
  cases ru
  obtain ⟨its, rv, pl, hz⟩ := I.list (SqL.of hl)
  have le : its.length ≤ sizeLine := by have := rv.length; omega
  refine call_tuple_list pl.isList (fun h' hk => ?_) (by simpa using le)
  have I1 := I.kept (t' := s.toks) hk
  have fr : H h'.objs.size = none := I1.hok.fresh (Nat.le_refl _)
  have I2 := I1.laid (a := h'.objs.size) (o := .tup ys) (t' := s.toks) (h' := h'.push { cls := .type "tuple", data := .seq its.toArray }) (fun b u e => Heap.get?_push_of_some _ e) (Nat.le_refl _) ⟨hz, its, rv, ⟨_, Heap.get?_push_size _ rfl, rfl, _, rfl⟩⟩
  exact ⟨.ref h'.objs.size, _, I2, rfl, q _ _ fr (same_new fr _) upd_same⟩
end L2
namespace L2
open PySem PySem.Spec PyProof.Rows
def KD (P : Program) (w : World) (K : PySem.W.Frag) (a : Addr) (kvs : List (Key × V)) : Prop := ∃ (o : Obj) (vs : List (Key × Value)), K.lookup a = some o ∧ (a == sysModules) = false ∧ KV kvs vs ∧ ∀ h : Heap, h.get? a = some o → h.DictOf (mixKind P w) a vs
section
variable {X : Cx} {i o : Expr} {ty : TE} {pos : Pos} {a : Addr} {kvs : List (Key × V)}
theorem pe_dgetK (kd : KD X.prog X.w X.K a kvs) (ho : PE X o (tC (.ref a))) (hi : PE X i ty) (hs : NoSl i) : PE X (.Subscript o i pos) (fun σ H Q => ty σ H fun y H2 => ∃ k v, keyOf y = some k ∧ valV kvs k = some v ∧ Q v H2) := by
  obtain ⟨ob, vs, h1, h2, h3, h4⟩ := kd
  intro pins s σ H Q I h
  refine subD_of PySem.F.slot_dict_getitem.lookup hs (thn (ho pins s σ H (fun x H1 => x = .ref a ∧ ty σ H1 fun y H2 => ∃ k v, keyOf y = some k ∧ valV kvs k = some v ∧ Q v H2) I ⟨rfl, h⟩) fun u s1 ⟨x, H1, I1, rx, ex, q1⟩ => thn (hi pins s1 σ H1 _ I1 q1) fun iv s2 ⟨y, H2, I2, ry, k, v, ek, ev, q2⟩ => ?_)
  subst ex
  obtain rfl : u = Value.ref a := rx
  have dd := h4 _ (I2.kIn a ob h1)
  obtain ⟨w', hw, rw'⟩ := RelO.some_of (v := v) (o := valueAt vs k) (by rw [← ev]; exact h3.val k)
  rw [kV_of ek] at ry
  exact ⟨dd.typeIs, wpAny_getItem_of (kV_is ry) dd.mapOf hw ⟨v, H2, I2.tok _, rw', q2⟩⟩
theorem pc_dnotinK (kd : KD X.prog X.w X.K a kvs) (hi : PE X i ty) (ho : PE X o (tC (.ref a))) : PC X .NotIn i o (fun σ H Q => ty σ H fun y H2 => ∃ k, keyOf y = some k ∧ Q (.bl (!(valV kvs k).isSome)) H2) := by
  obtain ⟨ob, vs, h1, h2, h3, h4⟩ := kd
  intro pins s σ H Q I h
  refine thn (hi pins s σ H _ I h) fun iv s1 ⟨y, H1, I1, ry, k, ek, q1⟩ => thn (ho pins s1 σ H1 (fun x H2 => x = .ref a ∧ Q (.bl (!(valV kvs k).isSome)) H2) I1 ⟨rfl, q1⟩) fun u s2 ⟨x, H2, I2, rx, ex, q2⟩ => ?_
  subst ex
  obtain rfl : u = Value.ref a := rx
  have dd := h4 _ (I2.kIn a ob h1)
  rw [kV_of ek] at ry
  refine wpAny_notIn_of (kV_is ry) h2 dd.mapOf ?_
  rw [← (h3.val k).isSome_eq]
  exact ⟨.bl _, H2, I2.tok _, rfl, q2⟩
end
theorem compJ_zip {K : PySem.W.Frag} {a b : Addr} {xs ys : List V} {g : TG} {tc : TT} {te : TE} {cs : St} {H1 : Hp} {Q : VK} (ha : ∀ H, Same H1 H → SqT K H a xs) (hb : H1 b = some (.lst ys)) (el : xs.length = ys.length) (sz : ys.length < sizeLine) (Pv : Addr → Nat → List V → St → Hp → Prop)
    (h0 : ∀ D H', H1 D = none → Same H1 H' → H' D = some (.lst []) → Pv D 0 [] cs H')
    (hs : ∀ D i x y zs σ1 H' p H'', xs[i]? = some x → ys[i]? = some y → At ys H1 D i zs H' → Pv D i zs σ1 H' → H' p = none → Same H' H'' → H'' p = some (.tup [x, y]) → g (.ref p) σ1 H'' fun σ2 H2 => tc σ2 H2 fun b H3 => if b = true then te σ2 H3 fun v H4 => Put ys H1 D (Pv D) i σ2 v H4 else Skip ys H1 D (Pv D) i σ2 H3)
    (hd : ∀ D zs σ1 H', H1 D = none → Same H1 H' → H' D = some (.lst zs) → zs.length ≤ ys.length → Pv D ys.length zs σ1 H' → Q (.ref D) H') : CompJ (Itz K a b) g tc te cs H1 Q := by
  intro D hD
  refine ⟨CW ys H1 D (Pv D), ⟨_, rfl, Nat.zero_le _, same_new hD _, [], upd_same, Nat.le_refl _, h0 D _ hD (same_new hD _) upd_same⟩, ?_⟩
  rintro i m σ1 H ⟨rfl, hi, sm, zs, hz, lz, p⟩
  have q1 := ha _ sm
  have q2 : SqL K H b ys := SqL.of (sm _ _ hb)
  by_cases hlt : i < ys.length
  · have hx : xs[i]? = some (xs[i]'(by omega)) := List.getElem?_eq_getElem _
    have hy : ys[i]? = some ys[i] := List.getElem?_eq_getElem hlt
    refine .inr ⟨⟨xs, ys, _, _, q1, q2, hx, hy⟩, fun v H' yd => ?_⟩
    obtain ⟨pp, x, y, rfl, hn, sm2, hp, ex, ey⟩ := yd
    exact hs D i x y zs σ1 H pp H' (ex xs q1) (ey ys q2) ⟨hD, hlt, sz, sm, hz, lz⟩ p hn sm2 hp
  · have e : i = ys.length := by omega
    subst e
    exact .inl ⟨⟨xs, ys, q1, q2, .inr (Nat.le_refl _)⟩, hd D zs σ1 _ hD sm hz lz p⟩
end L2
namespace L2
open PySem PySem.Spec PyProof.Rows
theorem noteFrame_eq {e : Value} {a b : Env} (h : a.frame = b.frame) : noteFrame e a = noteFrame e b := by
  unfold noteFrame PySem.frameOf
  rw [h]
theorem funs_slots {base h h' : Heap} : ∀ (l : List Env), (∀ b ∈ frs l, ∀ o, h.get? b = some o → ∃ sl, h'.get? b = some { o with slots := sl }) → h.FunFrames base l → h'.FunFrames base l
  | [], _, _ => trivial
  | env :: r, k, hl => by
    obtain ⟨hk, ⟨L, o, hf, hn, ho, hd⟩, hr⟩ := hl
    have hL : L ∈ frs (env :: r) := by unfold frs; rw [List.filterMap_cons, hf]; exact List.mem_cons_self
    obtain ⟨sl, e⟩ := k L hL o ho
    exact ⟨hk, ⟨L, _, hf, hn, e, hd⟩, funs_slots r (fun b hb => k b (by unfold frs; rw [List.filterMap_cons, hf]; exact List.mem_cons_of_mem _ hb)) hr⟩
section
variable {M : Model} {A : Around} {E : Value → Shared → Prop} {s : Shared} {base : Heap} {env : Env} {outer : List Env} {L x : Addr} {oe : Obj} {vs : Array Value} {Q : Unit → Shared → Prop}
theorem entry_exact2 {head : Value} {had : Bool} (hfr : A.frames = some (env :: outer)) (hl : s.heap.FunFrames base (env :: outer)) (hf : env.frame = some L) (hx : s.heap.get? x = some oe) (hd : oe.data = .fields vs) (hsz : 1 < vs.size) (hdc : oe.dict = none)
    (h : ∀ h' T, Kept x [] (frs (env :: outer)) s.heap h' → s.heap.objs.size ≤ T → s.heap.objs.size ≤ h'.objs.size → Fly h' x T oe.cls (rawInt L) → Q () { s with heap := h' }) :
    wpAny M A (do let a ← frameOf env; let pl ← entryPlaceOf L had; let b ← EntryCells.newEntry head a .none (rawInt L) .none pl; setField (.ref x) 1 b) Q E s := by
  have xfr : x ∉ frs (env :: outer) := fun z => by
    obtain ⟨_, o, q, no⟩ := hl.mem z
    exact no vs (by rw [hx] at q; cases q; exact hd)
  refine wpAny_bind (wpAny_frameOf_fun hfr hl hf fun g so => wpAny_bind (wpAny_entryPlaceOf fun pl hpl => ?_))
  unfold EntryCells.newEntry newFields
  refine wpAny_bind (wpAny_newObj_type ?_ (hpl.sizeOk5 _ _ _ _ _))
  have gx : g.get? x = some oe := (so.2.1 x xfr).trans hx
  have gx' := Heap.get?_push_of_some (h := g) { cls := .type "traceback", dict := none, data := .fields ([head, .ref L, .none, rawInt L, .none] ++ (if pl.isEmpty then List.replicate 6 Value.none else pl)).toArray } gx
  have ne : g.objs.size ≠ x := Nat.ne_of_gt (Heap.lt_size gx)
  have nd := Obj.data_mapFields hd (·.setIfInBounds 1 (Value.ref g.objs.size))
  have hT := (Heap.get?_update_other (g.push { cls := .type "traceback", dict := none, data := .fields ([head, .ref L, .none, rawInt L, .none] ++ (if pl.isEmpty then List.replicate 6 Value.none else pl)).toArray }) (Obj.mapFields (·.setIfInBounds 1 (Value.ref g.objs.size))) (Ne.symm ne)).trans (Heap.get?_push_size g rfl)
  refine wpAny_setField gx' hd hsz (h _ g.objs.size ⟨fun b o q n1 _ n3 => ?_, fun b o q n1 _ => ?_⟩ (by rw [so.1]; exact Nat.le_refl _) ?_ ⟨_, _, _, _, Heap.get?_update_self _ gx' (Obj.isFreed_of_fields nd), Obj.cls_mapFields _ _, (dict_mapFields _ _).trans hdc, nd, by simp [hsz], ne, hT, rfl, by simp⟩)
  · rw [Heap.get?_update_other _ _ (Ne.symm n1)]
    exact Heap.get?_push_of_some _ ((so.2.1 b n3).trans q)
  · obtain ⟨sl, r⟩ := so.2.2 b o q
    exact ⟨sl, by rw [Heap.get?_update_other _ _ (Ne.symm n1)]; exact Heap.get?_push_of_some _ r⟩
  · rw [Heap.size_update, Heap.size_push, so.1]
    exact Nat.le_succ _
theorem note_any {T : Addr} {cls fl : Value} (hfr : A.frames = some (env :: outer)) (hl : s.heap.FunFrames base (env :: outer)) (hf : env.frame = some L) (F : Fly s.heap x T cls fl)
    (h : ∀ h' T', Kept x [T] (frs (env :: outer)) s.heap h' → ((T' = T ∧ fl = rawInt L) ∨ s.heap.objs.size ≤ T') → s.heap.objs.size ≤ h'.objs.size → Fly h' x T' cls (rawInt L) → Q () { s with heap := h' }) : wpAny M A (noteFrame (.ref x) env) Q E s := by
  obtain ⟨oe, vs, oT, ts, hx, hc, hdc, hd, h1, ne, hT, hdT, h3⟩ := F.ex
  subst hc
  unfold noteFrame
  simp only [hf]
  refine wpAny_bind (wpAny_field hx hd h1 ?_)
  rw [if_pos (by simp)]
  refine wpAny_bind (wpAny_field hT hdT h3 ?_)
  by_cases z : fl = rawInt L
  · rw [if_pos (by rw [z]; simp)]
    refine wpAny_pure ?_
    exact h s.heap T ⟨fun b o q _ _ _ => q, fun b o q _ _ => ⟨o.slots, q⟩⟩ (.inl ⟨rfl, z⟩) (Nat.le_refl _) (z ▸ F)
  · rw [if_neg (by simpa using z)]
    refine wpAny_bind (wpAny_setField hT hdT (Array.getElem?_eq_some_iff.mp h3).1 ?_)
    have ot : ∀ b, b ≠ T → (s.heap.update T (Obj.mapFields (·.setIfInBounds 3 Value.none))).get? b = s.heap.get? b := fun b n => Heap.get?_update_other _ _ (Ne.symm n)
    have szu : (s.heap.update T (Obj.mapFields (·.setIfInBounds 3 Value.none))).objs.size = s.heap.objs.size := Heap.size_update _ _ _
    refine entry_exact2 (base := base) hfr (hl.of_keeps fun b o q no => ⟨o, (ot b fun z => no ts (by rw [z, hT] at q; cases q; exact hdT)).trans q, rfl⟩) hf ((ot x (Ne.symm ne)).trans hx) hd (Array.getElem?_eq_some_iff.mp h1).1 hdc fun h' T' k n n' f => h h' T' ⟨fun b o q n1 n2 n3 => ?_, fun b o q n1 n2 => ?_⟩ (.inr (by rw [← szu]; exact n)) (by rw [← szu]; exact n') f
    · exact k.keep b o ((ot b fun z => n2 (by rw [z]; exact List.mem_singleton_self _)).trans q) n1 (by simp) n3
    · exact k.slot b o ((ot b fun z => n2 (by rw [z]; exact List.mem_singleton_self _)).trans q) n1 (by simp)
theorem flight_any {T : Addr} {cls fl : Value} (fr : Option Addr) (F : Fly s.heap x T cls fl) (h : ∀ h' fl', (∀ b, b ≠ T → h'.get? b = s.heap.get? b) → h'.objs.size = s.heap.objs.size → Fly h' x T cls fl' → Q () { s with heap := h' }) : wpAny M A (setFlight (.ref x) fr) Q E s := by
  obtain ⟨oe, vs, oT, ts, hx, hc, hdc, hd, h1, ne, hT, hdT, h3⟩ := F.ex
  unfold setFlight
  refine wpAny_bind (wpAny_field hx hd h1 ?_)
  rw [if_pos (by simp)]
  have ot : ∀ b, b ≠ T → (s.heap.update T (Obj.mapFields (·.setIfInBounds 3 (fr.elim Value.none fun f => rawInt f)))).get? b = s.heap.get? b := fun b n => Heap.get?_update_other _ _ (Ne.symm n)
  have sz := (Array.getElem?_eq_some_iff.mp h3).1
  exact wpAny_setField hT hdT sz (h _ (fr.elim Value.none fun f => rawInt f) ot (Heap.size_update _ _ _) ⟨oe, vs, _, _, (ot x (Ne.symm ne)).trans hx, hc, hdc, hd, h1, ne, Heap.get?_update_self _ hT (Obj.isFreed_of_fields (Obj.data_mapFields hdT _)), Obj.data_mapFields hdT _, by simp [sz]⟩)
end
def Thru (X : Cx) (C : Addr) (env : Env) : Value → Shared → Prop := notedBy (model X.prog X.w) X.A env fun x s' => ∃ m, s'.heap.Ns C m ∧ ∀ h', Heap.SameBut C s'.heap h' → ∀ cenv : Env, cenv.locals = C →
  wpAny (model X.prog X.w) X.A (passOn "comprehension.variables-let-go" x cenv : Sem Value) (fun _ _ => False) X.xe { s' with heap := h' }
abbrev Cx.compR (X : Cx) (scope : Scope) (cl : List (Str × Addr)) (N : List Str) (C : Addr) (fp : List Addr) (s₀ : Shared) (H₀ : Hp) : Cx :=
  { X.comp scope cl N C fp s₀ H₀ with xe := Thru X C (compEnvC scope cl C X.env) }
section
variable {X : Cx} {scope : Scope} {cl : List (Str × Addr)} {N : List Str} {C : Addr} {fp : List Addr} {s₀ : Shared} {H₀ : Hp} {pins : List (Addr × Obj)} {σ : St} {H : Hp} {s : Shared}
theorem Inv.toR (I : Inv (X.comp scope cl N C fp s₀ H₀) pins σ H s) : Inv (X.compR scope cl N C fp s₀ H₀) pins σ H s :=
  have ok := I.ok
  ⟨⟨ok.mod, ok.kind, ok.glob, ok.blt, ok.above, ok.inj, ok.has, ok.cab, ok.hd, ok.frames, ok.stk, ok.exf, ok.bs, ok.bsz, ok.noex, ok.exfs, ok.funs, ok.frf⟩, I.os, I.bare, I.base, I.loc, I.cell, I.free, I.freeC, I.pin, I.hok, I.len⟩
theorem Inv.ofR (I : Inv (X.compR scope cl N C fp s₀ H₀) pins σ H s) : Inv (X.comp scope cl N C fp s₀ H₀) pins σ H s :=
  have ok := I.ok
  ⟨⟨ok.mod, ok.kind, ok.glob, ok.blt, ok.above, ok.inj, ok.has, ok.cab, ok.hd, ok.frames, ok.stk, ok.exf, ok.bs, ok.bsz, ok.noex, ok.exfs, ok.funs, ok.frf⟩, I.os, I.bare, I.base, I.loc, I.cell, I.free, I.freeC, I.pin, I.hok, I.len⟩
def In0 (X : Cx) (C : Addr) (fp : List Addr) (s₀ : Shared) (H₀ : Hp) : Prop := ∃ pins σ, Inv X pins σ H₀ s₀ ∧ (∀ b ∈ fp, FpOk X pins H₀ b ∧ b < s₀.heap.objs.size) ∧ C = s₀.heap.objs.size
end
section
variable {P : Program} {w : World} {K : PySem.W.Frag} {mg : Str → Option Value} {base : Heap} {N : List Str} {qual : Str} {scope : Scope} {f : Addr} {cd : Value} {A : Around} {outer : List Env} {s : Shared} {H : Hp} {E : XK}
theorem passC {sc : Scope} {cl : List (Str × Addr)} {N' : List Str} {C : Addr} {fp : List Addr} {s₀ : Shared} {H₀ : Hp} (O : In0 (cxOf (CXr P w) P w K mg base N qual scope f cd A outer s H E) C fp s₀ H₀) :
    Passes (CXr P w) ((cxOf (CXr P w) P w K mg base N qual scope f cd A outer s H E).compR sc cl N' C fp s₀ H₀) E := by
  obtain ⟨pX, σX, I0, f0, rfl⟩ := O
  intro pins σ H1 s1 e s' I h
  obtain ⟨x, T, cls, H', rfl, os, bare, un, hok, F, hx, hT, hxH, hTH, he⟩ := h
  have I' := I.raised os bare un hok
  have Io : Inv (cxOf (CXr P w) P w K mg base N qual scope f cd A outer s H E) pX σX H' s' := I0.call' I'.os I'.base I'.hok I'.bare fun b hb => ⟨(f0 b hb).1.2.2.2.1, (f0 b hb).1.2.1, (f0 b hb).1.2.2.2.2.1, (f0 b hb).1.2.2.2.2.2⟩
  have s0s : s.heap.objs.size ≤ s₀.heap.objs.size := I0.sz
  have fresh : ∀ b, s1.heap.get? b = none → s.heap.get? b = none := fun b hb => by
    cases q : s.heap.get? b with
    | none => rfl
    | some o =>
      obtain ⟨o1, r⟩ := I0.base.there b o q (by simp [cxOf])
      by_cases z : b ∈ fp
      · rcases (f0 b z).1.2.2.2.1 with y | y
        · simp [cxOf] at y
        · exact absurd (Nat.lt_of_lt_of_le (Heap.lt_size q) y) (Nat.lt_irrefl _)
      · obtain ⟨o2, r2⟩ := I.base.there b o1 r z
        rw [hb] at r2; cases r2
  obtain ⟨m1, hm1, _⟩ := I.loc
  obtain ⟨m', hm', _⟩ := I'.loc
  have Cin : ∃ o, s'.heap.get? s₀.heap.objs.size = some o := by obtain ⟨o, _, _, q, _⟩ := hm'; exact ⟨o, q⟩
  have Cin1 : ∃ o, s1.heap.get? s₀.heap.objs.size = some o := by obtain ⟨o, _, _, q, _⟩ := hm1; exact ⟨o, q⟩
  have Cx' : s₀.heap.objs.size ≠ x := fun z => by obtain ⟨o, q⟩ := Cin1; rw [z, hx] at q; cases q
  have CT : s₀.heap.objs.size ≠ T := fun z => by obtain ⟨o, q⟩ := Cin1; rw [z, hT] at q; cases q
  have Cfr : s₀.heap.objs.size ∉ frs (envOfC qual scope s.heap.objs.size f cd :: outer) := fun z => by
    obtain ⟨_, o, q, _⟩ := (I0.stack).mem z
    exact absurd (Heap.lt_size q) (Nat.lt_irrefl _)
  have stk' := Io.stack
  show wpAny (model P w) (A.deeper (envOfC qual scope s.heap.objs.size f cd)) (noteFrame (.ref x) (compEnvC sc cl s₀.heap.objs.size (envOfC qual scope s.heap.objs.size f cd))) _ _ s'
  rw [noteFrame_eq (a := compEnvC sc cl s₀.heap.objs.size (envOfC qual scope s.heap.objs.size f cd)) (b := envOfC qual scope s.heap.objs.size f cd) rfl]
  refine note_any (base := base) Io.ok.frames stk' rfl F fun h1 T1 k1 n1 z1 F1 => ⟨m', hm'.at' fun o e => ?_, fun h2 sb cenv _ => ?_⟩
  · exact k1.keep _ o e Cx' (fun z => CT (List.mem_singleton.mp z)) Cfr
  have n1 : s'.heap.objs.size ≤ T1 := n1.resolve_left fun z => absurd z.2 (by simp [rawInt])
  have F1x := F1
  obtain ⟨oe, vs, oT, ts, hx1, hc1, hdc1, hd1, h11, ne1, hT1, hdT1, h31⟩ := F1x.ex
  have T1C : T1 ≠ s₀.heap.objs.size := fun z => by
    obtain ⟨o, q⟩ := Cin
    rw [← z] at q
    exact absurd (Nat.lt_of_lt_of_le (Heap.lt_size q) n1) (Nat.lt_irrefl _)
  have F2 : Fly h2 x T1 cls (rawInt (s.heap.objs.size)) := ⟨oe, vs, oT, ts, (sb.2 x (Ne.symm Cx')).trans hx1, hc1, hdc1, hd1, h11, ne1, (sb.2 T1 T1C).trans hT1, hdT1, h31⟩
  unfold PySem.passOn
  refine wpAny_bind (wpAny_field (s := { s' with heap := h2 }) ((sb.2 x (Ne.symm Cx')).trans hx1) hd1 h11 ?_)
  rw [if_neg (by simp)]
  refine wpAny_bind (flight_any cenv.frame F2 fun h3 fl3 o3 z3 F3 => wpAny_throw ?_)
  show wpAny (model P w) (A.deeper (envOfC qual scope s.heap.objs.size f cd)) (leaving (envOfC qual scope s.heap.objs.size f cd) (.ref x)) _ _ _
  unfold leaving
  have sl3 : ∀ b o, s'.heap.get? b = some o → b ≠ x → b ≠ T → b ≠ s₀.heap.objs.size → b ≠ T1 → ∃ sl, h3.get? b = some { o with slots := sl } := fun b o q a1 a2 a3 a4 => by
    obtain ⟨sl, r⟩ := k1.slot b o q a1 (by simpa using a2)
    exact ⟨sl, (o3 b a4).trans ((sb.2 b a3).trans r)⟩
  have fl : h3.FunFrames base (envOfC qual scope s.heap.objs.size f cd :: outer) := by
    refine funs_slots _ (fun b hb o q => ?_) stk'
    obtain ⟨_, o', q', no⟩ := stk'.mem hb
    rw [q] at q'; cases q'
    obtain ⟨oe0, vs0, oT0, ts0, hx0, _, _, hd0, _, _, hT0, hdT0, _⟩ := F.ex
    refine sl3 b o q (fun z => no vs0 ?_) (fun z => no ts0 ?_) (fun z => Cfr (z ▸ hb)) fun z => ?_
    · rw [z, hx0] at q; cases q; exact hd0
    · rw [z, hT0] at q; cases q; exact hdT0
    · rw [z] at q; exact absurd (Nat.lt_of_lt_of_le (Heap.lt_size q) n1) (Nat.lt_irrefl _)
  refine wpAny_bind (note_any (base := base) Io.ok.frames fl rfl F3 fun h4 T4 k4 n4 z4 F4 => ?_)
  refine flight_exact F4 fun h5 o5 F5 => ?_
  have z3' : s'.heap.objs.size ≤ h3.objs.size := by
    have e3 : h3.objs.size = h2.objs.size := z3
    rw [e3, sb.1]; exact z1
  have n4' : s'.heap.objs.size ≤ T4 := by
    rcases n4 with ⟨y, _⟩ | y
    · rw [y]; exact n1
    · exact Nat.le_trans z3' y
  have out : ∀ b, s'.heap.objs.size ≤ b → s.heap.get? b = none ∧ H' b = none := fun b hb => by
    have nb : s'.heap.get? b = none := Heap.get?_none_of_le hb
    refine ⟨?_, ?_⟩
    · cases q : s.heap.get? b with
      | none => rfl
      | some o =>
        obtain ⟨o1, r⟩ := Io.base.there b o q (by simp [cxOf])
        rw [nb] at r; cases r
    · cases q : H' b with
      | none => rfl
      | some u =>
        obtain ⟨o1, r⟩ := Io.tracked q
        rw [nb] at r; cases r
  have neT : ∀ b o, s'.heap.get? b = some o → ∀ t, s'.heap.objs.size ≤ t → b ≠ t := fun b o q t ht z => by
    rw [z] at q
    exact absurd (Nat.lt_of_lt_of_le (Heap.lt_size q) ht) (Nat.lt_irrefl _)
  refine left_cx Io (ts := [T, s₀.heap.objs.size]) (fresh x hx) hxH (fun b hb => ?_) he ⟨fun b o q a1 a2 a3 => ?_, fun b o q a1 a2 => ?_⟩ (Heap.get?_none_of_le n4') F5
  · simp only [List.mem_cons, List.not_mem_nil, or_false] at hb
    rcases hb with rfl | rfl
    · exact ⟨fresh _ hT, hTH⟩
    · exact ⟨Heap.get?_none_of_le s0s, I'.free⟩
  · simp only [List.mem_cons, List.not_mem_nil, or_false, not_or] at a2
    have b1 := neT b o q T1 n1
    have b4 := neT b o q T4 n4'
    have r3 : h3.get? b = some o := (o3 b b1).trans ((sb.2 b a2.2).trans (k1.keep b o q a1 (by simpa using a2.1) a3))
    exact (o5 b b4).trans (k4.keep b o r3 a1 (by simpa using b1) a3)
  · simp only [List.mem_cons, List.not_mem_nil, or_false, not_or] at a2
    have b1 := neT b o q T1 n1
    have b4 := neT b o q T4 n4'
    obtain ⟨sl, r3⟩ := sl3 b o q a1 a2.1 a2.2 b1
    obtain ⟨sl', r4⟩ := k4.slot b _ r3 a1 (by simpa using b1)
    exact ⟨sl', (o5 b b4).trans r4⟩
end
section
variable {X : Cx} {scope : Scope} {cl : List (Str × Addr)} {N : List Str} {cap : List Nat} {k : Nat} {tg : Expr} {g : TG} {pos : Pos} {iter elt : Expr} {ifs : List Expr} {wi : TI} {tc : TT} {te : TE}
theorem comp_coreR {use : Option (Value → Sem Unit)} {Qv : Value → Shared → Prop} {pins : List (Addr × Obj)} {s : Shared} {σ : St} {H : Hp} {Q : VK} {pos' : Pos} (S : CompScopeN X scope cl N cap k) (hc : X.calm = true) (hi : PI X tg iter wi) (hg : ∀ C fp s₀ H₀, PG (X.comp scope cl N C fp s₀ H₀) tg g)
    (ht : ∀ C fp s₀ H₀, PTs (X.comp scope cl N C fp s₀ H₀) ifs tc) (he : ∀ C fp s₀ H₀, In0 X C fp s₀ H₀ → PE (X.compR scope cl N C fp s₀ H₀) elt te) (hs : ∀ x, foldedSetIterable iter X.env x = pure x)
    (I : Inv X pins σ H s) (h : tCompN k cap wi g tc te σ H Q)
    (fin : ∀ (D C : Addr) (H6 : Hp) (s6 : Shared) (m : Str → Option Value), Inv X pins σ H6 s6 → FpOk X pins H6 C → s6.heap.Ns C m → Q (.ref D) H6 → compPost (model X.prog X.w) X.A X.xe use Qv (.ref D) C (.ok .next) s6) :
    wpAny (model X.prog X.w) X.A (comprehension (.ListComp elt [⟨tg, iter, ifs, 0⟩] scope pos) scope X.env pos' (newList []) false (eval iter X.env) use) Qv X.xe s := by
  refine wpAny_comprehension_free (use := use) rfl hs (S.clos I.ok) S.kind S.names (thn (hi pins s σ H _ I h) fun v s1 h1 => thn h1 fun itv s2 h2 => ?_)
  obtain ⟨it, fp, tn, J, H2, rfl, I2, T, st2, f2, q⟩ := h2
  obtain ⟨W, ⟨m0, w0⟩, turn⟩ := q s2.heap.objs.size (I2.hok.fresh (Nat.le_refl _))
  have I3 : Inv X pins σ (upd H2 s2.heap.objs.size (.lst [])) { s2 with heap := s2.heap.push { cls := .type "list", dict := none, data := .seq ([] : List Value).toArray } } :=
    I2.laid (t' := s2.toks) (fun b u e => Heap.get?_push_of_some _ e) (Nat.le_refl _) ⟨Nat.zero_le _, [], 0, .nil, Heap.get?_push_size _ rfl⟩
  refine wpAny_newObj_type (wpAny_newFunctionEnv S.ncell (by intro y hy; simp at hy) (fun h4 hns hsb => ?_) S.kind)
  generalize hs3 : ({ s2 with heap := s2.heap.push { cls := .type "list", dict := none, data := .seq ([] : List Value).toArray } } : Shared) = s3 at I3 hns hsb ⊢
  have f3 : ∀ b ∈ fp, FpOk X pins (upd H2 s2.heap.objs.size (.lst [])) b ∧ b < s3.heap.objs.size := fun b hb => by
    obtain ⟨o, ho, _⟩ := T.obj _ _ st2 b hb
    have l1 : b < s2.heap.objs.size := Heap.lt_size ho
    refine ⟨⟨?_, (f2 b hb).2⟩, ?_⟩
    · rw [upd_ne (Nat.ne_of_lt l1)]; exact (f2 b hb).1
    · rw [← hs3, Heap.size_push]; exact Nat.lt_succ_of_lt l1
  have nsN : h4.Ns s3.heap.objs.size fun _ => none := by
    have := hns
    simpa using this
  have keep4 : ∀ b o, s3.heap.get? b = some o → h4.get? b = some o := fun b o e => (hsb.2 b (Nat.ne_of_lt (Heap.lt_size e))).trans (Heap.get?_push_of_some _ e)
  have Ic := I3.enterN (tk := s3.toks + ([] : List (Str × Value)).length) S f3 nsN keep4
  have st4 : tn 0 h4 := T.keep _ _ _ st2 fun b hb o e => keep4 b o (by rw [← hs3]; exact Heap.get?_push_of_some _ e)
  have stat : ∀ {H' : Hp}, (∀ b ∈ fp, H' b = none) → ∀ b ∈ fp, FpOk (X.comp scope cl N s3.heap.objs.size fp s3 (upd H2 s2.heap.objs.size (.lst []))) [] H' b := fun hn b hb =>
    ⟨hn b hb, Nat.ne_of_lt (f3 b hb).2, fun z => (List.mem_cons.mp (I3.stkSub b z)).elim (fun q => (f3 b hb).1.2.1 q) fun q => (f3 b hb).1.2.2.1 q, .inl hb, fun y c e => (f3 b hb).1.2.2.2.2.1 y c (S.sub I.ok y c e), fun p hp => by simp at hp⟩
  have out : ∀ {σx : St} {H6 : Hp} {s6 : Shared}, Inv (X.comp scope cl N s3.heap.objs.size fp s3 (upd H2 s2.heap.objs.size (.lst []))) [] σx H6 s6 → Q (.ref s2.heap.objs.size) H6 →
      compPost (model X.prog X.w) X.A X.xe use Qv (Value.ref s2.heap.objs.size) s3.heap.objs.size (.ok .next) s6 := fun {σx H6 s6} I6 q6 => by
    obtain ⟨m, hm, _⟩ := I6.loc
    have Io : Inv X pins σ H6 s6 := I3.call' I6.os I6.base I6.hok I6.bare fun b hb => ⟨(f3 b hb).1.2.2.2.1, (f3 b hb).1.2.1, (f3 b hb).1.2.2.2.2.1, (f3 b hb).1.2.2.2.2.2⟩
    exact fin _ _ _ _ m Io (I3.fpOk (b := s3.heap.objs.size) (H' := H6) (Nat.le_refl _) I6.free) hm q6
  have loop : codeAny (model X.prog X.w) X.A (.compLoop (.ListComp elt [⟨tg, iter, ifs, 0⟩] scope pos) 0 (.ref it) (.ref s2.heap.objs.size) (compEnvC scope cl s3.heap.objs.size X.env))
      (compPost (model X.prog X.w) X.A X.xe use Qv (Value.ref s2.heap.objs.size) s3.heap.objs.size) { s3 with heap := h4, toks := s3.toks + ([] : List (Str × Value)).length } := by
    refine cl_loop (fun n s' => ∃ i σx H', Inv (X.comp scope cl N s3.heap.objs.size fp s3 (upd H2 s2.heap.objs.size (.lst []))) [] σx H' s' ∧ tn i s'.heap ∧ (∀ b ∈ fp, H' b = none) ∧ W i n σx H') ?_ m0 ⟨0, _, _, Ic, st4, fun b hb => (f3 b hb).1.1, w0⟩
    rintro n s5 ⟨i, σx, H5, I5, st5, fr5, w5⟩
    rcases turn i n σx H5 w5 with ⟨stop, qd⟩ | ⟨go, step⟩
    · refine wpAny_mono (T.done (X.comp scope cl N s3.heap.objs.size fp s3 (upd H2 s2.heap.objs.size (.lst []))) rfl rfl rfl hc i [] s5 _ H5 (fun _ _ => False) I5 (stat fr5) st5 stop) (fun r s6 ⟨hr, I6⟩ => ?_) fun _ _ z => z.elim
      subst hr
      exact out I6 qd
    · refine wpAny_mono (T.item (X.comp scope cl N s3.heap.objs.size fp s3 (upd H2 s2.heap.objs.size (.lst []))) rfl rfl rfl hc i [] s5 _ H5 (fun _ _ => False) I5 (stat fr5) st5 go) (fun r s6 ⟨u, hr, h6⟩ => ?_) fun _ _ z => z.elim
      subst hr
      refine wpAny_mono h6 (fun _ s7 ⟨v, H7, I7, r7, y7, st7, fr7⟩ => ?_) fun _ _ z => z.elim
      have I7' := I7.pinned (stat fr7) (T.obj _ _ st7)
      have again : ∀ {σ9 : St} {H9 : Hp} {s9 : Shared}, Inv (X.comp scope cl N s3.heap.objs.size fp s3 (upd H2 s2.heap.objs.size (.lst []))) ([] ++ pinsAt fp s7.heap) σ9 H9 s9 → (∃ m', m' < n ∧ W (i + 1) m' σ9 H9) →
          ∃ m', m' < n ∧ ∃ i σx H', Inv (X.comp scope cl N s3.heap.objs.size fp s3 (upd H2 s2.heap.objs.size (.lst []))) [] σx H' s9 ∧ tn i s9.heap ∧ (∀ b ∈ fp, H' b = none) ∧ W i m' σx H' := fun {σ9 H9 s9} I9 ⟨m', lt, w'⟩ => by
        refine ⟨m', lt, i + 1, σ9, H9, I9.unpinned, T.keep _ _ _ st7 fun b hb o e => (I9.pin (b, o) (List.mem_append_right _ (List.mem_append_right _ (mem_pinsAt hb e)))).1, fun b hb => ?_, w'⟩
        obtain ⟨o, e, d⟩ := T.obj _ _ st7 b hb
        exact (I9.pin (b, o) (List.mem_append_right _ (List.mem_append_right _ (mem_pinsAt hb e)))).2.1
      refine wpAny_mono (hg _ _ _ _ _ s7 σx H7 v u _ I7' r7 (step v H7 y7)) (fun _ s8 ⟨σ8, H8, I8, q8⟩ => ?_) fun _ _ z => z.elim
      refine wpAny_mono (ht _ _ _ _ _ s8 _ H8 _ I8 q8) (fun b s9 ⟨H9, I9, q9⟩ => ?_) fun _ _ z => z.elim
      cases b with
      | false => exact again I9 q9
      | true =>
        refine wpAny_mono (he _ _ _ _ ⟨pins, σ, I3, f3, rfl⟩ _ s9 _ H9 _ I9.toR q9) (fun u' s10 ⟨v', H10, I10, r10, ys, hD, hz, q10⟩ => ?_) fun _ _ z => by cases use <;> exact z
        refine wpAny_mono (mt_append (X := X.comp scope cl N s3.heap.objs.size fp s3 (upd H2 s2.heap.objs.size (.lst []))) _ s10 _ H10 (.ref s2.heap.objs.size) [v'] (.ref s2.heap.objs.size) [u'] (fun _ H' => ∃ m', m' < n ∧ W (i + 1) m' σ8 H') I10.ofR rfl (.cons r10 .nil) ⟨_, ys, v', rfl, rfl, hD, hz, q10⟩) (fun _ s11 ⟨_, H11, I11, _, q11⟩ => again I11 q11) fun _ _ z => z.elim
  exact codeAny_compStart_list loop (T.self _ 0 _ _ _ st4 loop)
theorem pe_compNR (S : CompScopeN X scope cl N cap k) (hc : X.calm = true) (hi : PI X tg iter wi) (hg : ∀ C fp s₀ H₀, PG (X.comp scope cl N C fp s₀ H₀) tg g)
    (ht : ∀ C fp s₀ H₀, PTs (X.comp scope cl N C fp s₀ H₀) ifs tc) (he : ∀ C fp s₀ H₀, In0 X C fp s₀ H₀ → PE (X.compR scope cl N C fp s₀ H₀) elt te) (hs : ∀ x, foldedSetIterable iter X.env x = pure x := by intro _; rfl) :
    PE X (.ListComp elt [⟨tg, iter, ifs, 0⟩] scope pos) (tCompN k cap wi g tc te) := by
  intro pins s σ H Q I h
  rw [eval_ListComp]
  refine comp_coreR S hc hi hg ht he hs I h fun D C H6 s6 m Io Cf hm q6 => ?_
  exact ⟨m, hm, fun h' sb => ⟨.ref D, H6, Io.turned (it := C) (t' := s6.toks) (fun b o n e => (sb.2 b n).trans e) Cf.1 Cf.2.1 Cf.2.2.2.1 Cf.2.2.2.2.1 Cf.2.2.2.2.2, rfl, q6⟩⟩
end
end L2
namespace L2
open PySem PySem.Spec PyProof.Rows
section
variable {prog : Program} {w : World} {A : Around} {E : Value → Shared → Prop} {s : Shared} {z TI TO i j : Addr} {f2 : List Addr} {T2 : Nat → Heap → Prop} {e2 : Nat → Option Value}
end
end L2
namespace L2
open PySem PySem.Spec PyProof.Rows
section
variable {prog : Program} {w : World}
end
end L2
namespace L2
open PySem PySem.Spec PyProof.Rows
section
variable {prog : Program} {w : World}
end
end L2
namespace L2
open PySem PySem.Spec PyProof.Rows
def tForU (nf : Addr → Prop) (wi : TI) (g : TG) (tb : TS) : TS := fun D => tFor wi g tb { D with nx := fun σ' H' => ∃ d o kvs, nf d ∧ H' d = some (.frz o (.dK kvs)) ∧ D.nx σ' (upd H' d (.dK kvs)) }
end L2
namespace L2
open PySem PySem.Spec PyProof.Rows
end L2
def L2.xNames : String := "xD0 xE1 xF1 xI0 xI1 xL0 xL1 xT0 xT1"
open Lean Meta Simp in
simproc_decl exHp (Exists _) := fun e => do
  let _ := L2.xNames
  let mut b := e
  let mut n := 0
  while b.isAppOfArity ``Exists 2 && b.appArg!.isLambda do
    b := b.appArg!.bindingBody!
    n := n + 1
  let_expr And A _ := b | return .continue
  let (o, X) := match_expr A with
    | Or X _ => (true, X)
    | _ => (false, A)
  let_expr Eq _ l r := X | return .continue
  if l.hasLooseBVars then return .continue
  let_expr Option.some _ rc := r | return .continue
  let some c := rc.getAppFn.constName? | return .continue
  for d in (← getLCtx) do
    if d.isImplementationDetail then continue
    let ty ← instantiateMVars d.type
    let_expr Eq _ l' r' := ty | continue
    unless l' == l do continue
    let_expr Option.some _ rc' := r' | continue
    let some c' := rc'.getAppFn.constName? | continue
    let (s, k) := if o then
        (if c == `L2.HO.tup then (if c' == `L2.HO.tup then "xE" else "xF") else (if c' == `L2.HO.lst then "xG" else "xJ"), n - 1)
      else if c != c' then ("", 0)
      else if c == `L2.HO.lst then ("xL", n - 1) else if c == `L2.HO.tup then ("xT", n - 1) else if c == `L2.HO.dK then ("xD", n - 1) else if c == `L2.HO.ins && n ≥ 2 then ("xI", n - 2) else ("", 0)
    if s == "" || k > 3 then continue
    let nm := Name.mkStr `L2 (s ++ toString k)
    unless (← getEnv).contains nm do continue
    let thm ← mkConstWithFreshMVarLevels nm
    let (ms, _, ty2) ← forallMetaTelescope (← inferType thm)
    let_expr Eq _ a2 b2 := ty2 | continue
    unless (← withReducible (isDefEq a2 e)) do continue
    unless (← isDefEq (← inferType ms.back!) ty) do continue
    ms.back!.mvarId!.assign d.toExpr
    let res ← instantiateMVars b2
    return .visit { expr := res.headBeta, proof? := some (← instantiateMVars (mkAppN thm ms)) }
  return .continue
open Lean Meta Simp in
simproc_decl quickV2 (L2.tVar _ _ _ _) := fun e => do
  let_expr L2.tVar i s H Q := e | return .continue
  let l ← mkAppM ``GetElem?.getElem? #[s, i]
  let w ← whnfD l
  let_expr Option.some _ o := w | return .continue
  let o' ← whnfD o
  let_expr Option.some _ v := o' | return .continue
  return .visit { expr := (mkApp2 Q v H).headBeta, proof? := some (mkApp6 (mkConst ``L2.qVar) i s H Q v (← mkEqRefl (← mkAppM ``Option.some #[← mkAppM ``Option.some #[v]]))) }
def L2.lzPre2 : String := "lazyAnd reduceIte lazyIte exHp exists_eq_left exists_eq_left' reduceIte L2.exBl L2.exIn L2.exRf L2.exSt L2.exSo quickV2 L2.exIn1 L2.exRf1 L2.exRf2 L2.exRf3"
@[elab_as_elim] theorem L2.len1 {α : Type} {p : List α → Prop} (us : List α) (hl : us.length = 1) (h : ∀ a, p [a]) : p us :=
  match us, hl with
  | [a], _ => h a
@[elab_as_elim] theorem L2.len2 {α : Type} {p : List α → Prop} (us : List α) (hl : us.length = 2) (h : ∀ a b, p [a, b]) : p us :=
  match us, hl with
  | [a, b], _ => h a b
@[elab_as_elim] theorem L2.len3 {α : Type} {p : List α → Prop} (us : List α) (hl : us.length = 3) (h : ∀ a b c, p [a, b, c]) : p us :=
  match us, hl with
  | [a, b, c], _ => h a b c
@[elab_as_elim] theorem L2.len4 {α : Type} {p : List α → Prop} (us : List α) (hl : us.length = 4) (h : ∀ a b c d, p [a, b, c, d]) : p us :=
  match us, hl with
  | [a, b, c, d], _ => h a b c d
namespace L2
open PySem PySem.Spec PyProof.Rows
def rExtG : V → List V → Hp → VK → Prop := fun x vs H Q => ∃ l xs b ys, x = .ref l ∧ vs = [.ref b] ∧ H l = some (.lst xs) ∧ H b = some (.lst ys) ∧ xs.length + ys.length < 100000 ∧ ∀ H', Mu H l (.lst (xs ++ ys)) H' → Q .non H'
end L2
namespace L2
open PySem PySem.Calls PySem.Spec PyProof.Rows
section
variable {prog : Program} {w : World} {A : Around} {E : Value → Shared → Prop} {s : Shared}
end
section
variable {X : Cx}
def tListRev (ta : TA) : TE := fun σ H Q => ta σ H fun vs H1 => ∃ l xs, vs = [.ref l] ∧ H1 l = some (.lst xs) ∧ ∀ p H', H1 p = none → Same H1 H' → H' p = some (.lst xs.reverse) → Q (.ref p) H'
end
end L2
namespace L2
open PySem PySem.Calls PySem.Spec PyProof.Rows
section
variable {prog : Program} {w : World} {A : Around} {E : Value → Shared → Prop} {s : Shared}
def IsRt (h : Heap) (a l : Addr) (i : Int) : Prop := ∃ o, h.get? a = some o ∧ o.cls = .type "reversed" ∧ o.data = .fields #[.ref l, rawInt i]
end
end L2
namespace L2
open PySem PySem.Calls PySem.Spec PyProof.Rows
section
variable {prog : Program} {w : World} {A : Around} {E : Value → Shared → Prop} {s : Shared}
end
section
variable {X : Cx}
def tListRevT (ta : TA) : TE := fun σ H Q => ta σ H fun vs H1 => ∃ l xs, vs = [.ref l] ∧ H1 l = some (.tup xs) ∧ xs.length < 100000 ∧ ∀ p H', H1 p = none → Same H1 H' → H' p = some (.lst xs.reverse) → Q (.ref p) H'
end
end L2
namespace L2
open PySem PySem.Spec PyProof.Rows
def rLenG : List V → Hp → VK → Prop := fun xs H Q => ∃ p ys, xs = [.ref p] ∧ (H p = some (.tup ys) ∨ H p = some (.lst ys)) ∧ Q (.int ys.length) H
theorem call_lenG {X : Cx} : CallR X (.builtin "len") rLenG := by
  intro pins s σ H xs us Q I r h
  obtain ⟨p, ys, e, hp, q⟩ := h
  refine call_len_seq pins s σ H xs us Q I r ⟨p, ys, e, ?_, q⟩
  rcases hp with hp | hp
  · exact .inr (SqT.of hp)
  · exact .inl (SqL.of hp)
end L2
namespace L2
open PySem
def rEqE : R2 := fun x y H Q => ∃ a b xs, x = .ref a ∧ y = .ref b ∧ H a = some (.lst xs) ∧ H b = some (.lst []) ∧ Q (.bl xs.isEmpty) H
end L2
namespace L2
open PySem PySem.Spec PyProof.Rows
section
variable {X : Cx} {o e f : Expr} {ty tx : TE} {apos cpos : Pos} {a : Addr} {kvs : List (Key × V)}
theorem pe_dgetDK (kd : KD X.prog X.w X.K a kvs) (ho : PE X o (tC (.ref a))) (he : PE X e ty) (hf : PE X f tx) (m : M2 X o "get" apos e f cpos) : PE X (.Call (.Attribute o "get" apos) [e, f] [] cpos) (fun σ H Q => ty σ H fun y H2 => tx σ H2 fun z H3 => ∃ k, keyOf y = some k ∧ Q ((valV kvs k).getD z) H3) := by
  obtain ⟨ob, vs, h1, h2, h3, h4⟩ := kd
  intro pins s σ H Q I h
  refine wpAny_Call_method m.base m.few m.line PySem.F.plainAttrs_dict PySem.F.slot_dict_get PySem.F.type_dict_get (thn (ho pins s σ H (fun x H1 => x = .ref a ∧ ty σ H1 fun y H2 => tx σ H2 fun z H3 => ∃ k, keyOf y = some k ∧ Q ((valV kvs k).getD z) H3) I ⟨rfl, h⟩) fun u s1 ⟨x, H1, I1, rx, ex, q1⟩ => ?_)
  subst ex
  obtain rfl : u = Value.ref a := rx
  have dd := h4 _ (I1.kIn a ob h1)
  refine ⟨dd.typeIs, fun b q => ?_, ?_⟩
  · cases q
    obtain ⟨ob, _, _, h1, h2, _⟩ := dd
    exact ⟨ob, h1, h2.2.1⟩
  rw [m.trees]
  refine Calls.callWith_builtin rfl (Calls.evalArgs_plain (Calls.spliced_cons (thn (he pins s1 σ H1 _ I1 q1) fun iv s2 ⟨y, H2, I2, ry, q2⟩ =>
    Calls.spliced_cons (thn (hf pins s2 σ H2 _ I2 q2) fun fv s3 ⟨z, H3, I3, rz, k, ek, q3⟩ => Calls.spliced_nil ?_))))
  have dd := h4 _ (I3.kIn a ob h1)
  rw [kV_of ek] at ry
  exact call_meetsIn PySem.F.slot_dict_get dd.typeIs PySem.F.entry_dict_get (PySem.F.args_dict_get_3 _ _ _) (meets_dict_get_default (mixKind X.prog X.w) a (kV_is ry) h2 fv) ⟨_, dd.mapOf, _, H3, I3.tok _, (h3.val k).getD rz, q3⟩
end
section
variable {X : Cx}
def rCatU (K : PySem.W.Frag) : R2 := fun x y H Q => ∃ a b xs ys, x = .ref a ∧ y = .ref b ∧ SqT K H a xs ∧ SqT K H b ys ∧ xs.length + ys.length ≤ sizeLine ∧
  ∀ p H', Same H H' → SqT K H' p (xs ++ ys) → Q (.ref p) H'
theorem op_catU : OpR X (binaryOp .Add) (rCatU X.K) := by
  intro pins s σ H x y v u Q I rx ry h
  obtain ⟨a, b, xs, ys, rfl, rfl, ha, hb, hz, q⟩ := h
  cases hx : xs with
  | cons x0 X0 =>
    have hx' : xs ≠ [] := by rw [hx]; exact List.cons_ne_nil _ _
    exact op_catT pins s σ H _ _ v u Q I rx ry ⟨a, b, xs, ys, rfl, rfl, ha, hb, hx', hz, fun e => q a H (Same.refl _) (by rw [e, List.append_nil]; exact ha), fun _ p hp => q p _ (same_new hp _) (SqT.of upd_same)⟩
  | nil =>
    subst hx
    cases rx
    cases ry
    obtain ⟨its, r1, p1, _⟩ := I.tuple ha
    obtain ⟨its2, r2, p2, _⟩ := I.tuple hb
    cases r1
    obtain ⟨⟨cls, dd, data, sl⟩, ho, hc, n, hd⟩ := id p1
    obtain ⟨⟨cls2, dd2, data2, sl2⟩, ho2, hc2, n2, hd2⟩ := id p2
    simp only at hc hd hc2 hd2
    subst hc hd hc2 hd2
    exact concat_meets ⟨_, ho, rfl⟩ ⟨_, ho2, rfl⟩ noFill_tuple_add seq_tuple_add PySem.F.slot_tuple_add PySem.F.entry_tuple_add (PySem.F.args_tuple_add_2 _ _)
      (tuple_addW0 a b _ _ n n2 dd dd2 sl sl2 rfl) ⟨ho, ho2, .ref b, H, I, rfl, q b H (Same.refl _) hb⟩
theorem noFill_tuple_mul : fillsNumberSlot (.type "tuple") "mul" = pure false :=
  PySem.fillsNumberSlot_seq (id := "tuple.__mul__") (r := some (.builtin "tuple.__rmul__")) F.slot_tuple_mul.lookup (by decide +kernel) F.slot_tuple_rmul.lookup (by decide +kernel)
theorem repeat_tuple : seqRepeat? (.type "tuple") = pure (some (.builtin "tuple.__mul__")) := by
  unfold seqRepeat?
  rw [PySem.seqSlot_of (T := "tuple") (name := "__mul__") (id := "tuple.__mul__") F.slot_tuple_mul.lookup (by decide +kernel), PySem.seqSlot_of (T := "tuple") (name := "__rmul__") (id := "tuple.__rmul__") F.slot_tuple_rmul.lookup (by decide +kernel)]
  rfl
theorem int_rmul_tuple (a : Int) (t : Tok) (l : Addr) (items : Array Value) (n : Nat) (dd : Option Addr) (sl : Array (Option Value)) :
    Meets (Builtin.«int.__rmul__» ⟨[.int a t, .ref l], []⟩) (fun _ R s => s.heap.get? l = some { cls := .type "tuple", dict := dd, data := .seq items n, slots := sl } ∧ R (.ok (.ret Value.notImplemented)) s) :=
  .of_wp fun prog w A R s h => by obtain ⟨hp, g, d, tk, os⟩ := s; obtain ⟨hl, h⟩ := h; wp_walk using wpAny_loadPart' hl; exact ⟨_, rfl, h⟩
theorem tuple_mulW0 (l : Addr) (items : Array Value) (n : Nat) (dd : Option Addr) (sl : Array (Option Value)) (x : Int) (u : Tok) (h0 : ¬ (x < -(2 ^ 63) || x ≥ 2 ^ 63) = true) (h1 : ¬ (items.isEmpty || x == 1) = true) (h2 : (x ≤ 0 || items.isEmpty) = true) :
    Meets (Builtin.«tuple.__mul__» ⟨[.ref l, .int x u], []⟩) (fun _ R s => s.heap.get? l = some { cls := .type "tuple", dict := dd, data := .seq items n, slots := sl } ∧ R (.ok (.ret (Value.ref s.heap.objs.size))) { s with heap := s.heap.push { cls := Value.type "tuple", data := Data.seq #[] }, toks := s.toks }) :=
  .of_wp fun prog w A R s h => by obtain ⟨hp, g, d, tk, os⟩ := s; obtain ⟨hl, h⟩ := h; have f1 := AutoSeq1.idx_int; wp_walk using wpAny_loadPart' hl; refine wpAny_ite_false (decide_eq_false h0) ?_; wp_walk using wpAny_loadPart' hl; exact ⟨_, rfl, h⟩
theorem tuple_mulW1 (l : Addr) (items : Array Value) (n : Nat) (dd : Option Addr) (sl : Array (Option Value)) (x : Int) (u : Tok) (h0 : ¬ (x < -(2 ^ 63) || x ≥ 2 ^ 63) = true) (h1 : (items.isEmpty || x == 1) = true) :
    Meets (Builtin.«tuple.__mul__» ⟨[.ref l, .int x u], []⟩) (fun _ R s => s.heap.get? l = some { cls := .type "tuple", dict := dd, data := .seq items n, slots := sl } ∧ R (.ok (.ret (Value.ref l))) { s with heap := s.heap, toks := s.toks }) :=
  .of_wp fun prog w A R s h => by obtain ⟨hp, g, d, tk, os⟩ := s; obtain ⟨hl, h⟩ := h; have f1 := AutoSeq1.idx_int; wp_walk using wpAny_loadPart' hl; refine wpAny_ite_false (decide_eq_false h0) ?_; wp_walk using wpAny_loadPart' hl; exact ⟨_, rfl, h⟩
theorem tuple_mulW2 (l : Addr) (items : Array Value) (n : Nat) (dd : Option Addr) (sl : Array (Option Value)) (x : Int) (u : Tok) (h0 : ¬ (x < -(2 ^ 63) || x ≥ 2 ^ 63) = true) (h1 : ¬ (items.isEmpty || x == 1) = true) (h2 : ¬ (x ≤ 0 || items.isEmpty) = true) (h3 : ¬ (items.size : Int) * x > (2 ^ 63 - 1) / 8) (h4 : ¬ Builtin.Tuple.tupleTooMany ((items.size : Int) * x) = true) (h5 : (List.foldl (fun x1 x2 => x1 ++ x2) #[] (List.replicate x.toNat items)).size ≤ sizeLine) :
    Meets (Builtin.«tuple.__mul__» ⟨[.ref l, .int x u], []⟩) (fun _ R s => s.heap.get? l = some { cls := .type "tuple", dict := dd, data := .seq items n, slots := sl } ∧ R (.ok (.ret (Value.ref s.heap.objs.size))) { s with heap := s.heap.push { cls := Value.type "tuple", data := Data.seq (List.foldl (fun x1 x2 => x1 ++ x2) #[] (List.replicate x.toNat items)) }, toks := s.toks }) :=
  .of_wp fun prog w A R s h => by obtain ⟨hp, g, d, tk, os⟩ := s; obtain ⟨hl, h⟩ := h; have f1 := AutoSeq1.idx_int; wp_walk using wpAny_loadPart' hl; refine wpAny_ite_false (decide_eq_false h0) ?_; wp_walk using wpAny_loadPart' hl; refine wpAny_ite_false (decide_eq_false h3) ?_; wp_walk using wpAny_loadPart' hl; exact ⟨_, rfl, h⟩
def rMulT (K : PySem.W.Frag) : R2 := fun x y H Q => ∃ a xs k, x = .ref a ∧ y = .int k ∧ SqT K H a xs ∧ -(2 ^ 63) ≤ k ∧ k < 2 ^ 63 ∧ xs.length * k.toNat ≤ sizeLine ∧ xs ≠ [] ∧
  ∀ p H', Same H H' → SqT K H' p (List.replicate k.toNat xs).flatten → Q (.ref p) H'
theorem op_mulT : OpR X (binaryOp .Mult) (rMulT X.K) := by
  intro pins s σ H x y v u Q I rx ry h
  obtain ⟨a, xs, k, rfl, rfl, ha, h1, h2, hz, hx, q⟩ := h
  cases rx
  obtain ⟨t, rfl⟩ := ry
  obtain ⟨its, r1, p1, _⟩ := I.tuple ha
  obtain ⟨⟨cls, dd, data, sl⟩, ho, hc, n, hd⟩ := id p1
  simp only at hc hd
  subst hc hd
  have hi : its ≠ [] := fun z => hx (r1.nil_iff.mp z)
  have h0 : ¬ (k < -(2 ^ 63) || k ≥ 2 ^ 63) = true := by simp; omega
  have hie : its.toArray.isEmpty = false := by cases its with | nil => exact absurd rfl hi | cons _ _ => rfl
  refine wpAny_binaryOp_repeat_ref (T := "tuple") (U := "int") (by decide) ⟨_, ho, rfl⟩ (fun s' => typeIs_int s' k t) noFill_tuple_mul F.fills_int_mul F.slot_int_rmul repeat_tuple F.slot_int_index.lookup
    (call_meets F.slot_int_rmul (typeIs_int s k t) F.entry_int_rmul (F.args_int_rmul_2 _ _) (int_rmul_tuple k t a its.toArray n dd sl)
      ⟨ho, rfl, ⟨_, ho, rfl⟩, ?_⟩)
  by_cases k1 : k = 1
  · subst k1
    refine call_meets F.slot_tuple_mul ⟨_, ho, rfl⟩ F.entry_tuple_mul (F.args_tuple_mul_2 _ _) (tuple_mulW1 a its.toArray n dd sl 1 t h0 (by rw [hie]; rfl)) ⟨ho, .ref a, H, I, rfl, q a H (Same.refl _) ?_⟩
    simpa using ha
  · have c1 : ¬ (its.toArray.isEmpty || k == 1) = true := by rw [hie]; simpa using k1
    by_cases k0 : k ≤ 0
    · refine call_meets F.slot_tuple_mul ⟨_, ho, rfl⟩ F.entry_tuple_mul (F.args_tuple_mul_2 _ _) (tuple_mulW0 a its.toArray n dd sl k t h0 c1 (by rw [decide_eq_true k0]; rfl)) ⟨ho, .ref s.heap.objs.size, _, I.laid (t' := s.toks) (o := .tup []) (fun b ob q => Heap.get?_push_of_some _ q) (Nat.le_refl _) ⟨Nat.zero_le _, [], .nil, IsTup.new _ _⟩, rfl, q _ _ (same_new (I.hok.fresh (Nat.le_refl _)) _) ?_⟩
      rw [show k.toNat = 0 by omega]
      exact SqT.of upd_same
    · have ln := r1.length
      have hlen : its.toArray.size * k.toNat ≤ sizeLine := by rw [List.size_toArray, ← ln]; exact hz
      have hk : ((its.toArray.size : Int) * k) = ((its.toArray.size * k.toNat : Nat) : Int) := by rw [Int.natCast_mul, Int.toNat_of_nonneg (by omega)]
      have c3 : ¬ ((its.toArray.size : Int) * k) > (2 ^ 63 - 1) / 8 := by
        rw [hk]
        have : (sizeLine : Nat) ≤ (2 ^ 63 - 1) / 8 := by decide
        omega
      have c4 : ¬ Builtin.Tuple.tupleTooMany ((its.toArray.size : Int) * k) = true := by
        unfold Builtin.Tuple.tupleTooMany
        rw [hk]
        intro z
        have := of_decide_eq_true z
        omega
      have c2 : ¬ (k ≤ 0 || its.toArray.isEmpty) = true := by rw [hie]; simpa using k0
      have f0 := foldl_rep its k.toNat []
      rw [List.nil_append] at f0
      have f1 : List.foldl (fun x1 x2 => x1 ++ x2) #[] (List.replicate k.toNat its.toArray) = (List.replicate k.toNat its).flatten.toArray := f0
      refine call_meets F.slot_tuple_mul ⟨_, ho, rfl⟩ F.entry_tuple_mul (F.args_tuple_mul_2 _ _) (tuple_mulW2 a its.toArray n dd sl k t h0 c1 c2 c3 c4 (by rw [f1, List.size_toArray, len_rep, Nat.mul_comm, ← ln]; exact hz)) ⟨ho, ?_⟩
      rw [f1]
      exact ⟨.ref s.heap.objs.size, _, I.laid (t' := s.toks) (o := .tup (List.replicate k.toNat xs).flatten) (fun b ob q => Heap.get?_push_of_some _ q) (Nat.le_refl _) ⟨by rw [len_rep, Nat.mul_comm]; exact hz, _, r1.rep k.toNat, IsTup.new _ _⟩, rfl, q _ _ (same_new (I.hok.fresh (Nat.le_refl _)) _) (SqT.of upd_same)⟩
end
end L2
namespace L2
open PySem PySem.Spec PyProof.Rows
section
variable {prog : Program} {w : World} {A : Around} {E : Value → Shared → Prop}
abbrev EnRec (fs : Array Value) : Obj := { cls := .type "enumerate", dict := none, data := .fields fs, slots := #[] }
theorem en_set {h : Heap} {g : Array GenState} {d : Drawn} {tk : Nat} {os : OsState} {e : Addr} {fs : Array Value} {k : Nat} {v : Value} {α : Type} {f : Unit → Sem α} {Q : α → Shared → Prop} (he : h.get? e = some (EnRec fs)) (hk : k < fs.size)
    (q : ∀ h', h'.get? e = some (EnRec (fs.set! k v)) → Heap.SameBut e h h' → wpAny (model prog w) A (f ()) Q E ⟨h', g, d, tk, os⟩) : wpAny (model prog w) A (setField (.ref e) k v >>= f) Q E ⟨h, g, d, tk, os⟩ :=
  wpAny_bind (wpAny_setField_rec he hk fun h' he' hs' => q h' he' hs')
theorem en_next {s : Shared} {e it l : Addr} {i : Nat} {c : Int} {items : Array Value} {x old : Value} {Q : Option Value → Shared → Prop} (he : IsEnum s.heap e it c old) (hit : s.heap.IsListIter it l i) (hl : s.heap.IsList l items) (hx : items[i]? = some x) (hne : e ≠ it)
    (hQ : ∀ h', IsEnumOut h' e it (c + 1) x s.heap.objs.size → h'.IsListIter it l (i + 1) → h'.get? s.heap.objs.size = some { cls := .type "tuple", data := .seq #[.int c s.toks, x] } → h'.objs.size = s.heap.objs.size + 1 →
      (∀ b o, b ≠ e → b ≠ it → s.heap.get? b = some o → h'.get? b = some o) → Q (some (.ref s.heap.objs.size)) { s with heap := h', toks := s.toks + 1 }) : wpAny (model prog w) A (pyNext (.ref e)) Q E s := by
  have hT : s.TypeIs (.ref e) "enumerate" := ⟨_, he, rfl⟩
  unfold pyNext
  refine wpAny_bind (wpAny_attempt (wpAny_callSpecial?_slot (name := Str.ofString "__next__") hT F.slot_enumerate_next (wpAny_call_entry F.slot_enumerate_next hT F.entry_enumerate_next ?_ (F.args_enumerate_next_1 _))))
  obtain ⟨hp, g, d, tk, os⟩ := s
  have he0 : hp.get? e = some (EnRec #[.none, .bool false, .ref it, rawInt c, .none, old]) := he
  have ne' : it ≠ e := Ne.symm hne
  have lt : e < hp.objs.size := Heap.lt_size he0
  show wpAny _ _ (field (.ref e) 2 >>= _) _ _ _
  refine wpAny_bind (wpAny_field he0 rfl (x := .ref it) rfl (wpAny_bind (wpAny_nextOf_list_item hit hl hx fun h1 it1 (s1 : Heap.SameBut it hp h1) => ?_)))
  have e1 := (s1.2 e hne).trans he0
  show wpAny _ _ (field (.ref e) 3 >>= _) _ _ ⟨h1, g, d, tk, os⟩
  refine wpAny_bind (wpAny_field e1 rfl (x := rawInt c) rfl ?_)
  show wpAny _ _ (field (.ref e) 4 >>= _) _ _ ⟨h1, g, d, tk, os⟩
  refine wpAny_bind (wpAny_field e1 rfl (x := .none) rfl ?_)
  show wpAny _ _ (mkInt c >>= _) _ _ ⟨h1, g, d, tk, os⟩
  refine wpAny_bind (wpAny_mkInt ?_)
  show wpAny _ _ (setField (.ref e) 3 (rawInt (c + 1)) >>= _) _ _ ⟨h1, g, d, tk + 1, os⟩
  refine en_set e1 (by simp) fun h2 e2 s2 => en_set e2 (by simp) fun h3 e3 s3 => wpAny_bind (wpAny_newTuple ?_)
  have z3 : h3.objs.size = hp.objs.size := by rw [s3.1, s2.1, s1.1]
  obtain ⟨h4, e4⟩ : ∃ h4, h4 = h3.push { cls := .type "tuple", data := .seq #[.int c tk, x] } := ⟨_, rfl⟩
  have k4 : ∀ b o, h3.get? b = some o → h4.get? b = some o := fun b o q => by rw [e4]; exact Heap.get?_push_of_some _ q
  have t4 : h4.get? hp.objs.size = some { cls := .type "tuple", data := .seq #[.int c tk, x] } := by rw [e4, ← z3]; exact Heap.get?_push_size _ rfl
  have z4 : h4.objs.size = hp.objs.size + 1 := by rw [e4, Heap.size_push, z3]
  have r4 := k4 _ _ e3
  have i4 : h4.IsListIter it l (i + 1) := ((it1.extBut s2.extBut ne').extBut s3.extBut ne').at fun o q => k4 _ o q
  show wpAny (model prog w) _ (Builtin.SmallTypes.ownedTupleIsFree (.ref e) >>= _) _ _ ⟨h3.push { cls := .type "tuple", data := .seq #[.int c tk, x] }, g, d, tk + 1, os⟩
  rw [← e4, z3]
  unfold Builtin.SmallTypes.ownedTupleIsFree
  refine wpAny_bind (wpAny_bind (wpAny_field r4 rfl (x := .none) rfl (wpAny_pure ?_)))
  simp only [if_true]
  refine wpAny_bind (wpAny_rule (wpAny_bind (wpAny_field r4 rfl (x := old) rfl (en_set r4 (by simp) fun h5 e5 s5 => ?_))))
  unfold Builtin.SmallTypes.ownedTupleHandOut
  refine wpAny_bind (en_set e5 (by simp) fun h6 e6 s6 => wpAny_setField_rec e6 (by simp) fun h7 e7 s7 => wpAny_bind (wpAny_letGo (wpAny_pure ⟨_, rfl, wpAny_pure (hQ h7 e7 ?_ ?_ ?_ ?_)⟩)))
  · exact ((i4.extBut s5.extBut ne').extBut s6.extBut ne').extBut s7.extBut ne'
  · have n := Nat.ne_of_gt lt
    exact s7.extBut _ _ n (s6.extBut _ _ n (s5.extBut _ _ n t4))
  · rw [s7.1, s6.1, s5.1, z4]
  · exact fun b o n1 n2 q => s7.extBut b o n1 (s6.extBut b o n1 (s5.extBut b o n1 (k4 b o (s3.extBut b o n1 (s2.extBut b o n1 (s1.extBut b o n2 q))))))
end
open AutoSeq1 (wpAny_loadPart')
theorem en_new (l : Addr) (items : Array Value) (n : Nat) (dct : Option Addr) (sl : Array (Option Value)) (t : Tok) :
    Meets (Builtin.«enumerate.__new__» ⟨[.type "enumerate", .ref l], [("start", .int 1 t)]⟩) (fun _ R s => s.heap.get? l = some { cls := .type "list", dict := dct, data := .seq items n, slots := sl } ∧
      R (.ok (.ret (.ref (s.heap.push { cls := .type "list_iterator", data := .fields #[.ref l, .int 0 0] }).objs.size)))
        { s with heap := (s.heap.push { cls := .type "list_iterator", data := .fields #[.ref l, .int 0 0] }).push (EnRec #[.none, .bool false, .ref s.heap.objs.size, rawInt 1, .none, .none]) }) :=
  .of_wp fun prog w A R s h => by
    obtain ⟨hp, g, d, tk, os⟩ := s; obtain ⟨hl, h⟩ := h
    have hsub := sub_enumerate
    have f1 := AutoSeq1.idx_int
    have hL : Heap.IsList (Shared.heap ⟨hp, g, d, tk, os⟩) l items := ⟨_, hl, rfl, n, rfl⟩
    wp_walk using wpAny_loadPart' hl
    refine wpAny_stack_any fun st => wpAny_pure ?_
    split
    · rename_i c _ _ _ _ _
      cases (c == Value.type "enumerate")
      · wp_walk using wpAny_loadPart' hl, wpAny_pyIter_list hL
        exact ⟨_, rfl, h⟩
      · wp_walk using wpAny_loadPart' hl, wpAny_pyIter_list hL
        exact ⟨_, rfl, h⟩
    · wp_walk using wpAny_loadPart' hl, wpAny_pyIter_list hL
      exact ⟨_, rfl, h⟩
theorem init_kw {T newId : String} {self x y : Value} {k : Str} (hl : typeLookup (.type T) "__init__" = pure (some (.builtin "object.__init__"))) (hm : Bind.madeBy (.type T) = pure (some newId)) (hne : (some newId != some "object.__new__") = true) :
    Meets (Builtin.«object.__init__» ⟨[self, x], [(k, y)]⟩) (fun _ R s => s.TypeIs self T ∧ R (.ok (.ret .none)) s) := by
  refine Meets.of_wp fun prog w A R s hs => ?_
  obtain ⟨hT, hq⟩ := hs
  repeat (any_goals (first | assumption | wp_step))
  exact ⟨_, rfl, hq⟩
section
variable {prog : Program} {w : World} {A : Around} {E : Value → Shared → Prop} {s : Shared}
theorem init_args (a b c : Value) : argsOk "object.__init__" ⟨[a, b], [("start", c)]⟩ := by
  unfold argsOk; rw [signature?_of (id := "object.__init__") (n := ['_', '_', 't', 'i', 'n', 'i', '_', '_']) (o := ['t', 'c', 'e', 'j', 'b', 'o']) (by kernel_rfl) F.owner_object]; kernel_rfl
theorem en_check1 (a : Value) (c : Value) : checkTypeCall "enumerate" ⟨[a], [("start", c)]⟩ = pure () := by kernel_rfl
theorem en_check2 (a : Value) (c : Value) : checkBuiltinCall "enumerate.__new__" ⟨[.type "enumerate", a], [("start", c)]⟩ = pure () := by kernel_rfl
theorem type_kw {T newId initId : String} {Bn Bi : Builtin} {args : List Value} {kw : List (Str × Value)} {S : PySem.Spec} {Q Q1 : Value → Shared → Prop} (ft : TypeCalled T newId initId) (ct : checkTypeCall T ⟨args, kw⟩ = pure ()) (cn : checkBuiltinCall newId ⟨.type T :: args, kw⟩ = pure ())
    (eN : entryFor table newId = some Bn) (eI : entryFor table initId = some Bi) (g : Meets (Bn ⟨.type T :: args, kw⟩) S) (h : S A.in1 (wants Q1 E) s)
    (nx : ∀ obj s1, Q1 obj s1 → s1.TypeIs obj T ∧ argsOk initId ⟨obj :: args, kw⟩ ∧ ∃ Si, Meets (Bi ⟨obj :: args, kw⟩) Si ∧ Si A.in1 (wants (fun r s2 => r = .none ∧ Q obj s2) E) s1) : wpAny (model prog w) A (call (.type T) args kw) Q E s := by
  obtain ⟨c, tl, hmro⟩ := ft.mro
  have a1 := ft.made
  have a2 := ft.sub
  have a3 := ft.notType
  have a4 := ft.canCreate
  refine wpAny_call (codeAny_of_tree ?_)
  show wpAny _ _ (callAny (.type T) _) _ _ _
  refine wpAny_pure ⟨Code.quiet_builtin _ (by decide +kernel), codeAny_builtin F.entry_type_call ?_⟩
  rw [Around.under_plain (weight_type_call_type T args kw) (units_type_call_type T args kw)]
  repeat (any_goals (first | assumption | wp_step))
  refine codeAny_mono (codeAny_call_builtin ft.plain eN (wpAny_of_eq cn (g prog w A.in1 _ s h))) fun r s1 hr => ?_
  rcases r with e | fl
  · exact hr
  · cases fl with
    | ret obj =>
      obtain ⟨hT, hok, Si, gi, hsi⟩ := nx _ _ hr
      have b1 := ft.init.lookup
      have b2 := ft.init.bind obj
      repeat (any_goals (first | assumption | wp_step))
      refine codeAny_mono (codeAny_call_builtin ft.init.plain eI (ft.init.check _ _ _ _ _ _ _ _ hT hok (gi prog w A.in1 _ s1 hsi))) fun r2 s2 hr2 => ?_
      rcases r2 with e | fl2
      · exact hr2
      · cases fl2 with
        | ret r =>
          obtain ⟨rfl, hq⟩ := hr2
          repeat (any_goals (first | assumption | wp_step))
        | _ => exact hr2.elim
    | _ => exact hr.elim
theorem en_made {l : Addr} {items : Array Value} {t : Tok} {Q : Value → Shared → Prop} (hL : s.heap.IsList l items)
    (h : ∀ h', IsEnum h' (s.heap.objs.size + 1) s.heap.objs.size 1 .none → h'.IsListIter s.heap.objs.size l 0 → (∀ b o, s.heap.get? b = some o → h'.get? b = some o) → Q (.ref (s.heap.objs.size + 1)) { s with heap := h' }) :
    wpAny (model prog w) A (call (.type "enumerate") [.ref l] [("start", .int 1 t)]) Q E s := by
  obtain ⟨⟨c, dct, dt, sl⟩, hl, hc, n, hd⟩ := hL
  replace hc : c = .type "list" := hc
  replace hd : dt = .seq items n := hd
  subst hc hd
  have z : (s.heap.push { cls := .type "list_iterator", data := .fields #[.ref l, .int 0 0] }).objs.size = s.heap.objs.size + 1 := Heap.size_push ..
  refine type_kw (Q1 := fun obj s1 => s1.TypeIs obj "enumerate" ∧ Q obj s1) F.called_enumerate (en_check1 _ _) (en_check2 _ _) F.entry_enumerate_new F.entry_object_init (en_new l items n dct sl t) ⟨hl, ?_⟩ fun obj s1 hq => ⟨hq.1, init_args _ _ _, _, init_kw F.called_enumerate.init.lookup F.called_enumerate.made (by decide), hq.1, rfl, hq.2⟩
  have e : IsEnum ((s.heap.push { cls := .type "list_iterator", data := .fields #[.ref l, .int 0 0] }).push (EnRec #[.none, .bool false, .ref s.heap.objs.size, rawInt 1, .none, .none])) (s.heap.objs.size + 1) s.heap.objs.size 1 .none := by
    rw [← z]; exact Heap.get?_push_size _ rfl
  show _ ∧ _
  rw [z]
  exact ⟨⟨_, e, rfl⟩, h _ e ⟨_, Heap.get?_push_of_some _ (Heap.get?_push_size _ rfl), rfl, rfl⟩ fun b o q => Heap.get?_push_of_some _ (Heap.get?_push_of_some _ q)⟩
end
end L2
namespace L2
open PySem PySem.Spec PyProof.Rows
section
variable {prog : Program} {w : World} {A : Around} {E : Value → Shared → Prop} {s : Shared}
theorem en_end {e it l : Addr} {i : Nat} {c : Int} {items : Array Value} {old : Value} {Q : Option Value → Shared → Prop} (hh : A.handled = none) (he : IsEnum s.heap e it c old) (hit : s.heap.IsListIter it l i) (hl : s.heap.IsList l items) (hx : items[i]? = none)
    (hQ : ∀ h', Heap.ExtBut it s.heap h' → Q none { s with heap := h' }) : wpAny (model prog w) A (pyNext (.ref e)) Q E s := by
  have hT : s.TypeIs (.ref e) "enumerate" := ⟨_, he, rfl⟩
  unfold pyNext
  refine wpAny_bind (wpAny_attempt (wpAny_callSpecial?_slot (name := Str.ofString "__next__") hT F.slot_enumerate_next (wpAny_call_entry F.slot_enumerate_next hT F.entry_enumerate_next ?_ (F.args_enumerate_next_1 _))))
  show wpAny _ _ (field (.ref e) 2 >>= _) _ _ _
  refine wpAny_bind (wpAny_field he rfl (x := .ref it) rfl (wpAny_bind (wpAny_nextOf_list_end hh hit hl hx fun h' x g ⟨o, ho, hc⟩ => ?_)))
  exact wpAny_bind (wpAny_isInstance (T := "StopIteration") (b := true) ⟨o, ho, hc⟩ isSubtype_stop (wpAny_pure (hQ _ g)))
end
section
variable {M : Model} {A : Around} {E : Value → Shared → Prop} {s : Shared} {env : Env}
theorem callWith_tkw {pos : Pos} {T : String} {e : Expr} {kws : List Keyword} {Q : Value → Shared → Prop}
    (h : wpAny M A (spliced (backTo pos (starEach [e] env))) (fun vs s1 => wpAny M A (evalAll ((backToKw pos (keywordEach kws env)).map (·.2))) (fun ks s2 => wpAny M A (call (.type T) vs (((backToKw pos (keywordEach kws env)).filterMap (·.1)).zip ks)) Q E s2) E s1) E s)
    (he : starEach [e] env = [(false, eval e env)] := by rfl) (hall : (backToKw pos (keywordEach kws env)).all (·.1.isSome) = true := by rfl) (hkw : (backToKw pos (keywordEach kws env)).any (·.1.isNone) = false := by rfl) :
    wpAny M A (callWith pos (.type T) [] (backTo pos (starEach [e] env)) (backToKw pos (keywordEach kws env))) Q E s := by
  rw [he] at h ⊢
  unfold callWith
  refine wpAny_bind (wpAny_holding (wpAny_mono (evalArgs_kwB (Q := fun a s1 => wpAny M A (call (.type T) a.pos a.kw) Q E s1) hall h) (fun a s1 h1 => wpAny_bind (wpAny_standAt ?_)) fun _ _ x => x))
  have hp : (backTo pos [(false, eval e env)]).any (·.1) = false := rfl
  simp only [hp, hkw, Bool.or_false]
  refine wpAny_bind (wpAny_pure ?_)
  exact wpAny_bind (wpAny_mono h1 (fun r s2 hr => wpAny_bind (wpAny_holding (wpAny_point (wpAny_pure hr)))) fun _ _ x => x)
end
def Ite1 (K : PySem.W.Frag) (a : Addr) : It :=
  ⟨fun i H => ∃ xs x, SqL K H a xs ∧ xs[i]? = some x, fun i H v H' => ∃ p x, v = .ref p ∧ H p = none ∧ Same H H' ∧ H' p = some (.tup [.int ((i : Int) + 1), x]) ∧ ∀ xs, SqL K H a xs → xs[i]? = some x, fun i H => ∃ xs, SqL K H a xs ∧ xs.length ≤ i⟩
theorem turn_enum1 {P : Program} {w : World} {K : PySem.W.Frag} {elts : List Expr} {kk : Nat} {tpos : Pos} (a e it : Addr) (hne : e ≠ it) :
    Turn P w K (.Tuple elts kk tpos) (Ite1 K a) [e, it] e (fun i h => (∃ old, IsEnum h e it ((i : Int) + 1) old) ∧ h.IsListIter it a i) where
  mem := by simp
  obj := fun i h st b hb => by
    obtain ⟨⟨old, he⟩, o, ho, c, d⟩ := st
    rcases List.mem_cons.mp hb with rfl | hb
    · exact ⟨_, he, fun v z => by
        have z' : Data.fields _ = Data.cell v := z
        cases z'⟩
    · obtain rfl := List.mem_singleton.mp hb
      exact ⟨o, ho, fun v z => by rw [d] at z; cases z⟩
  keep := fun i h h' ⟨⟨old, he⟩, hit⟩ k => ⟨⟨old, k e (by simp) _ he⟩, hit.at fun o q => k it (by simp) o q⟩
  item := by
    intro X hP hw hK hc i pins s σ H E I hf st hg
    subst hP hw hK
    obtain ⟨xs, x, hq, hx⟩ := hg
    obtain ⟨⟨old, he⟩, hit⟩ := st
    obtain ⟨its, rv, p, hz⟩ := I.list hq
    obtain ⟨u, hu, ru⟩ := rv.get hx
    refine en_next he hit p.isList (x := u) (by simpa using hu) hne fun h' ho hit' hT hsz hk => ?_
    refine ⟨_, rfl, wpAny_letOwnedTupleGo_enum ho fun h'' he'' hs => ?_⟩
    have helt : e < s.heap.objs.size := Heap.lt_size he
    have hilt : it < s.heap.objs.size := by obtain ⟨_, q, _⟩ := hit; exact Heap.lt_size q
    have I1 : Inv X pins σ (upd H s.heap.objs.size (.tup [.int ((i : Int) + 1), x])) { s with heap := s.heap.push { cls := .type "tuple", data := .seq #[.int ((i : Int) + 1) s.toks, u] }, toks := s.toks + 1 } :=
      I.laid (fun b o q => Heap.get?_push_of_some _ q) (Nat.le_refl _) ⟨by show 2 ≤ sizeLine; decide, [.int ((i : Int) + 1) s.toks, u], .cons ⟨_, rfl⟩ (.cons ru .nil), ⟨_, Heap.get?_push_size _ rfl, rfl, _, rfl⟩⟩
    have hf' : ∀ b ∈ [e, it], FpOk X pins (upd H s.heap.objs.size (.tup [.int ((i : Int) + 1), x])) b := fun b hb => by
      have lt : b < s.heap.objs.size := by
        rcases List.mem_cons.mp hb with rfl | hb
        · exact helt
        · obtain rfl := List.mem_singleton.mp hb
          exact hilt
      refine ⟨?_, (hf b hb).2⟩
      rw [upd_ne (Nat.ne_of_lt lt)]
      exact (hf b hb).1
    have I2 : Inv X pins σ (upd H s.heap.objs.size (.tup [.int ((i : Int) + 1), x])) { s with heap := h'', toks := s.toks + 1 } := I1.turnedL (t' := s.toks + 1) (fun b o hb q => by
      have n1 : b ≠ e := fun z => hb (by simp [z])
      have n2 : b ≠ it := fun z => hb (by simp [z])
      refine (hs.2 b n1).trans ?_
      by_cases hbT : b = s.heap.objs.size
      · subst hbT
        have q' : (s.heap.push { cls := .type "tuple", data := .seq #[.int ((i : Int) + 1) s.toks, u] }).get? s.heap.objs.size = some o := q
        rw [Heap.get?_push_size _ rfl] at q'
        cases q'
        exact hT
      · have q' : (s.heap.push { cls := .type "tuple", data := .seq #[.int ((i : Int) + 1) s.toks, u] }).get? b = some o := q
        rw [Heap.get?_push_ne _ _ _ hbT] at q'
        exact hk b o n1 n2 q') hf'
    refine ⟨.ref s.heap.objs.size, _, I2, rfl, ⟨_, x, rfl, I.hok.fresh (Nat.le_refl _), same_new (I.hok.fresh (Nat.le_refl _)) _, upd_same, fun ys hy => by rw [I.list_inj hy hq]; exact hx⟩, ⟨⟨_, by simpa using he''⟩, ?_⟩, fun b hb => (hf' b hb).1⟩
    exact hit'.at fun o q => (hs.2 it hne.symm).trans q
  done := by
    intro X hP hw hK hc i pins s σ H E I hf st hg
    subst hP hw hK
    obtain ⟨xs, hq, hx⟩ := hg
    obtain ⟨⟨old, he⟩, hit⟩ := st
    obtain ⟨its, rv, p, hz⟩ := I.list hq
    obtain ⟨f0, f1, f2, f3, f4, f5⟩ := hf it (by simp)
    have hl := rv.length
    exact en_end (I.ok.hd hc) he hit p.isList (by simp; omega) fun h' eb => ⟨rfl, I.turned (t' := s.toks) (fun b o hb e => eb b o hb e) f0 f1 f3 f4 f5⟩
  self := fun _ _ _ _ _ st h => by
    obtain ⟨⟨old, he⟩, _⟩ := st
    exact wpAny_pyIter_enum he h
def iEnum1 (K : PySem.W.Frag) (ta : TA) : TI := fun σ H R => ta σ H fun vs H1 => ∃ a, vs = [.ref a] ∧ (∃ xs, SqL K H1 a xs) ∧ R (Ite1 K a) H1
theorem pi_enum1 {X : Cx} {a e1 : Expr} {ta : TA} {p pos tpos kp : Pos} {elts : List Expr} {kk : Nat} (hg : Gl X "enumerate") (hm : X.mg "enumerate" = none) (ha : PA X [a] ta) (h1 : PE X e1 (tC (.int 1))) (hs : starEach [a] X.env = [(false, eval a X.env)] := by rfl) :
    PI X (.Tuple elts kk tpos) (.Call (.Name "enumerate" p) [a] [⟨some "start", e1, kp⟩] pos) (iEnum1 X.K ta) := by
  intro pins s σ H R I h
  show wpAny _ _ (do callWith pos (← eval (.Name "enumerate" p) X.env) [] (backTo pos (starEach [a] X.env)) (backToKw pos (keywordEach [⟨some "start", e1, kp⟩] X.env))) _ _ _
  refine wpAny_bind (ld_blt I hg hm (show bootBuiltins "enumerate" = some (.type "enumerate") by decide +kernel) (callWith_tkw (thn (ha pos pins s σ H _ I h) fun us s1 ⟨vs, H1, I1, r1, q1⟩ => ?_) hs))
  refine kws_cons (thn (h1 pins s1 σ H1 (fun v H2 => v = .int 1 ∧ H2 = H1) I1 ⟨rfl, rfl⟩) fun u s2 ⟨v, H2, I2, r2, e2, e3⟩ => kws_nil ?_)
  subst e2 e3
  obtain ⟨t, rfl⟩ := r2
  obtain ⟨l, e, ⟨xs, hq⟩, q⟩ := q1
  subst e
  cases r1 with
  | cons r rr =>
    cases rr
    cases r
    obtain ⟨its, rv, pl, hz⟩ := I2.list hq
    refine en_made pl.isList fun h' hE hI hk => ?_
    refine wpAny_pyIter_enum hE ⟨s2.heap.objs.size + 1, [s2.heap.objs.size + 1, s2.heap.objs.size], _, _, H2, rfl, I2.kept (t' := s2.toks) hk, turn_enum1 l _ _ (Nat.succ_ne_self _), ⟨⟨_, by simpa using hE⟩, hI⟩, fun b hb => ?_, q⟩
    have le : s2.heap.objs.size ≤ b := by
      rcases List.mem_cons.mp hb with rfl | hb
      · omega
      · obtain rfl := List.mem_singleton.mp hb
        omega
    exact I2.fpOk le (I2.hok.fresh le)
theorem for_enum1 {K : PySem.W.Frag} {g : TG} {tb : TS} {D : Ends} {σ : St} {H1 : Hp} {a : Addr} (xs : List V) (Pv : Nat → St → Hp → Prop) (h0 : Pv 0 σ H1)
    (hl : ∀ i σ H, i ≤ xs.length → Pv i σ H → SqL K H a xs)
    (hs : ∀ i x σ H p H', xs[i]? = some x → Pv i σ H → H p = none → Same H H' → H' p = some (.tup [.int ((i : Int) + 1), x]) → g (.ref p) σ H' fun σ2 H2 => tb { D with nx := Pv (i + 1), ct := Pv (i + 1), bk := D.nx } σ2 H2)
    (hd : ∀ σ H, Pv xs.length σ H → D.nx σ H) : ∃ W : Nat → Nat → St → Hp → Prop, (∃ m, W 0 m σ H1) ∧ ∀ i m σ H, W i m σ H →
      ((Ite1 K a).stop i H ∧ D.nx σ H) ∨ ((Ite1 K a).go i H ∧ ∃ N : St → Hp → Prop, (∀ σ' H', N σ' H' → ∃ m', m' < m ∧ W (i + 1) m' σ' H') ∧ ∀ x H', (Ite1 K a).yld i H x H' → g x σ H' fun σ2 H2 => tb { D with nx := N, ct := N, bk := D.nx } σ2 H2) := by
  refine ⟨fun i m σ H => m = xs.length - i ∧ i ≤ xs.length ∧ Pv i σ H, ⟨xs.length, by simp, Nat.zero_le _, h0⟩, ?_⟩
  rintro i m σ H ⟨rfl, hi, p⟩
  have q := hl i σ H hi p
  by_cases hlt : i < xs.length
  · refine .inr ⟨⟨xs, xs[i], q, List.getElem?_eq_getElem hlt⟩, Pv (i + 1), fun σ' H' p' => ⟨xs.length - (i + 1), by omega, rfl, hlt, p'⟩, fun v H' y => ?_⟩
    obtain ⟨pp, x, rfl, hn, sm, hp, hx⟩ := y
    exact hs i x σ H pp H' (hx xs q) p hn sm hp
  · have e : i = xs.length := by omega
    subst e
    exact .inl ⟨⟨xs, q, Nat.le_refl _⟩, hd σ H p⟩
end L2
namespace L2
open PySem PySem.Spec PyProof.Rows
section
variable {prog : Program} {w : World} {A : Around} {E : Value → Shared → Prop} {s : Shared}
theorem type_code {T newId initId : String} {args : List Value} {kw : List (Str × Value)} {Q Q1 : Value → Shared → Prop} (ft : TypeCalled T newId initId) (ct : checkTypeCall T ⟨args, kw⟩ = pure ())
    (hN : codeAny (model prog w) A.in1 (.call (.builtin newId) ⟨.type T :: args, kw⟩) (wants Q1 E) s)
    (hI : ∀ obj s1, Q1 obj s1 → s1.TypeIs obj T ∧ codeAny (model prog w) A.in1 (.call (.builtin initId) ⟨obj :: args, kw⟩) (wants (fun r s2 => r = .none ∧ Q obj s2) E) s1) : wpAny (model prog w) A (call (.type T) args kw) Q E s := by
  obtain ⟨c, tl, hmro⟩ := ft.mro
  have a1 := ft.made
  have a2 := ft.sub
  have a3 := ft.notType
  have a4 := ft.canCreate
  refine wpAny_call (codeAny_of_tree ?_)
  show wpAny _ _ (callAny (.type T) _) _ _ _
  refine wpAny_pure ⟨Code.quiet_builtin _ (by decide +kernel), codeAny_builtin F.entry_type_call ?_⟩
  rw [Around.under_plain (weight_type_call_type T args kw) (units_type_call_type T args kw)]
  repeat (any_goals (first | assumption | wp_step))
  refine codeAny_mono hN fun r s1 hr => ?_
  rcases r with e | fl
  · exact hr
  · cases fl with
    | ret obj =>
      obtain ⟨hT, hi⟩ := hI _ _ hr
      have b1 := ft.init.lookup
      have b2 := ft.init.bind obj
      repeat (any_goals (first | assumption | wp_step))
      refine codeAny_mono hi fun r2 s2 hr2 => ?_
      rcases r2 with e | fl2
      · exact hr2
      · cases fl2 with
        | ret r =>
          obtain ⟨rfl, hq⟩ := hr2
          repeat (any_goals (first | assumption | wp_step))
        | _ => exact hr2.elim
    | _ => exact hr.elim
end
def met {K : Type} [DecidableEq K] (val : Nat → K) : Nat → K → Bool
  | 0, _ => false
  | i + 1, k => met val i k || decide (k = val i)
def nMet {K : Type} [DecidableEq K] (val : Nat → K) : Nat → Nat
  | 0 => 0
  | i + 1 => if met val i (val i) then nMet val i else nMet val i + 1
theorem nMet_le {K : Type} [DecidableEq K] (val : Nat → K) (i : Nat) : nMet val i ≤ i := by
  induction i with
  | zero => exact Nat.le_refl _
  | succ i ih => unfold nMet; split <;> omega
theorem met_iff {K : Type} [DecidableEq K] (val : Nat → K) (i : Nat) (k : K) : met val i k = true ↔ ∃ j < i, val j = k := by
  induction i with
  | zero => simp [met]
  | succ i ih =>
    unfold met
    rw [Bool.or_eq_true, ih, decide_eq_true_eq]
    constructor
    · rintro (⟨j, h, e⟩ | e)
      · exact ⟨j, by omega, e⟩
      · exact ⟨i, by omega, e.symm⟩
    · rintro ⟨j, h, e⟩
      by_cases c : j = i
      · subst c; exact .inr e.symm
      · exact .inl ⟨j, by omega, e⟩
theorem nMet_eq {K : Type} [DecidableEq K] (val : Nat → K) (n : Nat) : nMet val n = n ↔ ∀ i < n, ∀ j < i, val j ≠ val i := by
  induction n with
  | zero => simp [nMet]
  | succ n ih =>
    have le := nMet_le val n
    unfold nMet
    constructor
    · intro h
      split at h
      · omega
      · rename_i c
        have e : nMet val n = n := by omega
        intro i hi j hj
        by_cases ci : i = n
        · subst ci
          intro z
          exact c ((met_iff val i (val i)).mpr ⟨j, hj, z⟩)
        · exact ih.mp e i (by omega) j hj
    · intro h
      have e := ih.mpr fun i hi j hj => h i (by omega) j hj
      rw [if_neg, e]
      intro z
      obtain ⟨j, hj, z⟩ := (met_iff val n (val n)).mp z
      exact h n (by omega) j hj z
section
variable {prog : Program} {w : World} {A : Around} {R : Result → Shared → Prop} {I : Addr} {fp wr : List Addr} {G : Array GenState → Array GenState → Prop} {n : Nat} {P : Nat → Value → Prop} {St : Nat → Shared → Prop} {K : Type} [DecidableEq K] {knd : PySem.KeyKind prog w K}
theorem set_stay {h h' : Heap} {a : Addr} {S : K → Bool} {m : Nat} (hS : h.SetOf knd a S m) (k : ∀ o, h.get? a = some o → h'.get? a = some o) : h'.SetOf knd a S m := by
  obtain ⟨o, es, ep, t, ho, rest⟩ := hS
  exact ⟨o, es, ep, t, k _ ho, rest⟩
theorem set_loop (W : WalksS prog w A.in1 I fp wr G n P St) (S : Addr) (hSf : S ∉ fp) (val : Nat → K) (hval : ∀ i v, P i v → knd.is (val i) v = true ∧ v.scannable = true) (hb : n + 1 < scanBound) :
    ∀ (k i : Nat) (s : Shared), i + k = n → St i s → s.heap.SetOf knd S (met val i) (nMet val i) →
      (∀ s', Moved (S :: wr) G s s' → s'.heap.SetOf knd S (met val n) (nMet val n) → R (.ok (.ret .none)) s') → codeAny (model prog w) A (.builtin "set.update.loop" ⟨[.ref S, .ref I], []⟩) R s := by
  have hSw : S ∉ wr := fun h => hSf (W.sub _ h)
  have up : ∀ b ∈ wr, b ∈ S :: wr := fun b hb => List.mem_cons_of_mem _ hb
  intro k
  induction k with
  | zero =>
    intro i s hk st hS hR
    obtain rfl : i = n := hk
    refine codeAny_builtin PyProof.Rows.F.entry_set_update_loop ?_
    rw [Around.under_plainId PyProof.Rows.F.plain_set_update_loop _]
    show wpAny _ A.in1 (pyNext (.ref I) >>= _) _ _ s
    exact wpAny_bind (W.done s _ _ st fun s' hm => wpAny_pure (hR s' (hm.mono up) (set_stay hS fun o e => hm.heap S o hSw e)))
  | succ k ih =>
    intro i s hk st hS hR
    refine codeAny_builtin PyProof.Rows.F.entry_set_update_loop ?_
    rw [Around.under_plainId PyProof.Rows.F.plain_set_update_loop _]
    show wpAny _ A.in1 (pyNext (.ref I) >>= _) _ _ s
    refine wpAny_bind (W.item i s _ _ (by omega) st fun v s1 hP st1 hm => ?_)
    obtain ⟨kv, sc⟩ := hval i v hP
    have hS1 := set_stay (h' := s1.heap) hS fun o e => hm.heap S o hSw e
    show wpAny _ A.in1 (holding [v] (setAdd S v) >>= _) _ _ s1
    unfold setAdd
    refine wpAny_bind (wpAny_holding (wpAny_holding (wpAny_bind (knd.pyHash kv ?_))))
    have room : nMet val i + 1 < scanBound := by have := nMet_le val i; omega
    refine wpAny_setAddHashed_of (s := { s1 with toks := s1.toks + 1 }) kv sc hS1 room fun h' sb hS2 => ?_
    refine wpAny_pure ⟨plainId_quiet PyProof.Rows.F.plain_set_update_loop _, ih (i + 1) _ (by omega) (W.frame _ s1 _ _ st1 (Nat.le_succ _) fun b hb o e => ?_) hS2 fun s2 hm2 hS3 => ?_⟩
    · rw [sb.2 b (fun z : b = S => hSf (by rw [← z]; exact hb))]; exact e
    · refine hR s2 (Moved.trans W.gtrans ((hm.mono up).then_heap (Nat.le_succ _) fun b o hb e => ?_) hm2) hS3
      rw [sb.2 b (fun z : b = S => hb (by rw [z]; exact List.mem_cons_self))]; exact e
end
section
variable {prog : Program} {w : World} {A : Around} {E : Value → Shared → Prop} {s : Shared} {K : Type} [DecidableEq K] {knd : PySem.KeyKind prog w K}
abbrev setNew (led : Bool) : Obj := { cls := .type "set", dict := none, data := .set #[] 0 (.fresh 0 0 led) }
theorem set_made {l : Addr} {items : Array Value} {val : Nat → K} {Q : Value → Shared → Prop} (hh : A.handled = none) (hl : s.heap.IsList l items) (hval : ∀ i v, items[i]? = some v → knd.is (val i) v = true ∧ v.scannable = true) (hb : items.size + 1 < scanBound)
    (h : ∀ (h' : Heap) (tk : Nat), h'.SetOf knd s.heap.objs.size (met val items.size) (nMet val items.size) → (∀ b o, s.heap.get? b = some o → h'.get? b = some o) → Q (.ref s.heap.objs.size) { s with heap := h', toks := tk }) :
    wpAny (model prog w) A (call (.type "set") [.ref l]) Q E s := by
  refine type_code (Q1 := fun obj s1 => ∃ led : Bool, obj = .ref s.heap.objs.size ∧ s1 = { s with heap := s.heap.push (setNew led) }) PySem.F.called_set (PySem.F.typeCall_set_1 (.ref l)) (code_set_new_1 (.ref l) fun led => ⟨led, rfl, rfl⟩) ?_
  rintro _ _ ⟨led, rfl, rfl⟩
  have hS : (s.heap.push (setNew led)).get? s.heap.objs.size = some (setNew led) := Heap.get?_push_size _ rfl
  have hT : Shared.TypeIs { s with heap := s.heap.push (setNew led) } (.ref s.heap.objs.size) "set" := ⟨_, hS, rfl⟩
  refine ⟨hT, codeAny_call_builtin PySem.F.called_set.init.plain PySem.F.entry_set_init (check_set_init_1 hT ?_)⟩
  obtain ⟨⟨cl, dd, dt, sl⟩, ho, hc, n, hd⟩ := id hl
  simp only at hc hd
  subst hc hd
  have lt : l < s.heap.objs.size := Heap.lt_size ho
  have ho' : (s.heap.push (setNew led)).get? l = some { cls := .type "list", dict := dd, data := .seq items n, slots := sl } := Heap.get?_push_of_some _ ho
  have hl' : (s.heap.push (setNew led)).IsList l items := ⟨_, ho', rfl, n, rfl⟩
  have f1 := PySem.F.sub_list_set
  have f2 := PySem.F.sub_list_frozenset
  have f3 : (Value.type "list" == Value.type "dict") = false := by decide
  unfold Builtin.«set.__init__» noKeywords Builtin.Frozenset.updateFrom
  generalize ei : pyIter = it
  wp_walk
  subst ei
  have z : (s.heap.push (setNew led)).objs.size = s.heap.objs.size + 1 := Heap.size_push ..
  have hh3 : A.in1.in1.in1.handled = none := by simp [hh]
  have n1 : l ≠ (s.heap.push (setNew led)).objs.size := by rw [z]; exact Nat.ne_of_lt (Nat.lt_succ_of_lt lt)
  have n2 : s.heap.objs.size ∉ [(s.heap.push (setNew led)).objs.size, l] := by
    rw [z]; simp only [List.mem_cons, List.not_mem_nil, or_false, not_or]; exact ⟨Nat.ne_of_lt (Nat.lt_succ_self _), Nat.ne_of_gt lt⟩
  refine wpAny_pyIter_list hl' (wpAny_bind (wpAny_runValue ?_))
  refine set_loop ((Walks.list hh3 _ l n1 items).toS) s.heap.objs.size n2 val hval hb items.size 0 _ (Nat.zero_add _) ⟨⟨_, Heap.get?_push_size _ rfl, rfl, rfl⟩, hl'.push _⟩ ?_ fun s' hm hS' => ?_
  · have hg : ((s.heap.push (setNew led)).push { cls := .type "list_iterator", data := .fields #[.ref l, .int 0 0] }).get? s.heap.objs.size = some (setNew led) := Heap.get?_push_of_some _ hS
    exact (setObjOf_fresh (knd := knd) led).setOf hg (by unfold scanBound; omega)
  · obtain ⟨h', g', d', tk', os'⟩ := s'
    have eg : g' = s.gens := hm.gens
    have ed : d' = s.drawn := hm.drawn
    have eo : os' = s.os := hm.os
    subst eg ed eo
    show wpAny _ _ _ _ _ _
    refine wpAny_pure ?_
    show wpAny _ _ (ret Value.none) _ _ _
    refine wpAny_pure ⟨rfl, h h' tk' hS' fun b o e => ?_⟩
    have bl : b < s.heap.objs.size := Heap.lt_size e
    exact hm.heap b o (by rw [z]; simp only [List.mem_cons, List.not_mem_nil, or_false, not_or]; exact ⟨Nat.ne_of_lt bl, Nat.ne_of_lt (Nat.lt_succ_of_lt bl)⟩) (Heap.get?_push_of_some _ (Heap.get?_push_of_some _ e))
end
section
variable {X : Cx}
def tLenSet (ta : TA) : TE := fun σ H Q => ta σ H fun vs H1 => ∃ (l : Addr) (ts : List Str), vs = [.ref l] ∧ H1 l = some (.lst (ts.map V.str)) ∧ ts.length ≤ 1000 ∧ Q (.int ((nMet (fun i => ts.getD i "") ts.length : Nat) : Int)) H1
theorem pe_lenSet {a : Expr} {ta : TA} {p1 p2 pos1 pos2 : Pos} (hc : X.calm = true) (hgl : Gl X "len") (hml : X.mg "len" = none) (hgs : Gl X "set") (hms : X.mg "set" = none) (ha : PA X [a] ta) (hs : starEach [a] X.env = [(false, eval a X.env)] := by rfl) :
    PE X (.Call (.Name "len" p1) [.Call (.Name "set" p2) [a] [] pos2] [] pos1) (tLenSet ta) := by
  intro pins s σ H Q I h
  refine Call_ (ld_blt I hgl hml PySem.boot_len (Calls.callWith_builtin rfl (Calls.evalArgs_plain (Calls.spliced_cons ?_))))
  refine Call_ (ld_blt I hgs hms (show bootBuiltins "set" = some (.type "set") by decide +kernel) (PyProof.Rows.callWith_type1 (thn (ha pos2 pins s σ H _ I h) fun us s1 ⟨vs, H1, I1, r1, l, ts, e, hl, hz, q⟩ => ?_) hs rfl))
  subst e
  cases r1 with
  | cons r rr =>
    cases rr
    cases r
    obtain ⟨its, rv, pl, _⟩ := I1.list (SqL.of hl)
    have ln := rv.length
    rw [List.length_map] at ln
    refine set_made (knd := strKind X.prog X.w) (val := fun i => ts.getD i "") (I1.ok.hd hc) pl.isList (fun i v hv => ?_) (by rw [List.size_toArray, ← ln]; unfold scanBound; omega) fun h' tk hS hk => ?_
    · rw [List.getElem?_toArray] at hv
      have hi : i < ts.length := by rw [ln]; exact (List.getElem?_eq_some_iff.mp hv).1
      obtain ⟨u, hu, ru⟩ := rv.get (i := i) (x := .str ts[i]) (by rw [List.getElem?_map, List.getElem?_eq_getElem hi]; rfl)
      rw [hu] at hv
      cases hv
      obtain ⟨t, rfl⟩ := ru
      rw [List.getD_eq_getElem?_getD, List.getElem?_eq_getElem hi]
      exact ⟨PySem.strKind_is _ _ _ _, rfl⟩
    · refine Calls.spliced_nil ?_
      rw [show its.toArray.size = ts.length by rw [List.size_toArray, ← ln]] at hS
      obtain ⟨o, es, ep, tb, ho, hex, hd, _, _, hb, hf, en⟩ := hS
      have le : es.size ≤ 1000 := by rw [en]; exact Nat.le_trans (nMet_le _ _) hz
      refine call_len_set ho hex hd hf (by omega) ⟨.int es.size, H1, (I1.kept (t' := tk + 1 + 1) hk), ⟨_, rfl⟩, ?_⟩
      rw [en]
      exact q
def rMaxL : List V → Hp → VK → Prop := fun xs H Q => ∃ (p : Addr) (ns : List Int), xs = [.ref p] ∧ H p = some (.lst (ns.map V.int)) ∧ 0 < ns.length ∧ ∀ M : Int, M ∈ ns → (∀ a ∈ ns, a ≤ M) → Q (.int M) H
theorem call_maxL (hc : X.calm = true) : CallR X (.builtin "max") rMaxL := by
  intro pins s σ H xs us Q I r h
  obtain ⟨p, ns, rfl, hp, hne, q⟩ := h
  obtain ⟨u, rfl, ru⟩ := vals1 r
  cases ru
  obtain ⟨its, rv, pl, hz⟩ := I.list (SqL.of hp)
  have hi := ints_are rv
  obtain ⟨xs, hx⟩ := hi.allInts.items
  have hl : s.heap.IsList p (intItems xs) := hx ▸ pl.isList
  have hns : ns = xs.toList.map (·.1) := by
    rw [← nums_intItems, ← hx]
    exact (show numsOf its.toArray.toList = ns from hi.numsOf).symm
  have hsz : 0 < xs.size := by
    have h3 := hne; rw [hns, List.length_map, Array.length_toList] at h3; exact h3
  refine max_intList (I.ok.hd hc) hl hsz fun v h' tk hv hk => ?_
  obtain ⟨t, rfl⟩ := intItems_at hv
  obtain ⟨h1, h2⟩ := argBest_gt (numAt xs) (xs.size - 1)
  refine ⟨.int _, H, I.kept hk, ⟨t, rfl⟩, q _ ?_ fun a ha => ?_⟩
  · rw [hns, numAt_eq]; exact getD_mem (by rw [List.length_map, Array.length_toList]; omega)
  · rw [hns] at ha
    obtain ⟨j, hj, rfl⟩ := mem_getD ha
    rw [List.length_map, Array.length_toList] at hj
    rw [← numAt_eq]; exact h2 j (by omega)
end
end L2
namespace L2
open PySem PySem.Spec PyProof.Rows
section
variable {X : Cx} {a : Expr} {ta : TE} {pos : Pos}
def tNotL (ta : TE) : TE := fun σ H Q => ta σ H fun x H1 => ∃ l xs, x = .ref l ∧ H1 l = some (.lst xs) ∧ Q (.bl xs.isEmpty) H1
theorem pe_notL (ha : PE X a ta) : PE X (.UnaryOp .Not a pos) (tNotL ta) := by
  intro pins s σ H Q I h
  refine UnaryOp_ (thn (ha pins s σ H _ I h) fun v s1 ⟨x, H1, I1, r1, q1⟩ => ?_)
  obtain ⟨l, xs, rfl, hl, q1⟩ := q1
  refine not_of (thn (tru_ok pins s1 σ H1 (.ref l) v (fun k H2 => Q (.bl (!k)) H2) I1 r1 ⟨!xs.isEmpty, ?_, by show Q (.bl (!!xs.isEmpty)) H1; rw [Bool.not_not]; exact q1⟩) fun k s2 ⟨H2, I2, q2⟩ => ?_)
  · exact .inl ⟨xs, SqL.of hl, rfl⟩
  · exact ⟨.bl (!k), H2, I2, rfl, q2⟩
end
end L2
namespace HD
open PySem PySem.W
def afterR {α : Type} (v : Obj) (k : BT → α) (l r : BT) : α := k (.node v l r)
def afterL {α : Type} (v : Obj) (k : BT → α) (fr : (BT → α) → α) (l : BT) : α := fr (afterR v k l)
noncomputable def forceT {α : Type} (t : BT) : (BT → α) → α :=
  @BT.rec (fun _ => (BT → α) → α) (fun k => k .nil) (fun v _ _ fl fr k => fl (afterL v k fr)) t
theorem forceT_eq {α : Type} : ∀ (t : BT) (k : BT → α), forceT t k = k t
  | .nil, _ => rfl
  | .node v l r, k => by
    show forceT l (afterL v k (forceT r)) = _
    rw [forceT_eq l]
    show forceT r (afterR v k l) = _
    rw [forceT_eq r]
    rfl
noncomputable def forceN {α : Type} (n : Nat) (k : Nat → α) : α := @Nat.rec (fun _ => α) (k 0) (fun m _ => k (m + 1)) n
theorem forceN_eq {α : Type} (n : Nat) (k : Nat → α) : forceN n k = k n := by cases n <;> rfl
def putBack {α : Type} (k : SharedT → α) (life : Life) (gens : Array GenState) (drawn : Drawn) (os : OsState) (n toks : Nat) (t : BT) : α := k ⟨t, n, life, gens, drawn, toks, os⟩
noncomputable def putT {α : Type} (k : SharedT → α) (t : BT) (life : Life) (gens : Array GenState) (drawn : Drawn) (os : OsState) (n toks : Nat) : α := forceT t (putBack k life gens drawn os n toks)
noncomputable def putN {α : Type} (k : SharedT → α) (t : BT) (life : Life) (gens : Array GenState) (drawn : Drawn) (os : OsState) (toks n : Nat) : α := forceN toks (putT k t life gens drawn os n)
noncomputable def forceS {α : Type} (s : SharedT) (k : SharedT → α) : α := match s with
  | ⟨t, n, life, gens, drawn, toks, os⟩ => forceN n (putN k t life gens drawn os toks)
theorem forceS_eq {α : Type} (s : SharedT) (k : SharedT → α) : forceS s k = k s := by
  obtain ⟨t, n, life, gens, drawn, toks, os⟩ := s
  show forceN n (putN k t life gens drawn os toks) = _
  rw [forceN_eq]
  show forceN toks (putT k t life gens drawn os n) = _
  rw [forceN_eq]
  show forceT t (putBack k life gens drawn os n toks) = _
  rw [forceT_eq]
  rfl
section
variable (thr ok : Thread → Bool) (st : SharedT → Thread → Option (SharedT × Thread))
def turn1 (ih : SharedT → Thread → Option (Bool × SharedT × Thread)) (s : SharedT) (t : Thread) : Option (Bool × SharedT × Thread) := match thr t with
  | true => some (true, s, t)
  | false => match ok t with
    | false => none
    | true => match st s t with
      | some (s', t') => ih s' t'
      | none => none
noncomputable def stepsF (n : Nat) : SharedT → Thread → Option (Bool × SharedT × Thread) :=
  @Nat.rec (fun _ => SharedT → Thread → Option (Bool × SharedT × Thread)) (fun s t => some (false, s, t)) (fun _ ih => turn1 thr ok st ih) n
def endF {α : Type} (k : SharedT → α) (s : SharedT) : Option α := some (k s)
def goOn {α : Type} (ih : SharedT → Thread → Option α) (t : Thread) (s : SharedT) : Option α := ih s t
noncomputable def turnF {α : Type} (m : Nat) (k : SharedT → α) (ih : SharedT → Thread → Option α) (s : SharedT) (t : Thread) : Option α :=
  match stepsF thr ok st m s t with
    | some (true, s', _) => forceS s' (endF k)
    | some (false, s', t') => forceS s' (goOn ih t')
    | none => none
noncomputable def runF {α : Type} (m : Nat) (k : SharedT → α) (n : Nat) : SharedT → Thread → Option α :=
  @Nat.rec (fun _ => SharedT → Thread → Option α) (fun _ _ => none) (fun _ ih => turnF thr ok st m k ih) n
end
section
variable {tb : String → Option Builtin} {p : Program} {w : World} {n₀ : Nat} {ann : Option Value}
noncomputable abbrev steps₁ (tb : String → Option Builtin) (p : Program) (w : World) (n₀ : Nat) (ann : Option Value) := stepsF through (stepOk n₀ ann) (stepT (denote tb) p w)
noncomputable abbrev run₁ {α : Type} (tb : String → Option Builtin) (p : Program) (w : World) (n₀ : Nat) (ann : Option Value) := @runF through (stepOk n₀ ann) (stepT (denote tb) p w) α
theorem steps_go : ∀ {n : Nat} {s s' : SharedT} {t t' : Thread}, steps₁ tb p w n₀ ann n s t = some (false, s', t') → ∀ N r, topRun tb p w n₀ ann N s'.abs t' = some r → topRun tb p w n₀ ann (n + N) s.abs t = some r
  | 0, s, s', t, t', h, N, r, k => by
    cases h
    rw [Nat.zero_add]; exact k
  | n + 1, s, s', t, t', h, N, r, k => by
    rw [show n + 1 + N = n + N + 1 by omega]
    have h : turn1 through (stepOk n₀ ann) (stepT (denote tb) p w) (steps₁ tb p w n₀ ann n) s t = some (false, s', t') := h
    unfold turn1 at h
    unfold topRun
    cases ht : through t with
    | true => rw [ht] at h; cases h
    | false =>
      rw [ht] at h
      cases hk : stepOk n₀ ann t with
      | false => rw [hk] at h; cases h
      | true =>
        rw [hk] at h
        cases hs : stepT (denote tb) p w s t with
        | none => rw [hs] at h; cases h
        | some x => obtain ⟨s₂, t₂⟩ := x; rw [hs] at h; rw [stepT_spec hs]; exact steps_go h N r k
theorem steps_end : ∀ {n : Nat} {s s' : SharedT} {t t' : Thread}, steps₁ tb p w n₀ ann n s t = some (true, s', t') → topRun tb p w n₀ ann n s.abs t = some s'.abs
  | 0, s, s', t, t', h => by cases h
  | n + 1, s, s', t, t', h => by
    have h : turn1 through (stepOk n₀ ann) (stepT (denote tb) p w) (steps₁ tb p w n₀ ann n) s t = some (true, s', t') := h
    unfold turn1 at h
    unfold topRun
    cases ht : through t with
    | true => rw [ht] at h; cases h; rfl
    | false =>
      rw [ht] at h
      cases hk : stepOk n₀ ann t with
      | false => rw [hk] at h; cases h
      | true =>
        rw [hk] at h
        cases hs : stepT (denote tb) p w s t with
        | none => rw [hs] at h; cases h
        | some x => obtain ⟨s₂, t₂⟩ := x; rw [hs] at h; rw [stepT_spec hs]; exact steps_end h
theorem run_spec {α : Type} {m : Nat} {k : SharedT → α} {r : α} : ∀ {n : Nat} {s : SharedT} {t : Thread}, run₁ tb p w n₀ ann m k n s t = some r → ∃ s', topRun tb p w n₀ ann (m * n) s.abs t = some s'.abs ∧ k s' = r
  | 0, s, t, h => by cases h
  | n + 1, s, t, h => by
    have h : turnF through (stepOk n₀ ann) (stepT (denote tb) p w) m k (run₁ tb p w n₀ ann m k n) s t = some r := h
    unfold turnF at h
    cases hs : stepsF through (stepOk n₀ ann) (stepT (denote tb) p w) m s t with
    | none => rw [hs] at h; cases h
    | some x =>
      obtain ⟨b, s₂, t₂⟩ := x
      rw [hs] at h
      cases b with
      | true =>
        have h : forceS s₂ (endF k) = some r := h
        rw [forceS_eq] at h
        refine ⟨s₂, ?_, Option.some.inj h⟩
        rw [show m * (n + 1) = m + m * n by rw [Nat.mul_succ]; omega]
        exact topRun_mono _ _ _ _ _ (steps_end hs)
      | false =>
        have h : forceS s₂ (goOn (run₁ tb p w n₀ ann m k n) t₂) = some r := h
        rw [forceS_eq] at h
        obtain ⟨s', e, e'⟩ := run_spec h
        refine ⟨s', ?_, e'⟩
        rw [show m * (n + 1) = m + m * n by rw [Nat.mul_succ]; omega]
        exact steps_go hs _ _ e
end
noncomputable def tree0 (P : Params) : BT :=
  .node (boot_o_0 P) (.node (boot_o_1 P) (.node (boot_o_3 P) (.node (boot_o_7 P) .nil .nil) .nil) (.node (boot_o_5 P) (.node (boot_o_9 P) .nil .nil) .nil))
    (.node (boot_o_2 P) (.node (boot_o_4 P) (.node (boot_o_8 P) .nil .nil) .nil) (.node (boot_o_6 P) (.node (boot_o_10 P) .nil .nil) .nil))
noncomputable def begin0 (w : World) (os : OsState) : SharedT := ⟨tree0 w.params, 11, (boot_heap w.params).life, #[], boot_drawn, boot_toks, os⟩
noncomputable def ann0 (w : World) : Option Value := (boot_heap w.params).nsMap mainGlobals "__annotations__"
theorem main0 (w : World) : (boot_heap w.params).isNs mainGlobals = true := by kernel_rfl
noncomputable abbrev runQ {α : Type} (p : Program) (w : World) := @runF through (Fast.tw6613529449190102663 11 (ann0 w)) (Fast.tw10156331382660048174 (Fast.tw11892475500146522536 Fast.tw14364793385576792824) p w) α
theorem runQ_eq {α : Type} (p : Program) (w : World) : @run₁ α treeTable p w 11 (ann0 w) = runQ p w := by
  show @runF through (stepOk 11 (ann0 w)) (stepT (denote treeTable) p w) α = _
  rw [Fast.te6613529449190102663, Fast.te10156331382660048174, Fast.te11892475500146522536, Fast.te14364793385576792824]
end HD
namespace HD
open PySem PySem.W
def pickF {α : Type} (o : Option Obj) (a : Nat) (ih : Frag → (Frag → α) → α) (acc : Frag) (k : Frag → α) : α := match o with
  | some o => (match alive o with
    | some o' => ih ((a, o') :: acc) k
    | none => ih acc k)
  | none => ih acc k
noncomputable def fragF {α : Type} (t : BT) (n : Nat) : Frag → (Frag → α) → α :=
  @Nat.rec (fun _ => Frag → (Frag → α) → α) (fun acc k => k acc) (fun a ih acc k => pickF (t.get a) a ih acc k) n
def fragH (h : Heap) (n : Nat) : Frag := (List.range n).filterMap fun a => (h.get? a).map fun o => (a, o)
theorem lookup_mem {a : Addr} {o : Obj} : ∀ {K : Frag}, K.lookup a = some o → (a, o) ∈ K
  | [], h => nomatch h
  | (b, x) :: K, h => by
    simp only [List.lookup] at h
    split at h
    · rename_i q; cases h; rw [beq_iff_eq.mp q]; exact List.mem_cons_self
    · exact List.mem_cons_of_mem _ (lookup_mem h)
theorem fragH_in (h : Heap) (n : Nat) : (fragH h n).In h := fun a o e => by
  obtain ⟨b, _, q⟩ := List.mem_filterMap.mp (lookup_mem e)
  obtain ⟨x, h1, h2⟩ := Option.map_eq_some_iff.mp q
  cases h2
  exact h1
def full (t : BT) (n : Nat) : Bool := (List.range n).all fun a => (t.get a).isSome
theorem fragF_eq {α : Type} {t : BT} {m : Nat} {life : Life} {k : Frag → α} (f : full t m = true) : ∀ (n : Nat) (acc : Frag), n ≤ m → fragF t n acc k = k (fragH (absHeap t m life) n ++ acc)
  | 0, acc, _ => rfl
  | n + 1, acc, le => by
    have e : fragF t (n + 1) acc k = pickF (t.get n) n (fragF t n) acc k := rfl
    have hs : (t.get n).isSome = true := List.all_eq_true.mp f n (List.mem_range.mpr le)
    obtain ⟨o, hg⟩ := Option.isSome_iff_exists.mp hs
    have hx : fragH (absHeap t m life) (n + 1) ++ acc = fragH (absHeap t m life) n ++ ((match alive o with | some o' => [(n, o')] | none => []) ++ acc) := by
      unfold fragH
      rw [List.range_succ, List.filterMap_append, List.append_assoc]
      congr 2
      rw [List.filterMap_cons, List.filterMap_nil, abs_get le hg]
      cases alive o <;> rfl
    rw [e, hx]
    unfold pickF
    rw [hg]
    cases ha : alive o with
    | none => simp only [ha]; exact fragF_eq f n acc (Nat.le_of_succ_le le)
    | some o' => simp only [ha]; exact fragF_eq f n _ (Nat.le_of_succ_le le)
noncomputable def lookF {α : Type} (see : Frag → α) (s : SharedT) : α := fragF s.tree s.n [] see
theorem lookF_eq {α : Type} {see : Frag → α} {s : SharedT} (f : full s.tree s.n = true) : lookF see s = see (fragH s.abs.heap s.abs.heap.objs.size) := by
  unfold lookF
  rw [fragF_eq (life := s.life) f s.n [] (Nat.le_refl _), List.append_nil]
  show _ = see (fragH (absHeap s.tree s.n s.life) (absHeap s.tree s.n s.life).objs.size)
  rw [absHeap_size]
noncomputable def lookK {α : Type} (p q : Program) (loose : List Str) (Xt : Shared → Bool) (see : Frag → α) (w : World) (s : SharedT) :=
  (full s.tree s.n && (staticsOk (importedModules p.main.body) (boot_heap w.params) s.abs.heap && namesBound p s.abs.heap && gensDone s.abs && laidKept (boot_heap w.params) s.abs.heap), openSeen q loose (importedModules p.main.body) Xt true s.abs, lookF see s)
def seeH {α : Type} (see : Frag → α) (s : Shared) : α := see (fragH s.heap s.heap.objs.size)
theorem left_of_see {p q : Program} {loose : List Str} {Xt : Shared → Bool} {α : Type} {see : Frag → α} {saw : World → α} {N : Nat} {m n : Nat}
    (e : opening p = plainProg p.main.scope.names) (hN : Nat.ble 600 N = true) (f : ∀ s, fenceModules? p s = some s) (le : Nat.ble (m * n) N = true)
    (run : ∀ (w : World) (os : OsState), runQ p w m (lookK p q loose Xt see w) n (begin0 w os) (topStub p) = some (true, openGood q loose, saw w)) :
    LeftO p q loose Xt (seeH see) saw N true := by
  intro w
  obtain ⟨⟨h, gs, d, k, os⟩, e1, e2⟩ := Option.map_eq_some_iff.mp (boot_open e hN f w)
  obtain ⟨rfl, rfl, rfl, rfl⟩ : h = boot_heap w.params ∧ gs = Array.mk [] ∧ d = boot_drawn ∧ k = boot_toks := by simpa using e2
  have r0 := run w os
  rw [← runQ_eq] at r0
  obtain ⟨s', r, l⟩ := run_spec r0
  have r : topRun treeTable p w 11 (ann0 w) (m * n) ⟨boot_heap w.params, Array.mk [], boot_drawn, boot_toks, os⟩ (topStub p) = some s'.abs := r
  have r := topRun_mono (N - m * n) _ _ _ _ r
  rw [show m * n + (N - m * n) = N by have := Nat.le_of_ble_eq_true le; omega] at r
  obtain ⟨l0, l1⟩ := Bool.and_eq_true_iff.mp (congrArg Prod.fst l)
  have l2 := congrArg (fun x => x.2.1) l
  have l3 := (lookF_eq (see := see) l0).symm.trans (congrArg (fun x => x.2.2) l)
  have t : topFrom treeTable p w N ⟨boot_heap w.params, Array.mk [], boot_drawn, boot_toks, os⟩ = some s'.abs := by
    unfold topFrom
    show (match (boot_heap w.params).isNs mainGlobals && true with | true => _ | false => _) = _
    rw [main0 w]
    show (topRun treeTable p w 11 (ann0 w) N ⟨boot_heap w.params, Array.mk [], boot_drawn, boot_toks, os⟩ (topStub p)).bind _ = _
    rw [r]
    show (match staticsOk (importedModules p.main.body) (boot_heap w.params) s'.abs.heap && namesBound p s'.abs.heap && gensDone s'.abs && laidKept (boot_heap w.params) s'.abs.heap with | true => _ | false => _) = _
    rw [l1]
  unfold openEnds
  rw [e1]
  show Option.map _ (topFrom treeTable p w N _) = _
  rw [t]
  exact congrArg some (Prod.ext l2 l3)
theorem turn_of {P : Program → Prop} {p p' : Program} (h : p = p') (x : P p') : P p := h ▸ x
def ofOthers (p : Program) (x : Str) : List Str := p.boundNames.filter fun y => !(y == x)
theorem holds_see {l : OpenLaw} {i N m n : Nat} {α : Type} {see : Frag → α} {saw : World → α} {d : DefRec} {kwd : List (Str × Expr)}
    (said : l.row.wellSaid = true)
    (e : opening l.prog = plainProg l.prog.main.scope.names) (f : ∀ s, fenceModules? l.prog s = some s) (hN : Nat.ble 600 N = true) (le : Nat.ble (m * n) N = true)
    (run : ∀ (w : World) (os : OsState), runQ l.prog w m (lookK l.prog (view l.prog [i]) (ofOthers l.prog l.name) (fun _ => true) see w) n (begin0 w os) (topStub l.prog) = some (true, openGood (view l.prog [i]) (ofOthers l.prog l.name), saw w))
    (hdef : defOf (view l.prog [i]) l.row.name = some (d, kwd)) (hp : l.row.prog.theDef l.row.name = some (d.params, d.body, d.scope)) (hk : kwWritten? d.params.kwonlyargs d.params.kw_defaults = some kwd)
    (ok : (chainsOk (view l.prog [i]) && opensWell l.row.prog && (frees l.row.toRowW && l.row.within.isEmpty)) = true) (hb : l.row.prog.bare) (hw : l.row.toRowW.promised)
    (call : WalkO (view l.prog [i]) (ofOthers l.prog l.name) (fun _ _ => True) (fun w h => ∃ K : Frag, K.In h ∧ see K = saw w) l.row.toRowW d kwd fun f vs => PySem.call f vs) : l.row.Holds :=
  holds_open (r := l.row) (left_of_see e hN f le run) (fun _ s h => ⟨_, fragH_in s.heap _, h⟩) (fun _ _ _ ⟨K, a, b⟩ k => ⟨K, a.keeps k, b⟩) (fun _ _ => trivial) (fun _ _ _ _ _ => trivial) hdef hp hk (fun s _ => recFacts_of (R := []) rfl) (by show (_ || true) = true; exact Bool.or_true _) said ok hb hw call
theorem walk_see {l : OpenLaw} {n k : Nat} {q : Program} {loose : List Str} {XP : (Str → Option Value) → Heap → Prop} {S : World → Frag → Prop} {d : DefRec} {CX : L2.CXT} {sp : Frag → L2.Sp} {x : Str}
    (hn : l.most = some n) (hn2 : n ≤ sizeLine) (hdf : d.params.defaults = []) (hr : L2.Room k callerA)
    (F : ∀ (w : World) (K : Frag) (mg : Str → Option Value) (fa : Addr) (h : Heap), S w K → K.In h → h.Ns mainGlobals mg → mg d.name = some (.ref fa) →
      ∃ fd : FuncData, (∀ (s : Shared) (u : Value), BindsTo s fd ⟨[u], []⟩ [(x, u)]) ∧
        ∀ base : Heap, K.In base → base.Ns mainGlobals mg → L2.FnOk l.prog w K mg base CX k fa fd [x] (sp K))
    (hsp : ∀ (K : Frag) (H : L2.Hp) (a : Addr) (ns : List Int), ns.length ≤ n → L2.Only H → L2.SqL K H a (ns.map L2.V.int) → sp K [.ref a] H (fun v _ => v = .bl true) fun _ _ _ => False)
    (hCX : ∀ (H : L2.Hp) (s : Shared) (e : Value) (s' : Shared), CX [] H s (fun _ _ _ => False) e s' → False) :
    WalkO q loose XP (fun w h => ∃ K : Frag, K.In h ∧ S w K) l.row.toRowW d [] (fun f vs => PySem.call f vs) := by
  refine Att.attach_call hn hdf fun w s₀ s₁ mg mb fa o pm cd doc a vs ns G Y ho hd hcd hmg hobj hints hlen hg => ?_
  obtain ⟨K, KX, hS⟩ := Y
  obtain ⟨fd, hb, hF⟩ := F w K mg fa _ hS KX G.T.g hmg
  exact L2.law_call KX G.T.g G.T.b G.T.builtins G.T.nolimit hg hobj hints (Nat.le_trans hlen hn2) hr hF hb (fun H hO hS => hsp K H a ns hlen hO hS) fun H e s' => hCX H s₁ e s'
def defName (s : Stmt) : Str := match s with
  | .FunctionDef n _ _ _ _ _ _ _ _ _ => n
  | _ => ""
abbrev FnSeen := Option (Str × Str × Arguments × FuncBody × Scope × Addr × List (Str × Addr) × Value × Addr × Bool)
def fnLook (K : Frag) (q : Str) (f : Addr) : FnSeen := match K.lookup f with
  | some ⟨_, _, .func fd, _⟩ => some (fd.name, fd.qualname, fd.params, fd.body, fd.scope, fd.globals, fd.closure, fd.defaults, fd.builtins, codeIn K fd.code q)
  | _ => none
def fnSaw (x q : Str) (st : Stmt) : FnSeen := some (x, q, L2.defArgs st, .stmts (L2.defBody st), L2.defScope st, mainGlobals, [], .none, builtinsNs, true)
theorem fn_of {K : Frag} {x q : Str} {st : Stmt} {f : Addr} (e : fnLook K q f = fnSaw x q st) :
    ∃ fd : FuncData, L2.Fun K x q st f fd := by
  unfold fnLook at e
  split at e
  · rename_i oc od fd sl hl
    obtain ⟨nm, qn, pa, bo, sc, gl, cl, df, kd, doc, pm, an, cdv, ct, bu⟩ := fd
    simp only [fnSaw, Option.some.injEq, Prod.mk.injEq] at e
    obtain ⟨rfl, rfl, rfl, rfl, rfl, rfl, rfl, rfl, rfl, c⟩ := e
    exact ⟨_, ⟨oc, od, kd, doc, pm, an, cdv, ct, sl, rfl, hl, c⟩, by unfold keepIn; simp only [hl]⟩
  · cases e
theorem binds_of {K : Frag} {x q : Str} {st : Stmt} {f : Addr} {fd : FuncData} {ps : List Str} (F : L2.Fun K x q st f fd)
    (b : ∀ (kV doc pm : Value) (an : Option Addr) (cdv ct : Value) (us : List Value), us.length = ps.length → bindArgs (fnOf x q (L2.defArgs st) (L2.defBody st) (L2.defScope st) .none kV doc pm an cdv ct) ⟨us, []⟩ = pure (ps.zip us)) : L2.Binds K fd ps [] := by
  obtain ⟨⟨oc, od, kV, doc, pm, an, cdv, ct, osl, rfl, _, _⟩, _⟩ := F
  exact .all (b kV doc pm an cdv ct)
def defLook (K : Frag) (st : Stmt) : FnSeen := match nsIn K mainGlobals (defName st) with
  | some (some (.ref f)) => fnLook K (defName st) f
  | _ => none
theorem def_ex {K : Frag} {st : Stmt} {x : Str} (e : defLook K st = fnSaw (defName st) (defName st) st) (hx : defName st = x) : ∃ f fd, nsIn K mainGlobals x = some (some (.ref f)) ∧ L2.Fun K x x st f fd := by
  subst hx
  unfold defLook at e
  split at e
  · rename_i f ha
    obtain ⟨fd, F⟩ := fn_of e
    exact ⟨f, fd, ha, F⟩
  · cases e
theorem defAt_of {K : Frag} {h : Heap} {mg : Str → Option Value} {st : Stmt} {x : Str} {ps : List Str} (X : K.In h) (G : h.Ns mainGlobals mg) (e : defLook K st = fnSaw (defName st) (defName st) st) (hx : defName st = x)
    (b : ∀ (kV doc pm : Value) (an : Option Addr) (cdv ct : Value) (us : List Value), us.length = ps.length → bindArgs (fnOf x x (L2.defArgs st) (L2.defBody st) (L2.defScope st) .none kV doc pm an cdv ct) ⟨us, []⟩ = pure (ps.zip us)) : L2.DefAt K mg x st ps := by
  obtain ⟨f, fd, ha, F⟩ := def_ex e hx
  exact ⟨f, fd, mg_of X G ha, F, binds_of F b⟩
theorem law_fun {K : Frag} {h : Heap} {mg : Str → Option Value} {st : Stmt} {x y : Str} {fa : Addr} (X : K.In h) (G : h.Ns mainGlobals mg) (e : defLook K st = fnSaw (defName st) (defName st) st) (hx : defName st = x) (hfa : mg x = some (.ref fa))
    (b : ∀ (kV doc pm : Value) (an : Option Addr) (cdv ct : Value) (s : Shared) (u : Value), BindsTo s (fnOf x x (L2.defArgs st) (L2.defBody st) (L2.defScope st) .none kV doc pm an cdv ct) ⟨[u], []⟩ [(y, u)]) :
    ∃ fd : FuncData, L2.Fun K x x st fa fd ∧ ∀ (s : Shared) (u : Value), BindsTo s fd ⟨[u], []⟩ [(y, u)] := by
  obtain ⟨f, fd, ha, F⟩ := def_ex e hx
  have e := hfa.symm.trans (mg_of X G ha)
  cases e
  refine ⟨fd, F, ?_⟩
  obtain ⟨⟨oc, od, kV, doc, pm, an, cdv, ct, osl, rfl, _, _⟩, _⟩ := F
  exact b kV doc pm an cdv ct
def isNo (K : Frag) (x : Str) : Bool := match nsIn K mainGlobals x with
  | some none => true
  | _ => false
theorem no_of {K : Frag} {h : Heap} {mg : Str → Option Value} {x : Str} (X : K.In h) (G : h.Ns mainGlobals mg) (e : isNo K x = true) : mg x = none := by
  unfold isNo at e
  split at e
  · rename_i ha; exact mg_none_of X G ha
  · cases e
def isInt (K : Frag) (x : Str) (n : Int) : Bool := match nsIn K mainGlobals x with
  | some (some (.int m _)) => decide (m = n)
  | _ => false
theorem int_of {K : Frag} {h : Heap} {mg : Str → Option Value} {x : Str} {n : Int} (X : K.In h) (G : h.Ns mainGlobals mg) (e : isInt K x n = true) : ∃ tk, mg x = some (.int n tk) := by
  unfold isInt at e
  split at e
  · rename_i m tk ha; cases of_decide_eq_true e; exact ⟨tk, mg_of X G ha⟩
  · cases e
def isTxt (K : Frag) (x : Str) (n : Str) : Bool := match nsIn K mainGlobals x with
  | some (some (.str m _)) => decide (m = n)
  | _ => false
theorem txt_of {K : Frag} {h : Heap} {mg : Str → Option Value} {x : Str} {n : Str} (X : K.In h) (G : h.Ns mainGlobals mg) (e : isTxt K x n = true) : ∃ tk, mg x = some (.str n tk) := by
  unfold isTxt at e
  split at e
  · rename_i m tk ha; cases of_decide_eq_true e; exact ⟨tk, mg_of X G ha⟩
  · cases e
def isRef (K : Frag) (x : Str) : Bool := match nsIn K mainGlobals x with
  | some (some (.ref _)) => true
  | _ => false
def adr (K : Frag) (x : Str) : Addr := match nsIn K mainGlobals x with
  | some (some (.ref f)) => f
  | _ => 0
theorem ref_of {K : Frag} {x : Str} (e : isRef K x = true) : nsIn K mainGlobals x = some (some (.ref (adr K x))) := by
  unfold isRef at e
  unfold adr
  split at e
  · rename_i f ha; rw [ha]
  · cases e
def All (l : List Bool) : Bool := l.all id
theorem all_cons {b : Bool} {l : List Bool} (h : All (b :: l) = true) : b = true ∧ All l = true := Bool.and_eq_true_iff.mp h
theorem fst_of {α : Type} {a b : α} {l m : List α} (h : a :: l = b :: m) : a = b ∧ l = m := List.cons.inj h
end HD
namespace HD
open PySem PySem.W L2
theorem rel_of_abs {x : V} {u : Value} (h : absV u = some x) : RelV x u := by
  cases u <;> simp only [absV, Option.some.injEq, reduceCtorEq] at h <;> (try subst h) <;> first | rfl | exact ⟨_, rfl⟩
theorem vals_of_abs : ∀ {xs : List V} {us : List Value}, us.map absV = xs.map some → Vals xs us
  | [], [], _ => .nil
  | [], _ :: _, h => by cases h
  | _ :: _, [], h => by cases h
  | x :: xs, u :: us, h => by
    rw [List.map_cons, List.map_cons] at h
    obtain ⟨a, b⟩ := List.cons.inj h
    exact .cons (rel_of_abs a) (vals_of_abs b)
def tupLook (K : Frag) (a : Addr) : Option (Value × List (Option V)) := match K.lookup a with
  | some ⟨c, _, .seq its _, _⟩ => some (c, its.toList.map absV)
  | _ => none
theorem sqT_of {K : Frag} {a : Addr} {xs : List V} (e : tupLook K a = some (.type "tuple", xs.map some)) (hl : xs.length ≤ sizeLine) (H : Hp) : SqT K H a xs := by
  unfold tupLook at e
  split at e
  · rename_i c d its n sl hk
    simp only [Option.some.injEq, Prod.mk.injEq] at e
    obtain ⟨rfl, e⟩ := e
    have v := vals_of_abs e
    refine .inr ⟨_, its, n, hk, rfl, rfl, ?_, v⟩
    rw [← Array.length_toList, ← v.length]
    exact hl
  · cases e
def dctLook (K : Frag) (a : Addr) := match K.lookup a with
  | some ⟨c, d, .dict es _, sl⟩ => some (c, d, sl, es.toList.map fun (e : DictEntry) => (e.hash, (match e.key with | Value.str x _ => some x | _ => none), (match e.val with | Value.ref t => tupLook K t | _ => none)))
  | _ => none
def excLook (K : Frag) (C : Addr) : Bool := (findIn K (.ref C) "__getattribute__" == some (some (.builtin "BaseException.__getattribute__"))) && (findIn K (.ref C) "__getattr__" == some none) && (mroIn K C (.type "BaseException") == some true) &&
  (clsIn K C).isSome && (findIn K (.ref C) "__class__" == some (some (.builtin "object.__class__"))) && (specialIn K (.builtin "object.__class__") "__get__" == some (some (.builtin "getset_descriptor.__get__"))) &&
  (takesIn K (.builtin "object.__class__") == some true) && (mroIn K C (.type "object") == some true)
theorem plainX_of {K : Frag} {C : Addr} (e : excLook K C = true) : PlainX K C := by
  unfold excLook at e
  simp only [Bool.and_eq_true, beq_iff_eq] at e
  obtain ⟨⟨⟨⟨⟨⟨⟨a, b⟩, c⟩, d⟩, e⟩, f⟩, g⟩, h⟩ := e
  exact ⟨a, b, c, d, e, f, g, h⟩
end HD
seal L2.PE L2.PA L2.PS L2.PSs L2.PT L2.PW L2.PG L2.PGs L2.OpR L2.CallR L2.PI L2.PSet L2.PO L2.SlR L2.IxR L2.PPs L2.PC L2.UnR L2.MtR
local macro_rules
  | `(tactic| walk_at "rl") => do
    let a ← L2.rdArgs L2.lzPre
    `(tactic| simp (config := { maxSteps := 3000000 }) only [$a,*, L2.tListRev, L2.tListRevT, L2.rExtG, L2.rTupL, L2.rLenG, L2.rEqE, L2.tNotL, L2.rCatU, L2.rMulT, L2.tLenSet, L2.rMaxL, *])
  | `(tactic| walk_at "ro") => do
    let a ← L2.rdArgs (L2.rdPre)
    `(tactic| simp (config := { maxSteps := 3000000 }) only [and_assoc, $a,*, L2.tListRev, L2.tListRevT, L2.rExtG, L2.rTupL, L2.rLenG, L2.rEqE, L2.tNotL, L2.rCatU, L2.rMulT, L2.tLenSet, L2.rMaxL, *])
  | `(tactic| walk_at "rz") => do
    let a ← L2.rdArgs (L2.lzPre ++ " lazyAll")
    `(tactic| simp (config := { maxSteps := 3000000 }) only [$a,*, L2.tListRev, L2.tListRevT, L2.rExtG, L2.rTupL, L2.rLenG, L2.rEqE, L2.tNotL, L2.rCatU, L2.rMulT, L2.tLenSet, L2.rMaxL, *])
  | `(tactic| walk_at "rd") => `(tactic| first | (walk_at "rl"; try walk_at "ro") | walk_at "ro")
  | `(tactic| walk_at "ry") => do
    let a ← L2.rdArgs (L2.lzPre2 ++ " lazyAll")
    `(tactic| simp (config := { maxSteps := 3000000, zeta := false, zetaDelta := false }) only [$a,*, L2.tListRev, L2.tListRevT, L2.rExtG, L2.rTupL, L2.rLenG, L2.rEqE, L2.tNotL, L2.rCatU, L2.rMulT, L2.tLenSet, L2.rMaxL, *])
  | `(tactic| walk_at "rh") => `(tactic| with_reducible first | (refine L2.hideL ?_; intro T) | refine L2.hRet ?_ | refine L2.hIf ?_ | refine L2.hFor ?_ | refine L2.hDrop ?_ | refine L2.hAsg ?_ | refine L2.hWhile ?_ | refine L2.hFld ?_ | refine L2.hForU ?_ | refine L2.hForK ?_ | refine L2.hPut ?_ | refine L2.hRetN ?_)
  | `(tactic| walk_at "r2") => `(tactic| ((try walk_at "rh"); (try walk_at "ry"); repeat (walk_at "rh"; walk_at "ry")))
namespace K09
open PySem L2
def top (i : Nat) : Stmt := PySem.Challenge.pw_rerunyard_k09_faults_together.main.body.getD i (.Pass ⟨0, 0, 0, 0⟩)
abbrev s_is_name : Stmt := top 23
theorem sc_is_name : FnScope ["word"] ["word"] (defScope s_is_name) := ⟨rfl, rfl, rfl, by decide +kernel, rfl, by decide +kernel, by decide +kernel⟩
abbrev s_is_number : Stmt := top 24
theorem sc_is_number : FnScope ["word"] ["word"] (defScope s_is_number) := ⟨rfl, rfl, rfl, by decide +kernel, rfl, by decide +kernel, by decide +kernel⟩
abbrev s_is_whole : Stmt := top 25
theorem sc_is_whole : FnScope ["word", "most"] ["word", "most"] (defScope s_is_whole) := ⟨rfl, rfl, rfl, by decide +kernel, rfl, by decide +kernel, by decide +kernel⟩
abbrev s_expression : Stmt := top 26
theorem sc_expression : FnScope ["word", "tokens", "e", "at"] ["word"] (defScope s_expression) := ⟨rfl, rfl, rfl, by decide +kernel, rfl, by decide +kernel, by decide +kernel⟩
abbrev s_tokens_of : Stmt := top 27
theorem sc_tokens_of : FnScope ["word", "tokens", "sign"] ["word"] (defScope s_tokens_of) := ⟨rfl, rfl, rfl, by decide +kernel, rfl, by decide +kernel, by decide +kernel⟩
abbrev s_read_sum : Stmt := top 28
theorem sc_read_sum : FnScope ["tokens", "at", "depth", "e", "sign", "right"] ["tokens", "at", "depth"] (defScope s_read_sum) := ⟨rfl, rfl, rfl, by decide +kernel, rfl, by decide +kernel, by decide +kernel⟩
abbrev s_read_term : Stmt := top 29
theorem sc_read_term : FnScope ["tokens", "at", "depth", "e", "right"] ["tokens", "at", "depth"] (defScope s_read_term) := ⟨rfl, rfl, rfl, by decide +kernel, rfl, by decide +kernel, by decide +kernel⟩
abbrev s_read_factor : Stmt := top 30
theorem sc_read_factor : FnScope ["tokens", "at", "depth", "e"] ["tokens", "at", "depth"] (defScope s_read_factor) := ⟨rfl, rfl, rfl, by decide +kernel, rfl, by decide +kernel, by decide +kernel⟩
abbrev s_leaf : Stmt := top 31
theorem sc_leaf : FnScope ["token"] ["token"] (defScope s_leaf) := ⟨rfl, rfl, rfl, by decide +kernel, rfl, by decide +kernel, by decide +kernel⟩
abbrev s_read : Stmt := top 40
theorem sc_read : FnScope ["text", "texts", "program", "bodies", "k", "row", "parts"] ["text"] (defScope s_read) := ⟨rfl, rfl, rfl, by decide +kernel, rfl, by decide +kernel, by decide +kernel⟩
abbrev s_parts_of : Stmt := top 41
theorem sc_parts_of : FnScope ["row", "words", "kinds"] ["row"] (defScope s_parts_of) := ⟨rfl, rfl, rfl, by decide +kernel, rfl, by decide +kernel, by decide +kernel⟩
abbrev s_kinds_due : Stmt := top 42
theorem sc_kinds_due : FnScope ["words", "first_word", "fixed", "kind", "least", "most", "rest"] ["words"] (defScope s_kinds_due) := ⟨rfl, rfl, rfl, by decide +kernel, rfl, by decide +kernel, by decide +kernel⟩
abbrev s_part : Stmt := top 43
theorem sc_part : FnScope ["kind", "word"] ["kind", "word"] (defScope s_part) := ⟨rfl, rfl, rfl, by decide +kernel, rfl, by decide +kernel, by decide +kernel⟩
abbrev s_check_place : Stmt := top 44
theorem sc_check_place : FnScope ["k", "word", "program", "bodies", "hands", "fits"] ["k", "word", "program", "bodies"] (defScope s_check_place) := ⟨rfl, rfl, rfl, by decide +kernel, rfl, by decide +kernel, by decide +kernel⟩
abbrev s_check_depth : Stmt := top 45
theorem sc_check_depth : FnScope ["k", "word", "bodies"] ["k", "word", "bodies"] (defScope s_check_depth) := ⟨rfl, rfl, rfl, by decide +kernel, rfl, by decide +kernel, by decide +kernel⟩
abbrev s_check_measure : Stmt := top 46
theorem sc_check_measure : FnScope ["k", "parts", "word", "fits"] ["k", "parts"] (defScope s_check_measure) := ⟨rfl, rfl, rfl, by decide +kernel, rfl, by decide +kernel, by decide +kernel⟩
abbrev s_check_twice : Stmt := top 47
theorem sc_check_twice : FnScope ["k", "parts", "program", "tools", "stores", "rows", "hands", "ahead", "again"] ["k", "parts", "program"] (defScope s_check_twice) := ⟨rfl, rfl, rfl, by decide +kernel, rfl, by decide +kernel, by decide +kernel⟩
abbrev s_lay_down : Stmt := top 48
theorem sc_lay_down : FnScope ["k", "parts", "program", "bodies", "tools", "stores", "rows", "hands", "word", "body"] ["k", "parts", "program", "bodies"] (defScope s_lay_down) := ⟨rfl, rfl, rfl, by decide +kernel, rfl, by decide +kernel, by decide +kernel⟩
abbrev s_statement_of : Stmt := top 49
theorem sc_statement_of : FnScope ["k", "parts", "word"] ["k", "parts"] (defScope s_statement_of) := ⟨rfl, rfl, rfl, by decide +kernel, rfl, by decide +kernel, by decide +kernel⟩
abbrev s_lay_statement : Stmt := top 50
theorem sc_lay_statement : FnScope ["statement", "bodies"] ["statement", "bodies"] (defScope s_lay_statement) := ⟨rfl, rfl, rfl, by decide +kernel, rfl, by decide +kernel, by decide +kernel⟩
abbrev s__law_cell_at : Stmt := top 52
theorem sc__law_cell_at : FnScope ["script", "k"] ["script", "k"] (defScope s__law_cell_at) := ⟨rfl, rfl, rfl, by decide +kernel, rfl, by decide +kernel, by decide +kernel⟩
abbrev s__law_stir : Stmt := top 53
theorem sc__law_stir : FnScope ["cell", "k", "number"] ["cell", "k"] (defScope s__law_stir) := ⟨rfl, rfl, rfl, by decide +kernel, rfl, by decide +kernel, by decide +kernel⟩
abbrev s__law_refused : Stmt := top 54
theorem sc__law_refused : FnScope ["rows", "told", "e"] ["rows"] (defScope s__law_refused) := ⟨rfl, rfl, rfl, by decide +kernel, rfl, by decide +kernel, by decide +kernel⟩
abbrev s__law_bad : Stmt := top 55
theorem sc__law_bad : FnScope ["cell", "some"] ["cell"] (defScope s__law_bad) := ⟨rfl, rfl, rfl, by decide +kernel, rfl, by decide +kernel, by decide +kernel⟩
abbrev s__law_any_good : Stmt := top 56
theorem sc__law_any_good : FnScope ["number", "far", "name", "count", "most", "first", "numbers", "words"] ["number", "far"] (defScope s__law_any_good) := ⟨rfl, rfl, rfl, by decide +kernel, rfl, by decide +kernel, by decide +kernel⟩
abbrev s__law_any_hand : Stmt := top 57
theorem sc__law_any_hand : FnScope ["number", "names", "name"] ["number"] (defScope s__law_any_hand) := ⟨rfl, rfl, rfl, by decide +kernel, rfl, by decide +kernel, by decide +kernel⟩
abbrev s__law_any_row : Stmt := top 58
theorem sc__law_any_row : FnScope ["cell", "number", "far", "kind", "some"] ["cell"] (defScope s__law_any_row) := ⟨rfl, rfl, rfl, by decide +kernel, rfl, by decide +kernel, by decide +kernel⟩
abbrev s__law_out_of_place : Stmt := top 59
theorem sc__law_out_of_place : FnScope ["state", "row", "opened", "names"] ["state", "row"] (defScope s__law_out_of_place) := ⟨rfl, rfl, rfl, by decide +kernel, rfl, by decide +kernel, by decide +kernel⟩
abbrev s__law_due : Stmt := top 60
theorem sc__law_due : FnScope ["state", "row", "opened", "names"] ["state", "row"] (defScope s__law_due) := ⟨rfl, rfl, rfl, by decide +kernel, rfl, by decide +kernel, by decide +kernel⟩
abbrev s__law_do : Stmt := top 61
theorem sc__law_do : FnScope ["state", "row", "opened", "names"] ["state", "row"] (defScope s__law_do) := ⟨rfl, rfl, rfl, by decide +kernel, rfl, by decide +kernel, by decide +kernel⟩
abbrev s__law_judged : Stmt := top 62
theorem sc__law_judged : FnScope ["rows", "state", "row", "code"] ["rows"] (defScope s__law_judged) := ⟨rfl, rfl, rfl, by decide +kernel, rfl, by decide +kernel, by decide +kernel⟩
abbrev s_law : Stmt := top 63
theorem sc_law : FnScope ["script", "head", "rows", "cell", "some", "more", "many", "due", "found"] ["script"] (defScope s_law) := ⟨rfl, rfl, rfl, by decide +kernel, rfl, by decide +kernel, by decide +kernel⟩
end K09
namespace K09
open PySem L2
def isL (s : Str) (c : Nat) : Bool := !(Builtin.Str.occurrences s ⟨#[c]⟩ 0 s.length 1).isEmpty
def noN : List V := [.str "tool", .str "store", .str "row", .str "hand", .str "end", .str "wait", .str "take", .str "give", .str "put", .str "get", .str "let", .str "draw", .str "say", .str "start", .str "if", .str "else", .str "while", .str "stop", .str "now", .str "own"]
def nameOk (x : Str) : Bool := decide (1 ≤ x.length) && decide (x.length ≤ 8) && !(inV (.str x) noN) && x.cps.toList.all (isL "abcdefghijklmnopqrstuvwxyz")
def numOk (x : Str) : Bool := decide (1 ≤ x.length) && decide (x.length ≤ 6) && (decide (x = "0") || !(PySem.Txt.startswith x "0")) && x.cps.toList.all (isL "0123456789")
theorem allSigns {L x : Str} {H : Hp} {Q : VK} (hz : x.length < sizeLine) (q : ∀ H', Same H H' → Q (.bl (x.cps.toList.all (isL L))) H') :
    tComp [] (iStr (tVar 0)) tYes (tOp (fun x y H Q => ∃ i, x = V.str i ∧ ∃ x, y = V.str x ∧ Q (V.bl !(Builtin.Str.occurrences x i 0 x.length 1).isEmpty) H) (tVar 0) (tC (V.str L)))
      [some (V.str x)] H fun x H1 => ∃ p, x = V.ref p ∧ ∃ x, H1 p = some (HO.lst (List.map V.bl x)) ∧ Q (V.bl (x.all id)) H1 := by
  refine tcomp_str x (fun _ => true) (fun c => .bl (isL L c)) (fun R hR => ⟨_, rfl, hR⟩) hz (fun c hc H Q h => h) (fun c hc _ H Q h => ?_) fun D H' hD hS e => ?_
  · exact ⟨_, rfl, _, rfl, _, rfl, h⟩
  · refine ⟨D, rfl, (x.cps.toList.filter fun _ => true).map (isL L), by rw [e, List.map_map]; rfl, ?_⟩
    have := q H' hS
    simpa using this
theorem sz8 {n : Nat} (h : n ≤ 8) : n < sizeLine := by unfold sizeLine; omega
section
variable {P : Program} {w : World} {K : PySem.W.Frag} {mg : Str → Option Value} {base : Heap}
def spIsName : Sp := fun vs H Q _ => ∃ x : Str, vs = [.str x] ∧ x.length ≤ sizeLine ∧ ∀ H', Same H H' → Q (.bl (nameOk x)) H'
theorem ok_is_name (D : DefAt K mg "is_name" s_is_name ["word"]) {t1 t2 : Tok} {aNN : Addr} (hML : mg "MOST_LETTERS" = some (.int 8 t1)) (hLETTERS : mg "LETTERS" = some (.str "abcdefghijklmnopqrstuvwxyz" t2))
    (hNN : mg "NO_NAMES" = some (.ref aNN)) (qNN : ∀ H, SqT K H aNN noN) (hlen : mg "len" = none) (hall : mg "all" = none) : OkD P w K mg base 1 "is_name" ["word"] spIsName := by
  refine D.ok sc_is_name (fun vs H Q E h => ?_) (fun f cdv A outer s H vs Q E hr h => ?_)
  · obtain ⟨x, rfl, _⟩ := h; rfl
  obtain ⟨x, rfl, hz, q⟩ := h
  refine ⟨_, (pss_one (ps_ret (pe_and (pe_chain op_le op_le pe_int (pe_cB call_len_str rfl hlen PySem.boot_len (pa_c (pv 0) pa_nil)) (pe_glob (v := .int 8) rfl hML ⟨_, rfl⟩)) (pe_and (pe_cmpR op_notInK (pv 0) (pe_glob (v := .ref aNN) rfl hNN rfl) (by with_unfolding_all rfl)) (pe_one (pe_cB (call_all rfl) rfl hall (by decide +kernel) (pa_c (pe_comp (comp_scope0 rfl rfl rfl) rfl (pi_str (pv 0)) rfl rfl (fun _ _ _ _ => pts_nil) (fun _ _ _ _ => (pe_cmpR op_in_str (pv 0) (pe_glob (v := .str "abcdefghijklmnopqrstuvwxyz") rfl hLETTERS ⟨_, rfl⟩) (by with_unfolding_all rfl)))) pa_nil))))))), ?_⟩
  walk_at "rd"
  unfold nameOk at q
  by_cases h1 : (1 : Int) ≤ x.length
  · by_cases h2 : (x.length : Int) ≤ 8
    · rw [if_pos h1, if_pos h2]
      refine ⟨noN, qNN, by decide +kernel, ?_⟩
      have e1 : decide (1 ≤ x.length) = true := decide_eq_true (by omega)
      have e2 : decide (x.length ≤ 8) = true := decide_eq_true (by omega)
      rw [e1, e2] at q
      cases hN : inV (.str x) noN with
      | true => rw [hN] at q; exact iteF (q H (Same.refl H))
      | false =>
        rw [hN] at q
        exact iteT (allSigns (sz8 (by omega)) (by simpa using q))
    · rw [if_pos h1, if_neg h2]
      have e2 : decide (x.length ≤ 8) = false := decide_eq_false (by omega)
      rw [e2] at q
      simpa using q H (Same.refl H)
  · rw [if_neg h1]
    have e1 : decide (1 ≤ x.length) = false := decide_eq_false (by omega)
    rw [e1] at q
    simpa using q H (Same.refl H)
def wholeOk (m : Nat) (x : Str) : Bool := decide (1 ≤ x.length) && decide (x.length ≤ m) && (decide (x = "0") || !(PySem.Txt.startswith x "0")) && x.cps.toList.all (isL "0123456789")
def spWhole : Sp := fun vs H Q _ => ∃ (x : Str) (m : Nat), vs = [.str x, .int (m : Nat)] ∧ m ≤ 8 ∧ x.length ≤ sizeLine ∧ ∀ H', Same H H' → Q (.bl (wholeOk m x)) H'
theorem ok_is_whole (D : DefAt K mg "is_whole" s_is_whole ["word", "most"]) {t2 : Tok} (hFIGURES : mg "FIGURES" = some (.str "0123456789" t2))
    (hlen : mg "len" = none) (hall : mg "all" = none) : OkD P w K mg base 1 "is_whole" ["word", "most"] spWhole := by
  refine D.ok sc_is_whole (fun vs H Q E h => ?_) (fun f cdv A outer s H vs Q E hr h => ?_)
  · obtain ⟨x, m, rfl, _⟩ := h; rfl
  obtain ⟨x, m, rfl, hm, hz, q⟩ := h
  refine ⟨_, (pss_one (ps_ret (pe_and (pe_chain op_le op_le pe_int (pe_cB call_len_str rfl hlen PySem.boot_len (pa_c (pv 0) pa_nil)) (pv 1)) (pe_and (pe_or (pe_cmpR op_eq (pv 0) pe_str (nomark _)) (pe_one (pe_not (pe_startswith (pv 0) pe_str)))) (pe_one (pe_cB (call_all rfl) rfl hall (by decide +kernel) (pa_c (pe_comp (comp_scope0 rfl rfl rfl) rfl (pi_str (pv 0)) rfl rfl (fun _ _ _ _ => pts_nil) (fun _ _ _ _ => (pe_cmpR op_in_str (pv 0) (pe_glob (v := .str "0123456789") rfl hFIGURES ⟨_, rfl⟩) (by with_unfolding_all rfl)))) pa_nil))))))), ?_⟩
  walk_at "rd"
  unfold wholeOk at q
  by_cases h1 : (1 : Int) ≤ x.length
  · by_cases h2 : (x.length : Int) ≤ m
    · rw [if_pos h1, if_pos h2]
      have e1 : decide (1 ≤ x.length) = true := decide_eq_true (by omega)
      have e2 : decide (x.length ≤ m) = true := decide_eq_true (by omega)
      rw [e1, e2] at q
      by_cases h3 : x = Str.ofString "0"
      · rw [if_pos h3]
        have e3 : decide (x = Str.ofString "0") = true := decide_eq_true h3
        rw [e3] at q
        exact allSigns (sz8 (by omega)) (by simpa using q)
      · rw [if_neg h3]
        have e3 : decide (x = Str.ofString "0") = false := decide_eq_false h3
        rw [e3] at q
        cases h4 : PySem.Txt.startswith x (Str.ofString "0") with
        | true => rw [h4] at q; exact iteF (by simpa using q H (Same.refl H))
        | false => rw [h4] at q; exact iteT (allSigns (sz8 (by omega)) (by simpa using q))
    · rw [if_pos h1, if_neg h2]
      have e2 : decide (x.length ≤ m) = false := decide_eq_false (by omega)
      rw [e2] at q
      simpa using q H (Same.refl H)
  · rw [if_neg h1]
    have e1 : decide (1 ≤ x.length) = false := decide_eq_false (by omega)
    rw [e1] at q
    simpa using q H (Same.refl H)
def spIsNum : Sp := fun vs H Q _ => ∃ x : Str, vs = [.str x] ∧ x.length ≤ sizeLine ∧ ∀ H', Same H H' → Q (.bl (numOk x)) H'
theorem ok_is_number (D : DefAt K mg "is_number" s_is_number ["word"]) {t1 : Tok} (hMF : mg "MOST_FIGURES" = some (.int 6 t1)) (G_is_whole : OkD P w K mg base 1 "is_whole" ["word", "most"] spWhole) : OkD P w K mg base 2 "is_number" ["word"] spIsNum := by
  refine D.ok sc_is_number (fun vs H Q E h => ?_) (fun f cdv A outer s H vs Q E hr h => ?_)
  · obtain ⟨x, rfl, _⟩ := h; rfl
  obtain ⟨x, rfl, hz, q⟩ := h
  refine ⟨_, (pss_one (ps_ret (pe_def G_is_whole hr rfl (pa_c (pv 0) (pa_c (pe_glob (v := .int 6) rfl hMF ⟨_, rfl⟩) pa_nil))))), ?_⟩
  walk_at "rd"
  exact ⟨x, 6, rfl, by omega, hz, fun H' g => q H' g⟩
end
end K09
namespace K09
open PySem L2
inductive Op | add | sub | mul
def Op.sg : Op → Str | .add => "+" | .sub => "-" | .mul => "*"
inductive Tr | name (x : Str) | num (n : Int) | now | own | bin (o : Op) (l r : Tr)
def Tr.toD : Tr → PyData
  | .name x => .tuple [.str "name", .str x]
  | .num n => .tuple [.str "number", .int n]
  | .now => .tuple [.str "now"]
  | .own => .tuple [.str "own"]
  | .bin o l r => .tuple [.str o.sg, l.toD, r.toD]
def leafOf (x : Str) : Option Tr := if x = "now" then some .now else if x = "own" then some .own else if nameOk x = true then some (.name x) else if numOk x = true then (PySem.intText? x).map .num else none
theorem slen (a b : Str) : (a ++ b).length = a.length + b.length := by
  show (a.cps ++ b.cps).size = _
  rw [Array.size_append]; rfl
theorem isL_mem {s : Str} {c : Nat} : isL s c = decide (c ∈ s.cps.toList) := PySem.StrLaws.found_one s c
theorem figs : (Str.ofString "0123456789").cps.toList = [48, 49, 50, 51, 52, 53, 54, 55, 56, 57] := by decide +kernel
theorem fig_dig {c : Nat} (h : isL "0123456789" c = true) : 48 ≤ c ∧ c ≤ 57 := by
  rw [isL_mem, decide_eq_true_eq] at h
  have h' : c ∈ (Str.ofString "0123456789").cps.toList := h
  rw [figs] at h'
  simp only [List.mem_cons, List.not_mem_nil, or_false] at h'
  omega
theorem num_int {x : Str} (h : numOk x = true) : x.length ≤ 6 ∧ PySem.intText? x = some ((PySem.NumText.digitsVal x.cps.toList : Nat) : Int) := by
  unfold numOk at h
  simp only [Bool.and_eq_true, decide_eq_true_eq] at h
  obtain ⟨⟨⟨h1, h2⟩, _⟩, h4⟩ := h
  refine ⟨h2, PySem.intText_digits (fun c hc => fig_dig (List.all_eq_true.mp h4 c hc)) (fun e => ?_) (by omega)⟩
  have : x.cps.toList.length = x.length := Array.length_toList
  rw [e] at this
  have e0 : (0 : Nat) = x.length := this
  omega
section
variable {P : Program} {w : World} {K : PySem.W.Frag} {mg : Str → Option Value} {base : Heap}
def spLeaf (K : PySem.W.Frag) (C : Addr) : Sp := fun vs H Q E => ∃ x : Str, vs = [.str x] ∧ x.length ≤ 100000 ∧ (∀ t, leafOf x = some t → ∀ r H', Same H H' → Rp K H' r t.toD → Q r H') ∧ (leafOf x = none → ∀ H', Same H H' → E (.ref C) none H')
theorem ok_leaf (D : DefAt K mg "leaf" s_leaf ["token"]) (G_is_name : OkD P w K mg base 1 "is_name" ["word"] spIsName) (G_is_number : OkD P w K mg base 2 "is_number" ["word"] spIsNum) {C : Addr} (O_NoRow : ExcAt K mg "NoRow" C)
    (hint : mg "int" = none) : OkR P w K mg base 3 "leaf" ["token"] (spLeaf K C) := by
  refine D.okR sc_leaf (fun vs H Q E h => ?_) (fun f cdv A outer s H vs Q E hr h => ?_)
  · obtain ⟨x, rfl, _⟩ := h; rfl
  obtain ⟨x, rfl, hz, q, qn⟩ := h
  refine ⟨_, (pss_cons (ps_if (pt_cmpR op_inG (pv 0) (pe_tupG (pa_c pe_str (pa_c pe_str pa_nil))) (by with_unfolding_all rfl))
  (pss_one (ps_ret (pe_tupG (pa_c (pv 0) pa_nil))))
  pss_nil)
  (pss_cons (ps_if (pt_val (pe_defR G_is_name.toR passR hr rfl (pa_c (pv 0) pa_nil)))
  (pss_one (ps_ret (pe_tupG (pa_c pe_str (pa_c (pv 0) pa_nil)))))
  pss_nil)
  (pss_cons (ps_if (pt_val (pe_defR G_is_number.toR passR hr rfl (pa_c (pv 0) pa_nil)))
  (pss_one (ps_ret (pe_tupG (pa_c pe_str (pa_c (pe_cTy call_int_str rfl hint (by decide +kernel) (pa_c (pv 0) pa_nil)) pa_nil)))))
  pss_nil)
  (pss_one (ps_raise raises_def rfl O_NoRow rfl (pa_c (pe_fstr (pj_cons pe_str (pj_cons (pe_fmt (pv 0)) pj_nil))) pa_nil)))))), ?_⟩
  walk_at "rd"
  intro p H1 hp g1 h1
  refine ⟨_, .inl h1, rfl, ?_⟩
  unfold leafOf at q qn
  simp only [inV_cons, inV_nil, eqV_ss, Bool.or_false, Bool.or_eq_true, decide_eq_true_eq]
  by_cases c1 : x = Str.ofString "now"
  · rw [if_pos (.inl c1.symm)]
    intro p2 H2 hp2 g2 h2
    exact q .now (if_pos c1) _ _ (g1.trans g2) (.tup h2 (.cons (by rw [c1]; exact .str _) .nil))
  · rw [if_neg c1] at q qn
    by_cases c2 : x = Str.ofString "own"
    · rw [if_pos (.inr c2.symm)]
      intro p2 H2 hp2 g2 h2
      exact q .own (if_pos c2) _ _ (g1.trans g2) (.tup h2 (.cons (by rw [c2]; exact .str _) .nil))
    · rw [if_neg c2] at q qn
      rw [if_neg (fun h => h.elim (fun h => c1 h.symm) fun h => c2 h.symm)]
      have hz' : x.length ≤ sizeLine := by unfold sizeLine; omega
      refine ⟨x, rfl, hz', fun H2 g2 => ⟨_, rfl, ?_⟩⟩
      cases c3 : nameOk x with
      | true =>
        rw [if_pos c3] at q
        refine iteT fun p3 H3 hp3 g3 h3 => ?_
        exact q _ rfl _ _ (g1.trans (g2.trans g3)) (.tup h3 (.cons (.str _) (.cons (.str _) .nil)))
      | false =>
        rw [if_neg (by rw [c3]; exact Bool.false_ne_true)] at q qn
        refine iteF ⟨x, rfl, hz', fun H3 g3 => ⟨_, rfl, ?_⟩⟩
        cases c4 : numOk x with
        | true =>
          obtain ⟨h6, hi⟩ := num_int c4
          rw [if_pos c4, hi] at q
          refine iteT ⟨_, hi, by omega, fun p4 H4 hp4 g4 h4 => ?_⟩
          exact q _ rfl _ _ (g1.trans (g2.trans (g3.trans g4))) (.tup h4 (.cons (.str _) (.cons (.int _) .nil)))
        | false =>
          rw [if_neg (by rw [c4]; exact Bool.false_ne_true)] at qn
          have hm : (Str.empty ++ Str.ofString "no factor of an expression: " ++ x).length ≤ sizeLine := by
            rw [slen, slen]
            have e1 : (Str.ofString "no factor of an expression: ").length = 28 := by decide +kernel
            have e0 : Str.empty.length = 0 := rfl
            rw [e1, e0]
            unfold sizeLine
            omega
          refine iteF ⟨by decide +kernel, hz', hm, hm, qn rfl _ (g1.trans (g2.trans g3))⟩
end
end K09
namespace K09
open PySem L2
def tokStep (s : List Str × Str) (c : Nat) : List Str × Str := if isL "+-*()" c = true then (s.1 ++ [s.2] ++ [⟨#[c]⟩], Str.ofString "") else (s.1, s.2 ++ ⟨#[c]⟩)
def tokRun (l : List Nat) : List Str × Str := l.foldl tokStep ([], Str.ofString "")
def tokAll (s : List Str × Str) : List Str := s.1 ++ [s.2]
def tokensOf (x : Str) : List Str := (tokAll (tokRun x.cps.toList)).filter (fun t => !decide (t = Str.ofString "")) ++ [Str.ofString ""]
def TokB (s : List Str × Str) (n : Nat) : Prop := s.1.length ≤ 2 * n ∧ s.2.length ≤ n
theorem tokRun_snoc (l : List Nat) (c : Nat) : tokRun (l ++ [c]) = tokStep (tokRun l) c := by unfold tokRun; rw [List.foldl_append]; rfl
theorem tokB_run : ∀ (l : List Nat) (s : List Str × Str) (n : Nat), TokB s n → TokB (l.foldl tokStep s) (n + l.length)
  | [], s, n, h => h
  | c :: l, s, n, h => by
    have e : n + (c :: l).length = (n + 1) + l.length := by rw [List.length_cons]; omega
    rw [e]
    refine tokB_run l (tokStep s c) (n + 1) ?_
    obtain ⟨h1, h2⟩ := h
    unfold tokStep TokB
    split
    · refine ⟨?_, Nat.zero_le _⟩
      show (s.1 ++ [s.2] ++ [_]).length ≤ _
      simp only [List.length_append, List.length_singleton]; omega
    · refine ⟨by show s.1.length ≤ _; omega, ?_⟩
      show (s.2 ++ _).length ≤ _
      rw [slen]
      have : (⟨#[c]⟩ : Str).length = 1 := rfl
      omega
theorem tokB (l : List Nat) : TokB (tokRun l) l.length := by
  have := tokB_run l ([], Str.ofString "") 0 ⟨Nat.le_refl _, Nat.zero_le _⟩
  rw [Nat.zero_add] at this
  exact this
theorem ix_last {d : List Str} {u : Str} : ixN ((d ++ [u]).map V.str).length (-1) = some d.length := by
  unfold ixN
  rw [if_neg (by decide), List.length_map, List.length_append, List.length_singleton, if_pos (by omega)]
  congr 1; omega
theorem at_last {d : List Str} {u : Str} : atI ((d ++ [u]).map V.str) (-1) = some (V.str u) := by
  unfold atI
  rw [ix_last]
  simp
theorem set_last {d : List Str} {u v : Str} : ((d ++ [u]).map V.str).set d.length (V.str v) = (d ++ [v]).map V.str := by
  simp
section
variable {P : Program} {w : World} {K : PySem.W.Frag} {mg : Str → Option Value} {base : Heap}
def spTok : Sp := fun vs H Q _ => ∃ x : Str, vs = [.str x] ∧ x.length ≤ 60 ∧ ∀ p H', H p = none → Same H H' → H' p = some (.lst ((tokensOf x).map V.str)) → Q (.ref p) H'
theorem none_of_same {H H' : Hp} {p : Addr} (g : Same H H') (h : H' p = none) : H p = none := by
  cases e : H p with
  | none => rfl
  | some o => rw [g _ _ e] at h; cases h
theorem ok_tokens_of (D : DefAt K mg "tokens_of" s_tokens_of ["word"]) {t1 t2 : Tok} (hSIGNS : mg "SIGNS" = some (.str "+-*()" t1)) (hLAST : mg "LAST" = some (.str "" t2)) :
    OkD P w K mg base 1 "tokens_of" ["word"] spTok := by
  refine D.ok sc_tokens_of (fun vs H Q E h => ?_) (fun f cdv A outer s H vs Q E hr h => ?_)
  · obtain ⟨x, rfl, _⟩ := h; rfl
  obtain ⟨x, rfl, hz, q⟩ := h
  refine ⟨_, (pss_cons (ps_set (i := 1) sc_tokens_of.nd rfl (Or.inl rfl) (pe_lstG (pa_c pe_str pa_nil)))
  (pss_cons (ps_for PassesOwn.never rfl (pi_str (pv 0)) (pg_name (i := 2) sc_tokens_of.nd rfl (Or.inl rfl))
  (pss_one (ps_if (pt_cmpR op_in_str (pv 2) (pe_glob (v := .str "+-*()") rfl hSIGNS ⟨_, rfl⟩) (by with_unfolding_all rfl))
  (pss_cons (ps_expr (pe_appG (pv 1) (pv 2)))
  (pss_one (ps_expr (pe_appG (pv 1) pe_str))))
  (pss_one (ps_asg (pe_op op_add_str (pe_ix ix_g (pv 1) (pe_un un_neg pe_int) (fun _ _ => rfl)) (pv 2)) (pg_sub (pv 1) (pe_un un_neg pe_int) set_listG))))))
  (pss_one (ps_ret (pe_op op_catG (pe_comp (comp_scope0 rfl rfl rfl) rfl (pi_list (pv 1)) rfl rfl (fun _ _ _ _ => (pts_one (pt_cmpR op_ne (pv 0) pe_str (nomark _)))) (fun _ _ _ _ => (pv 0))) (pe_lstG (pa_c (pe_glob (v := .str "") rfl hLAST ⟨_, rfl⟩) pa_nil))))))), ?_⟩
  walk_at "rd"
  intro p H1 hp g1 h1
  have hxl : x.cps.toList.length ≤ 60 := by rw [Array.length_toList]; exact hz
  refine tfor_str x (fun R hR => ⟨_, rfl, hR⟩) (fun l σ H2 => ∃ v, σ = [some (.str x), some (.ref p), v] ∧ Same H H2 ∧ H2 p = some (.lst ((tokAll (tokRun l)).map V.str))) ⟨_, rfl, g1, h1⟩ ?_ ?_
  · rintro l c r σ H2 hx ⟨v, rfl, g2, h2⟩
    have hl : l.length + 1 ≤ 60 := by
      have e := congrArg List.length hx
      rw [List.length_append, List.length_cons] at e
      omega
    have b := tokB l
    rw [tokRun_snoc]
    generalize tokRun l = u at h2 b
    obtain ⟨d, u⟩ := u
    obtain ⟨b1, b2⟩ := b
    have b1' : d.length ≤ 2 * l.length := b1
    have b2' : u.length ≤ l.length := b2
    unfold tokAll at h2 ⊢
    unfold tokStep
    walk_at "rd"
    have e : (!(Builtin.Str.occurrences (Str.ofString "+-*()") { cps := #[c] } 0 (Str.ofString "+-*()").length 1).isEmpty) = isL "+-*()" c := rfl
    rw [e]
    cases hc : isL "+-*()" c with
    | true =>
      refine iteT ⟨?_, fun H3 m3 => ⟨_, m3.at_, _, m3.at_, ?_, fun H4 m4 => ⟨m4.same (m3.same g2 hp) hp, ?_⟩⟩⟩
      · simp only [List.length_map, List.length_append, List.length_singleton]; unfold sizeLine; omega
      · simp only [List.length_map, List.length_append, List.length_singleton]; unfold sizeLine; omega
      · rw [m4.at_, if_pos rfl]
        simp
    | false =>
      refine iteF ⟨_, at_last, _, rfl, ?_, _, ix_last, fun H3 m3 => ⟨m3.same g2 hp, ?_⟩⟩
      · have e1 : (⟨#[c]⟩ : Str).length = 1 := rfl
        rw [e1]; unfold sizeLine; omega
      · rw [m3.at_, set_last, if_neg Bool.false_ne_true]
  · rintro σ H2 ⟨v, rfl, g2, h2⟩
    have b := tokB x.cps.toList
    have bl : (tokAll (tokRun x.cps.toList)).length ≤ 121 := by
      unfold tokAll
      rw [List.length_append, List.length_singleton]
      have := b.1
      omega
    walk_at "rd"
    refine tcomp_list p _ (fun v => match v with | .str t => !decide (t = Str.ofString "") | _ => true) id (fun R hR => ⟨_, rfl, hR⟩) h2 (by rw [List.length_map]; unfold sizeLine; omega) ?_ (fun v hv _ H Q h => ⟨_, rfl, h⟩) ?_
    · intro v hv H Q h
      obtain ⟨t, ht, rfl⟩ := List.mem_map.mp hv
      walk_at "rd"
    · intro d H3 hd g3 h3 p4 H4 hp4 g4 h4
      have ef : (((tokAll (tokRun x.cps.toList)).map V.str).filter (fun v => match v with | .str t => !decide (t = Str.ofString "") | _ => true)).map id = ((tokAll (tokRun x.cps.toList)).filter (fun t => !decide (t = Str.ofString ""))).map V.str := by
        rw [List.map_id, List.filter_map]; rfl
      rw [ef] at h3
      refine ⟨_, rfl, _, g4 _ _ h3, _, h4, ?_, fun p5 H5 hp5 g5 h5 => q _ _ (none_of_same (g2.trans (g3.trans g4)) hp5) (g2.trans (g3.trans (g4.trans g5))) ?_⟩
      · rw [List.length_map]
        have := List.length_filter_le (fun t => !decide (t = Str.ofString "")) (tokAll (tokRun x.cps.toList))
        rw [List.length_singleton]
        unfold sizeLine; omega
      · rw [h5]; unfold tokensOf; rw [List.map_append]; rfl
end
end K09
namespace K09
open PySem L2
abbrev Pz := List Str → Option (Tr × List Str)
def closeF : Option (Tr × List Str) → Option (Tr × List Str)
  | some (e, t :: r) => if t = Str.ofString ")" then some (e, r) else none
  | _ => none
def factorF (sub : Pz) : Pz
  | [] => none
  | t :: r => if t = Str.ofString "(" then closeF (sub r) else (leafOf t).map (·, r)
theorem factorF_cons {sub : Pz} {t : Str} {r : List Str} : factorF sub (t :: r) = if t = Str.ofString "(" then closeF (sub r) else (leafOf t).map (·, r) := rfl
def loopF (f : Pz) (sg : Str → Option Op) : Nat → Tr → Pz
  | 0, e, rest => some (e, rest)
  | n + 1, e, rest => match rest with
    | [] => some (e, [])
    | t :: r => match sg t with
      | none => some (e, t :: r)
      | some o => match f r with
        | none => none
        | some (e2, r2) => loopF f sg n (.bin o e e2) r2
def chainF (f : Pz) (sg : Str → Option Op) : Pz := fun rest => match f rest with
  | none => none
  | some (e, r) => loopF f sg r.length e r
def sgMul (t : Str) : Option Op := if t = Str.ofString "*" then some .mul else none
def sgSum (t : Str) : Option Op := if t = Str.ofString "+" then some .add else if t = Str.ofString "-" then some .sub else none
def smF : Nat → Pz
  | 0 => chainF (chainF (factorF fun _ => none) sgMul) sgSum
  | k + 1 => chainF (chainF (factorF (smF k)) sgMul) sgSum
def Ends (l : List Str) : Prop := l.getLast? = some (Str.ofString "")
theorem Ends.drop {l : List Str} {n : Nat} (h : Ends l) (hn : n < l.length) : Ends (l.drop n) := by
  unfold Ends at h ⊢
  rw [List.getLast?_drop, if_neg (by omega)]; exact h
def Suf (f : Pz) : Prop := ∀ rest e r', Ends rest → f rest = some (e, r') → ∃ n, 0 < n ∧ n < rest.length ∧ r' = rest.drop n
theorem leaf_last : leafOf (Str.ofString "") = none := by decide +kernel
theorem sgMul_last : sgMul (Str.ofString "") = none := by decide +kernel
theorem sgSum_last : sgSum (Str.ofString "") = none := by decide +kernel
end K09
namespace K09
open PySem L2
structure TokOk (T : List Str) : Prop where
  ends : Ends T
  few : T.length ≤ 1000
  short : ∀ t ∈ T, t.length ≤ 100000
theorem closeF_cons {e : Tr} {t : Str} {r : List Str} : closeF (some (e, t :: r)) = if t = Str.ofString ")" then some (e, r) else none := rfl
theorem at_nat {T : List Str} {i : Nat} (h : i < T.length) : atI (T.map V.str) (i : Int) = some (V.str T[i]) := by
  unfold atI ixN
  rw [if_pos (by omega), List.length_map, if_pos (by omega)]
  simp [h]
section
variable {P : Program} {w : World} {K : PySem.W.Frag} {mg : Str → Option Value} {base : Heap}
def spRd (K : PySem.W.Frag) (C : Addr) (f : Pz) (d : Nat) : Sp := fun vs H Q E => ∃ (p : Addr) (T : List Str) (i : Nat), vs = [.ref p, .int i, .int d] ∧ H p = some (.lst (T.map V.str)) ∧ TokOk T ∧ i < T.length ∧
  (∀ e n, f (T.drop i) = some (e, T.drop n) → i < n → n < T.length → ∀ r a H', Same H H' → H' r = some (.tup [a, .int (n : Nat)]) → Rp K H' a e.toD → Q (.ref r) H') ∧ (f (T.drop i) = none → ∀ H', Same H H' → E (.ref C) none H')
theorem ok_read_factor (D : DefAt K mg "read_factor" s_read_factor ["tokens", "at", "depth"]) {C : Addr} {n k : Nat} {sub : Pz} {t1 : Tok} (hk : k ≤ 5) (h0 : k = 0 → ∀ l, sub l = none) (hMB : mg "MOST_BRACKETS" = some (.int 5 t1)) (O_NoRow : ExcAt K mg "NoRow" C)
    (G_leaf : OkR P w K mg base 3 "leaf" ["token"] (spLeaf K C)) {spS : Sp} (hS : k ≠ 0 → ∀ vs H Q E, spRd K C sub (6 - k) vs H Q E → spS vs H Q E) (G_read_sum : OkR P w K mg base n "read_sum" ["tokens", "at", "depth"] spS) (hn : 3 ≤ n) : OkR P w K mg base (n + 1) "read_factor" ["tokens", "at", "depth"] (spRd K C (factorF sub) (5 - k)) := by
  refine D.okR sc_read_factor (fun vs H Q E h => ?_) (fun f cdv A outer s H vs Q E hr h => ?_)
  · obtain ⟨p, T, i, rfl, _⟩ := h; rfl
  obtain ⟨p, T, i, rfl, hp, hT, hi, q, qn⟩ := h
  refine ⟨_, (pss_cons (ps_if (pt_cmpR op_ne (pe_ix ix_g (pv 0) (pv 1) (fun _ _ => rfl)) pe_str (nomark _))
  (pss_one (ps_ret (pe_tupG (pa_c (pe_defR G_leaf passR hr rfl (pa_c (pe_ix ix_g (pv 0) (pv 1) (fun _ _ => rfl)) pa_nil)) (pa_c (pe_op op_add (pv 1) pe_int) pa_nil)))))
  pss_nil)
  (pss_cons (ps_if (pt_cmpR op_eq (pv 2) (pe_glob (v := .int 5) rfl hMB ⟨_, rfl⟩) (nomark _))
  (pss_one (ps_raise raises_def rfl O_NoRow rfl (pa_c pe_str pa_nil)))
  pss_nil)
  (pss_cons (ps_asg (pe_defR G_read_sum passR hr rfl (pa_c (pv 0) (pa_c (pe_op op_add (pv 1) pe_int) (pa_c (pe_op op_add (pv 2) pe_int) pa_nil)))) (pg_tupG 2 rfl (pgs_cons (pg_name (i := 3) sc_read_factor.nd rfl (Or.inl rfl)) (pgs_cons (pg_name (i := 1) sc_read_factor.nd rfl (Or.inl rfl)) pgs_nil))))
  (pss_cons (ps_if (pt_cmpR op_ne (pe_ix ix_g (pv 0) (pv 1) (fun _ _ => rfl)) pe_str (nomark _))
  (pss_one (ps_raise raises_def rfl O_NoRow rfl (pa_c pe_str pa_nil)))
  pss_nil)
  (pss_one (ps_ret (pe_tupG (pa_c (pv 3) (pa_c (pe_op op_add (pv 1) pe_int) pa_nil))))))))), ?_⟩
  have ha := at_nat hi
  walk_at "rd"
  have hd : T.drop i = T[i] :: T.drop (i + 1) := List.drop_eq_getElem_cons hi
  rw [hd, factorF_cons] at q qn
  by_cases c : T[i] = Str.ofString "("
  · rw [decide_eq_true c]
    rw [if_pos c] at q qn
    refine iteF (ite2 (fun c5 => ?_) (fun c5 => ?_))
    · rw [h0 (by omega)] at qn
      exact qn rfl H (Same.refl H)
    · have hi1 : i + 1 < T.length := by
        by_cases hh : i + 1 < T.length
        · exact hh
        · have he := hT.ends.drop hi
          rw [hd, List.drop_eq_nil_of_le (by omega)] at he
          unfold Ends at he
          rw [List.getLast?_singleton, c] at he
          exact absurd he (by decide +kernel)
      refine hS (by omega) _ _ _ _ ⟨p, T, i + 1, ?_, hp, hT, hi1, fun e n hf h1 h2 r a H1 g1 hr1 ra => ⟨r, rfl, _, hr1, rfl, _, _, rfl, _, _, rfl, rfl, _, rfl, _, .inr (g1 _ _ hp), _, at_nat h2, rfl, ?_⟩, fun hf H1 g1 => ?_⟩
      · have e6 : ((5 - k : Nat) : Int) + 1 = ((6 - k : Nat) : Int) := by omega
        rw [e6]; rfl
      · have hdn : T.drop n = T[n] :: T.drop (n + 1) := List.drop_eq_getElem_cons h2
        rw [hf, hdn] at q qn
        rw [closeF_cons] at q qn
        by_cases c2 : T[n] = Str.ofString ")"
        · rw [c2, decide_eq_true rfl]
          rw [if_pos c2] at q
          refine iteF ⟨_, rfl, fun p2 H2 hp2 g2 h2' => ?_⟩
          have hn1 : n + 1 < T.length := by
            by_cases hh : n + 1 < T.length
            · exact hh
            · have he := hT.ends.drop h2
              rw [hdn, List.drop_eq_nil_of_le (by omega)] at he
              unfold Ends at he
              rw [List.getLast?_singleton, c2] at he
              exact absurd he (by decide +kernel)
          exact q e (n + 1) rfl (by omega) hn1 _ _ _ (g1.trans g2) h2' (Rp.mono g2 ra)
        · rw [if_neg c2] at qn
          rw [decide_eq_false (fun h => c2 (V.str.inj h))]
          exact iteT (qn rfl _ g1)
      · rw [hf] at qn
        exact qn rfl _ g1
  · rw [decide_eq_false c]
    rw [if_neg c] at q qn
    refine iteT ⟨T[i], rfl, hT.short _ (List.getElem_mem hi), fun t ht a H1 g1 ra p2 H2 hp2 g2 h2 => ?_, fun hl H1 g1 => ?_⟩
    · rw [ht] at q
      have hi1 : i + 1 < T.length := by
        by_cases hh : i + 1 < T.length
        · exact hh
        · have he := hT.ends.drop hi
          rw [hd, List.drop_eq_nil_of_le (by omega)] at he
          unfold Ends at he
          rw [List.getLast?_singleton] at he
          rw [Option.some.inj he, leaf_last] at ht; cases ht
      exact q t (i + 1) rfl (by omega) hi1 _ _ _ (g1.trans g2) h2 (Rp.mono g2 ra)
    · rw [hl] at qn
      exact qn rfl _ g1
end
end K09
namespace K09
open PySem L2
section
variable {P : Program} {w : World} {K : PySem.W.Frag} {mg : Str → Option Value} {base : Heap}
def LoopS (K : PySem.W.Frag) (C : Addr) (f : Pz) (sg : Str → Option Op) (H : Hp) (T : List Str) (i : Nat) (Q : VK) (E : XK) (j : Nat) (a : V) (H2 : Hp) : Prop := ∃ (n : Nat) (e : Tr), Same H H2 ∧ Rp K H2 a e.toD ∧ i < j ∧ j < T.length ∧ (T.drop j).length ≤ n ∧
  (∀ e' k, loopF f sg n e (T.drop j) = some (e', T.drop k) → i < k → k < T.length → ∀ r a H', Same H H' → H' r = some (.tup [a, .int (k : Nat)]) → Rp K H' a e'.toD → Q (.ref r) H') ∧ (loopF f sg n e (T.drop j) = none → ∀ H', Same H H' → E (.ref C) none H')
theorem loopF_cons {f : Pz} {sg : Str → Option Op} {n : Nat} {e : Tr} {t : Str} {r : List Str} : loopF f sg (n + 1) e (t :: r) = match sg t with
      | none => some (e, t :: r)
      | some o => match f r with
        | none => none
        | some (e2, r2) => loopF f sg n (.bin o e e2) r2 := rfl
section
variable {C : Addr} {f : Pz} {sg : Str → Option Op} {H : Hp} {T : List Str} {i : Nat} {Q : VK} {E : XK} {j : Nat} {a : V} {H2 : Hp}
theorem LoopS.mono {H3 : Hp} (L : LoopS K C f sg H T i Q E j a H2) (g : Same H2 H3) : LoopS K C f sg H T i Q E j a H3 := by
  obtain ⟨n, e, g2, ra, r⟩ := L
  exact ⟨n, e, g2.trans g, Rp.mono g ra, r⟩
theorem LoopS.stop (L : LoopS K C f sg H T i Q E j a H2) (h : ∀ hj : j < T.length, sg T[j] = none) {p : Addr} {H' : Hp} (g : Same H2 H') (hp : H' p = some (.tup [a, .int (j : Nat)])) : Q (.ref p) H' := by
  obtain ⟨n, e, g2, ra, h1, h2, hn, q, qn⟩ := L
  have hd : T.drop j = T[j] :: T.drop (j + 1) := List.drop_eq_getElem_cons h2
  cases n with
  | zero => rw [List.length_drop] at hn; omega
  | succ n =>
    refine q e j ?_ h1 h2 p a H' (g2.trans g) hp (Rp.mono g ra)
    rw [hd, loopF_cons, h h2]
theorem LoopS.step (L : LoopS K C f sg H T i Q E j a H2) (hsg : sg (Str.ofString "") = none) {o : Op} (h : ∀ hj : j < T.length, sg T[j] = some o) (hT : TokOk T) {p : Addr} (hp : H2 p = some (.lst (T.map V.str))) {d : Nat} {Q' : VK}
    (hq : ∀ j' r ar H3, j < j' → j' < T.length → Same H2 H3 → H3 r = some (.tup [ar, .int (j' : Nat)]) → (∀ q H4, Same H3 H4 → H4 q = some (.tup [.str o.sg, a, ar]) → LoopS K C f sg H T i Q E j' (.ref q) H4) → Q' (.ref r) H3) :
    spRd K C f d [.ref p, .int ((j : Int) + 1), .int d] H2 Q' E := by
  obtain ⟨n, e, g2, ra, h1, h2, hn, q, qn⟩ := L
  have hd : T.drop j = T[j] :: T.drop (j + 1) := List.drop_eq_getElem_cons h2
  have hj1 : j + 1 < T.length := by
    by_cases hh : j + 1 < T.length
    · exact hh
    · have he := hT.ends.drop h2
      rw [hd, List.drop_eq_nil_of_le (by omega)] at he
      unfold Ends at he
      rw [List.getLast?_singleton] at he
      have := h h2
      rw [Option.some.inj he, hsg] at this; cases this
  cases n with
  | zero => rw [List.length_drop] at hn; omega
  | succ n =>
    rw [hd, loopF_cons, h h2] at q qn
    refine ⟨p, T, j + 1, rfl, hp, hT, hj1, fun e2 k hf h3 h4 r ar H3 g3 hr3 rar => hq k r ar H3 (by omega) h4 g3 hr3 fun q4 H4 g4 h4' => ?_, fun hf H3 g3 => ?_⟩
    · simp only [hf] at q qn
      refine ⟨n, .bin o e e2, g2.trans (g3.trans g4), .tup h4' (.cons (.str _) (.cons (Rp.mono (g3.trans g4) ra) (.cons (Rp.mono g4 rar) .nil))), by omega, h4, ?_, q, qn⟩
      rw [List.length_drop] at hn ⊢
      omega
    · simp only [hf] at qn
      exact qn trivial _ (g2.trans g3)
end
theorem ok_read_term (D : DefAt K mg "read_term" s_read_term ["tokens", "at", "depth"]) {C : Addr} {n d : Nat} {f : Pz}
    (G_read_factor : OkR P w K mg base n "read_factor" ["tokens", "at", "depth"] (spRd K C f d)) : OkR P w K mg base (n + 1) "read_term" ["tokens", "at", "depth"] (spRd K C (chainF f sgMul) d) := by
  refine D.okR sc_read_term (fun vs H Q E h => ?_) (fun ff cdv A outer s H vs Q E hr h => ?_)
  · obtain ⟨p, T, i, rfl, _⟩ := h; rfl
  obtain ⟨p, T, i, rfl, hp, hT, hi, q, qn⟩ := h
  refine ⟨_, (pss_cons (ps_asg (pe_defR G_read_factor passR hr rfl (pa_c (pv 0) (pa_c (pv 1) (pa_c (pv 2) pa_nil)))) (pg_tupG 2 rfl (pgs_cons (pg_name (i := 3) sc_read_term.nd rfl (Or.inl rfl)) (pgs_cons (pg_name (i := 1) sc_read_term.nd rfl (Or.inl rfl)) pgs_nil))))
  (pss_cons (ps_while owns_def (pt_cmpR op_eq (pe_ix ix_g (pv 0) (pv 1) (fun _ _ => rfl)) pe_str (nomark _))
  (pss_cons (ps_asg (pe_defR G_read_factor passR hr rfl (pa_c (pv 0) (pa_c (pe_op op_add (pv 1) pe_int) (pa_c (pv 2) pa_nil)))) (pg_tupG 2 rfl (pgs_cons (pg_name (i := 4) sc_read_term.nd rfl (Or.inl rfl)) (pgs_cons (pg_name (i := 1) sc_read_term.nd rfl (Or.inl rfl)) pgs_nil))))
  (pss_one (ps_set (i := 3) sc_read_term.nd rfl (Or.inl rfl) (pe_tupG (pa_c pe_str (pa_c (pv 3) (pa_c (pv 4) pa_nil))))))))
  (pss_one (ps_ret (pe_tupG (pa_c (pv 3) (pa_c (pv 1) pa_nil))))))), ?_⟩
  walk_at "rd"
  refine ⟨p, T, i, rfl, hp, hT, hi, fun e j hj h1 h2 r a H1 g1 hr1 ra => ⟨r, rfl, _, hr1, rfl, _, _, rfl, _, _, rfl, rfl, ?_⟩, fun hj H1 g1 => qn (by unfold chainF; rw [hj]) _ g1⟩
  have hres : chainF f sgMul (T.drop i) = loopF f sgMul (T.drop j).length e (T.drop j) := by unfold chainF; rw [hj]
  rw [hres] at q qn
  refine ⟨fun m σ H2 => ∃ (j : Nat) (a : V) (v : Option V), σ = [some (.ref p), some (.int j), some (.int d), some a, v] ∧ m = T.length - j ∧ LoopS K C f sgMul H T i Q E j a H2, ⟨_, j, a, _, rfl, rfl, _, e, g1, ra, h1, h2, Nat.le_refl _, q, qn⟩, ?_⟩
  clear q qn hres hj hr1 g1 ra h2 h1 hi
  rintro m σ H2 ⟨j, a, v, rfl, rfl, L⟩
  obtain ⟨n, e, g2, _, _, h2, _⟩ := id L
  have hp2 := g2 _ _ hp
  have ha := at_nat h2
  walk_at "rd"
  refine ite2 (fun c => ?_) (fun c => ?_)
  · refine ⟨fun σ' H' => ∃ (j' : Nat) (a : V) (v : Option V), σ' = [some (.ref p), some (.int j'), some (.int d), some a, v] ∧ j < j' ∧ j' < T.length ∧ LoopS K C f sgMul H T i Q E j' a H', fun σ' H' ⟨j', a, v, e, hl, hl2, L'⟩ => ⟨T.length - j', by omega, j', a, v, e, rfl, L'⟩, ?_⟩
    refine L.step sgMul_last (o := .mul) (fun _ => if_pos c) hT hp2 fun j' r ar H3 hj hj2 g3 hr3 hL => ⟨r, rfl, _, hr3, rfl, _, _, rfl, _, _, rfl, rfl, fun p4 H4 hp4 g4 h4 => ⟨j', _, _, rfl, hj, hj2, hL p4 H4 g4 h4⟩⟩
  · intro p3 H3 hp3 g3 h3
    exact L.stop (fun _ => if_neg c) g3 h3
theorem ok_read_sum (D : DefAt K mg "read_sum" s_read_sum ["tokens", "at", "depth"]) {C : Addr} {n d : Nat} {f : Pz}
    (G_read_term : OkR P w K mg base n "read_term" ["tokens", "at", "depth"] (spRd K C f d)) : OkR P w K mg base (n + 1) "read_sum" ["tokens", "at", "depth"] (spRd K C (chainF f sgSum) d) := by
  refine D.okR sc_read_sum (fun vs H Q E h => ?_) (fun ff cdv A outer s H vs Q E hr h => ?_)
  · obtain ⟨p, T, i, rfl, _⟩ := h; rfl
  obtain ⟨p, T, i, rfl, hp, hT, hi, q, qn⟩ := h
  refine ⟨_, (pss_cons (ps_asg (pe_defR G_read_term passR hr rfl (pa_c (pv 0) (pa_c (pv 1) (pa_c (pv 2) pa_nil)))) (pg_tupG 2 rfl (pgs_cons (pg_name (i := 3) sc_read_sum.nd rfl (Or.inl rfl)) (pgs_cons (pg_name (i := 1) sc_read_sum.nd rfl (Or.inl rfl)) pgs_nil))))
  (pss_cons (ps_while owns_def (pt_cmpR op_inG (pe_ix ix_g (pv 0) (pv 1) (fun _ _ => rfl)) (pe_tupG (pa_c pe_str (pa_c pe_str pa_nil))) (by with_unfolding_all rfl))
  (pss_cons (ps_set (i := 4) sc_read_sum.nd rfl (Or.inl rfl) (pe_ix ix_g (pv 0) (pv 1) (fun _ _ => rfl)))
  (pss_cons (ps_asg (pe_defR G_read_term passR hr rfl (pa_c (pv 0) (pa_c (pe_op op_add (pv 1) pe_int) (pa_c (pv 2) pa_nil)))) (pg_tupG 2 rfl (pgs_cons (pg_name (i := 5) sc_read_sum.nd rfl (Or.inl rfl)) (pgs_cons (pg_name (i := 1) sc_read_sum.nd rfl (Or.inl rfl)) pgs_nil))))
  (pss_one (ps_set (i := 3) sc_read_sum.nd rfl (Or.inl rfl) (pe_tupG (pa_c (pv 4) (pa_c (pv 3) (pa_c (pv 5) pa_nil)))))))))
  (pss_one (ps_ret (pe_tupG (pa_c (pv 3) (pa_c (pv 1) pa_nil))))))), ?_⟩
  walk_at "rd"
  refine ⟨p, T, i, rfl, hp, hT, hi, fun e j hj h1 h2 r a H1 g1 hr1 ra => ⟨r, rfl, _, hr1, rfl, _, _, rfl, _, _, rfl, rfl, ?_⟩, fun hj H1 g1 => qn (by unfold chainF; rw [hj]) _ g1⟩
  have hres : chainF f sgSum (T.drop i) = loopF f sgSum (T.drop j).length e (T.drop j) := by unfold chainF; rw [hj]
  rw [hres] at q qn
  refine ⟨fun m σ H2 => ∃ (j : Nat) (a : V) (v v' : Option V), σ = [some (.ref p), some (.int j), some (.int d), some a, v, v'] ∧ m = T.length - j ∧ LoopS K C f sgSum H T i Q E j a H2, ⟨_, j, a, _, _, rfl, rfl, _, e, g1, ra, h1, h2, Nat.le_refl _, q, qn⟩, ?_⟩
  clear q qn hres hj hr1 g1 ra h2 h1 hi
  rintro m σ H2 ⟨j, a, v, v', rfl, rfl, L⟩
  obtain ⟨n, e, g2, ra, h1, h2, hn, q, qn⟩ := id L
  have hp2 := g2 _ _ hp
  have ha := at_nat h2
  walk_at "rd"
  clear ra h1 hn q qn
  intro p3 H3 hp3 g3 h3
  refine ⟨_, .inl h3, rfl, ?_⟩
  simp only [inV_cons, inV_nil, eqV_ss, Bool.or_false, Bool.or_eq_true, decide_eq_true_eq]
  have L3 := L.mono g3
  refine ite2 (fun c => ?_) (fun c => ?_)
  · refine ⟨fun σ' H' => ∃ (j' : Nat) (a : V) (v v' : Option V), σ' = [some (.ref p), some (.int j'), some (.int d), some a, v, v'] ∧ j < j' ∧ j' < T.length ∧ LoopS K C f sgSum H T i Q E j' a H', fun σ' H' ⟨j', a, v, v', e, hl, hl2, L'⟩ => ⟨T.length - j', by omega, j', a, v, v', e, rfl, L'⟩, _, .inr (g3 _ _ hp2), _, ha, ?_⟩
    have ho : ∃ o : Op, T[j] = o.sg ∧ sgSum T[j] = some o := by
      rcases c with c | c
      · exact ⟨.add, c.symm, if_pos c.symm⟩
      · refine ⟨.sub, c.symm, ?_⟩
        unfold sgSum
        rw [← c, if_neg (by decide +kernel), if_pos rfl]
    obtain ⟨o, ho1, ho2⟩ := ho
    rw [ho1]
    refine L3.step sgSum_last (o := o) (fun _ => ho2) hT (g3 _ _ hp2) fun j' r ar H4 hj hj2 g4 hr4 hL => ⟨r, rfl, _, hr4, rfl, _, _, rfl, _, _, rfl, rfl, fun p5 H5 hp5 g5 h5 => ⟨j', _, _, _, rfl, hj, hj2, hL p5 H5 g5 h5⟩⟩
  · intro p4 H4 hp4 g4 h4
    refine L3.stop (fun _ => ?_) g4 h4
    unfold sgSum
    rw [if_neg (fun h => c (.inl h.symm)), if_neg (fun h => c (.inr h.symm))]
end
end K09
namespace K09
open PySem L2
def exprOf (x : Str) : Option Tr := if 60 < x.length then none else match smF 5 (tokensOf x) with
  | some (e, t :: _) => if t = Str.ofString "" then some e else none
  | _ => none
def TokS (s : List Str × Str) (n : Nat) : Prop := (∀ t ∈ s.1, t.length ≤ n) ∧ s.2.length ≤ n
theorem tokS_run : ∀ (l : List Nat) (s : List Str × Str) (n : Nat), TokS s n → TokS (l.foldl tokStep s) (n + l.length)
  | [], s, n, h => h
  | c :: l, s, n, h => by
    have e : n + (c :: l).length = (n + 1) + l.length := by rw [List.length_cons]; omega
    rw [e]
    refine tokS_run l (tokStep s c) (n + 1) ?_
    obtain ⟨h1, h2⟩ := h
    have h3 : (⟨#[c]⟩ : Str).length = 1 := rfl
    unfold tokStep TokS
    split
    · refine ⟨fun t ht => ?_, Nat.zero_le _⟩
      have ht' : t ∈ s.1 ++ [s.2] ++ [⟨#[c]⟩] := ht
      simp only [List.mem_append, List.mem_singleton] at ht'
      rcases ht' with (h | rfl) | rfl
      · have := h1 t h; omega
      · omega
      · omega
    · refine ⟨fun t ht => Nat.le_succ_of_le (h1 t ht), ?_⟩
      show (s.2 ++ _).length ≤ _
      rw [slen]; omega
theorem tok_ok {x : Str} (h : x.length ≤ 60) : TokOk (tokensOf x) := by
  have hl : x.cps.toList.length = x.length := Array.length_toList
  refine ⟨?_, ?_, fun t ht => ?_⟩
  · unfold Ends tokensOf; rw [List.getLast?_concat]
  · unfold tokensOf
    have h1 := List.length_filter_le (fun t => !decide (t = Str.ofString "")) (tokAll (tokRun x.cps.toList))
    have h2 := (tokB x.cps.toList).1
    have h3 : (tokAll (tokRun x.cps.toList)).length = (tokRun x.cps.toList).1.length + 1 := by unfold tokAll; rw [List.length_append, List.length_singleton]
    rw [List.length_append, List.length_singleton]
    omega
  · have b := tokS_run x.cps.toList ([], Str.ofString "") 0 (And.intro (fun t ht => absurd ht (List.not_mem_nil)) (Nat.zero_le _))
    unfold tokensOf at ht
    rw [List.mem_append] at ht
    rcases ht with ht | ht
    · have hm := (List.mem_filter.mp ht).1
      unfold tokAll at hm
      rw [List.mem_append, List.mem_singleton] at hm
      rcases hm with hm | rfl
      · have := b.1 t hm; omega
      · have : (tokRun x.cps.toList).2.length ≤ 0 + x.cps.toList.length := b.2
        omega
    · rw [List.mem_singleton.mp ht]; exact Nat.zero_le _
section
variable {P : Program} {w : World} {K : PySem.W.Frag} {mg : Str → Option Value} {base : Heap}
theorem ok_sums {C : Addr} {t1 : Tok} (Df : DefAt K mg "read_factor" s_read_factor ["tokens", "at", "depth"]) (Dt : DefAt K mg "read_term" s_read_term ["tokens", "at", "depth"]) (Ds : DefAt K mg "read_sum" s_read_sum ["tokens", "at", "depth"])
    (hMB : mg "MOST_BRACKETS" = some (.int 5 t1)) (O : ExcAt K mg "NoRow" C) (G_leaf : OkR P w K mg base 3 "leaf" ["token"] (spLeaf K C)) :
    ∀ k, k ≤ 5 → OkR P w K mg base (3 * k + 6) "read_sum" ["tokens", "at", "depth"] (spRd K C (smF k) (5 - k))
  | 0, _ => ok_read_sum Ds (ok_read_term Dt (ok_read_factor Df (k := 0) (by omega) (fun _ _ => rfl) hMB O G_leaf (spS := fun _ _ _ _ => False) (fun h => absurd rfl h) (Ds.neverR 3 fun _ _ _ _ h => h) (Nat.le_refl _)))
  | k + 1, hk => by
    have e : 5 - k = 6 - (k + 1) := by omega
    have G := ok_sums Df Dt Ds hMB O G_leaf k (by omega)
    rw [e] at G
    exact ok_read_sum Ds (ok_read_term Dt (ok_read_factor Df (k := k + 1) hk (fun h => by omega) hMB O G_leaf (fun _ _ _ _ _ h => h) G (by omega)))
def spExpr (K : PySem.W.Frag) (C : Addr) : Sp := fun vs H Q E => ∃ x : Str, vs = [.str x] ∧ x.length ≤ 100000 ∧ (∀ t, exprOf x = some t → ∀ r H', Same H H' → Rp K H' r t.toD → Q r H') ∧ (exprOf x = none → ∀ H', Same H H' → E (.ref C) none H')
theorem ok_expression (D : DefAt K mg "expression" s_expression ["word"]) {C : Addr} {t1 t2 : Tok} (hMS : mg "MOST_SIGNS" = some (.int 60 t1)) (hLAST : mg "LAST" = some (.str "" t2)) (hlen : mg "len" = none) (O_NoRow : ExcAt K mg "NoRow" C)
    (G_tokens_of : OkD P w K mg base 1 "tokens_of" ["word"] spTok) (G_read_sum : OkR P w K mg base 21 "read_sum" ["tokens", "at", "depth"] (spRd K C (smF 5) 0)) : OkR P w K mg base 22 "expression" ["word"] (spExpr K C) := by
  refine D.okR sc_expression (fun vs H Q E h => ?_) (fun f cdv A outer s H vs Q E hr h => ?_)
  · obtain ⟨x, rfl, _⟩ := h; rfl
  obtain ⟨x, rfl, hz, q, qn⟩ := h
  refine ⟨_, (pss_cons (ps_if (pt_cmpR op_gt (pe_cB call_len_str rfl hlen PySem.boot_len (pa_c (pv 0) pa_nil)) (pe_glob (v := .int 60) rfl hMS ⟨_, rfl⟩) (nomark _))
  (pss_one (ps_raise raises_def rfl O_NoRow rfl (pa_c pe_str pa_nil)))
  pss_nil)
  (pss_cons (ps_set (i := 1) sc_expression.nd rfl (Or.inl rfl) (pe_defR G_tokens_of.toR passR hr rfl (pa_c (pv 0) pa_nil)))
  (pss_cons (ps_asg (pe_defR G_read_sum passR hr rfl (pa_c (pv 1) (pa_c pe_int (pa_c pe_int pa_nil)))) (pg_tupG 2 rfl (pgs_cons (pg_name (i := 2) sc_expression.nd rfl (Or.inl rfl)) (pgs_cons (pg_name (i := 3) sc_expression.nd rfl (Or.inl rfl)) pgs_nil))))
  (pss_cons (ps_if (pt_cmpR op_ne (pe_ix ix_g (pv 1) (pv 3) (fun _ _ => rfl)) (pe_glob (v := .str "") rfl hLAST ⟨_, rfl⟩) (nomark _))
  (pss_one (ps_raise raises_def rfl O_NoRow rfl (pa_c (pe_fstr (pj_cons pe_str (pj_cons (pe_fmt (pv 0)) pj_nil))) pa_nil)))
  pss_nil)
  (pss_one (ps_ret (pv 2))))))), ?_⟩
  have hz' : x.length ≤ sizeLine := by unfold sizeLine; omega
  walk_at "rd"
  refine ite2 (fun c => ?_) (fun c => ?_)
  · refine qn ?_ H (Same.refl H)
    unfold exprOf; rw [if_pos (by omega)]
  · have c60 : x.length ≤ 60 := by omega
    unfold exprOf at q qn
    rw [if_neg (by omega)] at q qn
    have hT := tok_ok c60
    have h0 : 0 < (tokensOf x).length := by unfold tokensOf; rw [List.length_append, List.length_singleton]; omega
    refine ⟨x, rfl, c60, fun p H1 hp g1 h1 => ⟨p, _, 0, rfl, h1, hT, h0, fun e n hf hn0 hn r a H2 g2 hr2 ra => ⟨r, rfl, _, hr2, rfl, _, _, rfl, _, _, rfl, rfl, p, rfl, _, rfl, _, .inr (g2 _ _ h1), _, at_nat hn, rfl, ?_⟩, fun hf H2 g2 => ?_⟩⟩
    · rw [List.drop_zero, List.drop_eq_getElem_cons hn] at hf
      rw [hf] at q qn
      by_cases ce : (tokensOf x)[n] = Str.ofString ""
      · rw [ce, decide_eq_true rfl]
        exact iteF (q e (if_pos ce) a H2 (g1.trans g2) ra)
      · rw [decide_eq_false (fun h => ce (V.str.inj h))]
        have hm : (Str.empty ++ Str.ofString "no expression: " ++ x).length ≤ sizeLine := by
          rw [slen, slen]
          have e1 : (Str.ofString "no expression: ").length = 15 := by decide +kernel
          have e0 : Str.empty.length = 0 := rfl
          rw [e1, e0]
          unfold sizeLine
          omega
        exact iteT ⟨by decide +kernel, hm, hm, qn (if_neg ce) H2 (g1.trans g2)⟩
    · rw [List.drop_zero] at hf
      rw [hf] at qn
      exact qn rfl H2 (g1.trans g2)
end
end K09
namespace K09
open PySem L2
def partOf (k x : Str) : Option PyData := if k = "expression" then (exprOf x).map Tr.toD else if k = "number" ∧ numOk x = true then (PySem.intText? x).map .int else if k = "name" ∧ nameOk x = true then some (.str x) else if k = "sign" ∧ (x = "<" ∨ x = "=") then some (.str x) else none
section
variable {P : Program} {w : World} {K : PySem.W.Frag} {mg : Str → Option Value} {base : Heap}
theorem cat_len (a b : Str) : (a ++ b).length = a.length + b.length := slen a b
theorem len_emp : Str.empty.length = 0 := rfl
def spPart (K : PySem.W.Frag) (C : Addr) : Sp := fun vs H Q E => ∃ k x : Str, vs = [.str k, .str x] ∧ k.length ≤ 100 ∧ x.length ≤ 100000 ∧ (∀ d, partOf k x = some d → ∀ r H', Same H H' → Rp K H' r d → Q r H') ∧ (partOf k x = none → ∀ H', Same H H' → E (.ref C) none H')
theorem ok_part {C : Addr} (D : DefAt K mg "part" s_part ["kind", "word"]) (G_expression : OkR P w K mg base 22 "expression" ["word"] (spExpr K C)) (G_is_name : OkD P w K mg base 1 "is_name" ["word"] spIsName) (G_is_number : OkD P w K mg base 2 "is_number" ["word"] spIsNum) (hint : mg "int" = none) (O_NoRow : ExcAt K mg "NoRow" C) : OkR P w K mg base 23 "part" ["kind", "word"] (spPart K C) := by
  refine D.okR sc_part (fun vs H Q E h => ?_) (fun f cdv A outer s H vs Q E hr h => ?_)
  · obtain ⟨k, x, rfl, _⟩ := h; rfl
  obtain ⟨k, x, rfl, hk, hx, q, e⟩ := h
  have big : 2000000 ≤ sizeLine := by unfold sizeLine; decide
  refine ⟨_, (pss_cons (ps_if (pt_cmpR op_eq (pv 0) pe_str (nomark _))
  (pss_one (ps_ret (pe_defR G_expression passR hr rfl (pa_c (pv 1) pa_nil))))
  pss_nil)
  (pss_cons (ps_if (PW.pt (pw_and (pt_cmpR op_eq (pv 0) pe_str (nomark _)) (pw_and1 (pt_val (pe_defR G_is_number.toR passR hr rfl (pa_c (pv 1) pa_nil))))))
  (pss_one (ps_ret (pe_cTy call_int_str rfl hint (by decide +kernel) (pa_c (pv 1) pa_nil))))
  pss_nil)
  (pss_cons (ps_if (PW.pt (pw_and (pt_cmpR op_eq (pv 0) pe_str (nomark _)) (pw_and1 (pt_val (pe_defR G_is_name.toR passR hr rfl (pa_c (pv 1) pa_nil))))))
  (pss_one (ps_ret (pv 1)))
  pss_nil)
  (pss_cons (ps_if (PW.pt (pw_and (pt_cmpR op_eq (pv 0) pe_str (nomark _)) (pw_and1 (pt_cmpR op_inG (pv 1) (pe_tupG (pa_c pe_str (pa_c pe_str pa_nil))) (by with_unfolding_all rfl)))))
  (pss_one (ps_ret (pv 1)))
  pss_nil)
  (pss_one (ps_raise raises_def rfl O_NoRow rfl (pa_c (pe_fstr (pj_cons pe_str (pj_cons (pe_fmt (pv 0)) (pj_cons pe_str (pj_cons (pe_fmt (pv 1)) pj_nil))))) pa_nil))))))), ?_⟩
  walk_at "rz"
  refine ite2 (fun c1 => ?_) fun c1 => ?_
  · have ep : partOf k x = (exprOf x).map Tr.toD := if_pos c1
    walk_at "rz"
    refine ⟨x, rfl, hx, fun t et r H' g rt => ?_, fun en H' g => ?_⟩
    · exact q _ (by rw [ep, et]; rfl) r H' g rt
    · exact e (by rw [ep, en]; rfl) H' g
  have l1 : (Str.ofString "no ").length = 3 := by decide +kernel
  have l2 : (Str.ofString ": ").length = 2 := by decide +kernel
  have sy : ∀ a b : Str, decide (a = b) = decide (b = a) := fun a b => by by_cases z : a = b <;> simp [z, eq_comm]
  walk_at "rz"
  refine ite2 (fun c2 => ?_) fun c2 => ?_
  · subst c2
    walk_at "rz"
    refine ⟨x, rfl, by omega, fun H1 g1 => ⟨_, rfl, ?_⟩⟩
    cases c3 : numOk x with
    | true =>
      obtain ⟨h6, hi⟩ := num_int c3
      refine iteT ?_
      walk_at "rz"
      exact ⟨by omega, q _ (by unfold partOf; rw [if_neg (by decide +kernel), if_pos ⟨rfl, c3⟩, hi]; rfl) _ _ g1 (.int _)⟩
    | false =>
      refine iteF ?_
      walk_at "rz"
      repeat (refine ⟨by first | omega | (simp only [cat_len, len_emp, l1, l2]; omega), ?_⟩; try walk_at "rz")
      exact e (by unfold partOf; rw [if_neg (by decide +kernel), if_neg (fun z => absurd z.2 (by rw [c3]; decide)), if_neg (fun z => absurd z.1 (by decide +kernel)), if_neg (fun z => absurd z.1 (by decide +kernel))]) _ g1
  walk_at "rz"
  refine ite2 (fun c3 => ?_) fun c3 => ?_
  · subst c3
    walk_at "rz"
    refine ⟨x, rfl, by omega, fun H1 g1 => ⟨_, rfl, ?_⟩⟩
    cases c4 : nameOk x with
    | true =>
      refine iteT ?_
      walk_at "rz"
      exact q _ (by unfold partOf; rw [if_neg (by decide +kernel), if_neg (fun z => absurd z.1 (by decide +kernel)), if_pos ⟨rfl, c4⟩]) _ _ g1 (.str _)
    | false =>
      refine iteF ?_
      walk_at "rz"
      repeat (refine ⟨by first | omega | (simp only [cat_len, len_emp, l1, l2]; omega), ?_⟩; try walk_at "rz")
      exact e (by unfold partOf; rw [if_neg (by decide +kernel), if_neg (fun z => absurd z.1 (by decide +kernel)), if_neg (fun z => absurd z.2 (by rw [c4]; decide)), if_neg (fun z => absurd z.1 (by decide +kernel))]) _ g1
  walk_at "rz"
  refine ite2 (fun c4 => ?_) fun c4 => ?_
  · subst c4
    walk_at "rz"
    intro p1 H1 hp1 g1 h1
    have es : partOf (Str.ofString "sign") x = if x = Str.ofString "<" ∨ x = Str.ofString "=" then some (.str x) else none := by
      unfold partOf
      rw [if_neg (by decide +kernel), if_neg (fun z => absurd z.1 (by decide +kernel)), if_neg (fun z => absurd z.1 (by decide +kernel))]
      by_cases z : x = Str.ofString "<" ∨ x = Str.ofString "="
      · rw [if_pos z, if_pos ⟨rfl, z⟩]
      · rw [if_neg z, if_neg (fun y => z y.2)]
    have ei : inV (.str x) [.str "<", .str "="] = decide (x = Str.ofString "<" ∨ x = Str.ofString "=") := by
      rw [inV_cons, inV_cons, inV_nil, eqV_ss, eqV_ss, Bool.or_false, sy "<" x, sy "=" x, Bool.decide_or]
    have w1 := PLift.up h1
    clear h1
    walk_at "rz"
    refine ⟨_, .inl w1.down, rfl, rfl, decide (x = Str.ofString "<" ∨ x = Str.ofString "="), congrArg V.bl (by rw [if_neg (by decide)]; exact ei), ?_⟩
    clear w1
    by_cases z : x = Str.ofString "<" ∨ x = Str.ofString "="
    · rw [decide_eq_true z]
      refine iteT ?_
      walk_at "rz"
      exact q _ (by rw [es, if_pos z]) _ _ g1 (.str _)
    · rw [decide_eq_false z]
      refine iteF ?_
      walk_at "rz"
      repeat (refine ⟨by first | omega | (simp only [cat_len, len_emp, l1, l2]; omega), ?_⟩; try walk_at "rz")
  walk_at "rz"
  repeat (refine ⟨by first | omega | (simp only [cat_len, len_emp, l1, l2]; omega), ?_⟩; try walk_at "rz")
  exact e (by unfold partOf; rw [if_neg c1, if_neg (fun z => c2 z.1), if_neg (fun z => c3 z.1), if_neg (fun z => c4 z.1)]) _ (Same.refl _)
def fixL : List (Str × List Str) := [("tool", ["name", "number"]), ("store", ["name", "number", "number"]), ("row", ["name"]), ("hand", ["name"]), ("end", []), ("wait", ["expression"]), ("take", ["name", "expression"]), ("give", ["name", "expression"]), ("put", ["name", "expression"]), ("get", ["name", "expression"]), ("let", ["name", "expression"]), ("draw", ["name", "name"]), ("say", ["name", "expression"]), ("start", ["name"]), ("if", ["expression", "sign", "expression"]), ("else", []), ("while", ["expression", "sign", "expression"]), ("stop", [])]
def tailL : List (Str × Str × Nat × Nat) := [("row", "number", 1, 20), ("hand", "name", 0, 3), ("start", "expression", 0, 3)]
def tailOf (x : Str) : Str × Nat × Nat := (tailL.lookup x).getD ("", 0, 0)
def kindsOf (ws : List Str) : Option (List Str) := match ws with
  | [] => none
  | x :: r => match fixL.lookup x with
    | none => none
    | some l => if l.length + (tailOf x).2.1 ≤ r.length ∧ r.length ≤ l.length + (tailOf x).2.2 then some (l ++ List.replicate (r.length - l.length) (tailOf x).1) else none
theorem kinds_none {x : Str} {r : List Str} (h : fixL.lookup x = none) : kindsOf (x :: r) = none := by simp only [kindsOf, h]
theorem kinds_some {x : Str} {r l : List Str} (h : fixL.lookup x = some l) : kindsOf (x :: r) = if l.length + (tailOf x).2.1 ≤ r.length ∧ r.length ≤ l.length + (tailOf x).2.2 then some (l ++ List.replicate (r.length - l.length) (tailOf x).1) else none := by simp only [kindsOf, h]
def FxA (P : Program) (w : World) (K : PySem.W.Frag) (a : Addr) : Prop := ∃ kvs, KD P w K a kvs ∧ (∀ x l, fixL.lookup x = some l → ∃ t, valV kvs (.inr x) = some (.ref t) ∧ ∀ H, SqT K H t (l.map V.str)) ∧ ∀ x, fixL.lookup x = none → valV kvs (.inr x) = none
def TlA (P : Program) (w : World) (K : PySem.W.Frag) (a : Addr) : Prop := ∃ kvs, KD P w K a kvs ∧ (∀ x (k : Str) (n m : Nat), tailL.lookup x = some (k, n, m) → ∃ t, valV kvs (.inr x) = some (.ref t) ∧ ∀ H, SqT K H t [.str k, .int n, .int m]) ∧ ∀ x, tailL.lookup x = none → valV kvs (.inr x) = none
def spKd (K : PySem.W.Frag) (C : Addr) : Sp := fun vs H Q E => ∃ (p : Addr) (ws : List Str), vs = [.ref p] ∧ H p = some (.lst (ws.map V.str)) ∧ ws ≠ [] ∧ ws.length ≤ 10000 ∧ (∀ x ∈ ws, x.length ≤ 100000) ∧ (∀ ks, kindsOf ws = some ks → ∀ r H', Same H H' → SqT K H' r (ks.map V.str) → Q (.ref r) H') ∧ (kindsOf ws = none → ∀ H', Same H H' → E (.ref C) none H')
def KdI (p : Addr) (x : Str) (t : Addr) (H1 : Hp) (σ : St) (H' : Hp) : Prop := σ = [some (.ref p), some (.str x), some (.ref t), none, none, none, none] ∧ H' = H1
theorem ok_kinds {C aFx aTl : Addr} (D : DefAt K mg "kinds_due" s_kinds_due ["words"]) (hFx : mg "FIXED" = some (.ref aFx)) (hTl : mg "TAILS" = some (.ref aTl)) (fx : FxA P w K aFx) (tl : TlA P w K aTl) (hlen : mg "len" = none) (O_NoRow : ExcAt K mg "NoRow" C) : OkR P w K mg base 1 "kinds_due" ["words"] (spKd K C) := by
  refine D.okR sc_kinds_due (fun vs H Q E h => ?_) (fun f cdv A outer s H vs Q E hr h => ?_)
  · obtain ⟨_, _, rfl, _⟩ := h; rfl
  obtain ⟨p, ws, rfl, hp, hne, hz, hx, q, e⟩ := h
  have big : 2000000 ≤ sizeLine := by unfold sizeLine; decide
  obtain ⟨kvs, kdX, vX, nX⟩ := fx
  obtain ⟨kvt, kdT, vT, nT⟩ := tl
  refine ⟨_, (pss_cons (ps_set (i := 1) sc_kinds_due.nd rfl (Or.inl rfl) (pe_ix ix_g (pv 0) pe_int (fun _ _ => rfl)))
  (pss_cons (ps_if (pt_cmp (pc_dnotinK kdX (pv 1) (pe_glob (v := .ref aFx) rfl hFx rfl)) (by with_unfolding_all rfl))
  (pss_one (ps_raise raises_def rfl O_NoRow rfl (pa_c (pe_fstr (pj_cons pe_str (pj_cons (pe_fmt (pv 1)) pj_nil))) pa_nil)))
  pss_nil)
  (pss_cons (ps_up (ps_set (i := 2) sc_kinds_due.nd rfl (Or.inl rfl) (pe_dgetK kdX (pe_glob (v := .ref aFx) rfl hFx rfl) (pv 1) (fun _ _ => rfl))))
  (pss_cons (ps_asg (pe_dgetDK kdT (pe_glob (v := .ref aTl) rfl hTl rfl) (pv 1) (pe_tupG (pa_c pe_non (pa_c pe_int (pa_c pe_int pa_nil)))) ⟨rfl, rfl, rfl, rfl⟩) (pg_tup (n := 3) rfl (pgs_cons (pg_name (i := 3) sc_kinds_due.nd rfl (Or.inl rfl)) (pgs_cons (pg_name (i := 4) sc_kinds_due.nd rfl (Or.inl rfl)) (pgs_cons (pg_name (i := 5) sc_kinds_due.nd rfl (Or.inl rfl)) pgs_nil)))))
  (pss_cons (ps_set (i := 6) sc_kinds_due.nd rfl (Or.inl rfl) (pe_op op_sub (pe_op op_sub (pe_cB call_lenG rfl hlen PySem.boot_len (pa_c (pv 0) pa_nil)) pe_int) (pe_cB call_len_seq rfl hlen PySem.boot_len (pa_c (pv 2) pa_nil))))
  (pss_cons (ps_if (pt_not (pt_chain op_le op_le (pv 4) (pv 6) (pv 5)))
  (pss_one (ps_raise raises_def rfl O_NoRow rfl (pa_c (pe_fstr (pj_cons pe_str (pj_cons (pe_fmt (pv 1)) pj_nil))) pa_nil)))
  pss_nil)
  (pss_one (ps_ret (pe_op op_catU (pv 2) (pe_op op_mulT (pe_tupG (pa_c (pv 3) pa_nil)) (pv 6))))))))))), ?_⟩
  cases ws with
  | nil => exact absurd rfl hne
  | cons x r =>
  have hx0 := hx x (List.mem_cons_self ..)
  rw [List.map_cons] at hp
  walk_at "rz"
  have l1 : (Str.ofString "no row begins so: ").length = 18 := by decide +kernel
  have l2 : (Str.ofString "a row with too many or too few words: ").length = 38 := by decide +kernel
  cases lk : fixL.lookup x with
  | none =>
    rw [nX x lk]
    refine iteT ?_
    walk_at "rz"
    repeat (refine ⟨by first | omega | (simp only [cat_len, len_emp, l1, l2]; omega), ?_⟩; try walk_at "rz")
    exact e (kinds_none lk) _ (Same.refl _)
  | some l =>
  obtain ⟨t, ev, hsq⟩ := vX x l lk
  rw [ev]
  refine iteF ?_
  have ev' := PLift.up ev
  clear ev
  walk_at "rz"
  refine ⟨KdI p x t H, ⟨_, ev'.down, rfl, rfl⟩, ?_⟩
  rintro σ' H' ⟨rfl, rfl⟩
  walk_at "rz"
  intro pd H1 hpd g1 h1
  have h1' := PLift.up h1
  have hp1 := g1 _ _ hp
  clear h1 hp
  walk_at "rz"
  obtain ⟨a, kv, ea, sqa, ekv⟩ : ∃ a kv, (valV kvt (.inr x)).getD (.ref pd) = .ref a ∧ SqT K H1 a [kv, .int ((tailOf x).2.1 : Nat), .int ((tailOf x).2.2 : Nat)] ∧ (kv = .str (tailOf x).1 ∨ (tailOf x).2.2 = 0) := by
    unfold tailOf
    cases tk : tailL.lookup x with
    | none => exact ⟨pd, .non, by rw [nT x tk]; rfl, SqT.of h1'.down, .inr rfl⟩
    | some kk =>
      obtain ⟨k, n, m⟩ := kk
      obtain ⟨t2, e2, sq2⟩ := vT x k n m tk
      exact ⟨t2, _, by rw [e2]; rfl, sq2 _, .inl rfl⟩
  refine ⟨a, ea, _, sqa, rfl, ?_⟩
  walk_at "rz"
  refine ⟨_, .inr (hsq _), ?_⟩
  walk_at "rz"
  have eR : ((((List.map V.str r).length + 1 : Nat) : Int) - 1 - ((List.map V.str l).length : Nat)) = (r.length : Int) - (l.length : Int) := by rw [List.length_map, List.length_map]; omega
  have ks := kinds_some (r := r) lk
  rw [List.length_cons] at hz
  refine ite2 (fun c1 => ?_) fun c1 => ?_
  · rw [eR] at c1
    walk_at "rz"
    by_cases c2 : (r.length : Int) - (l.length : Int) ≤ ((tailOf x).2.2 : Int)
    · rw [decide_eq_true c2]
      rw [if_pos ⟨by omega, by omega⟩] at ks
      refine iteF ?_
      walk_at "rz"
      intro p2 H2 hp2 g2 h2
      have h2' := PLift.up h2
      clear h2 hp1
      obtain ⟨n, en⟩ : ∃ n : Nat, n = r.length - l.length := ⟨_, rfl⟩
      rw [← en] at ks
      have eN : (((V.str x :: List.map V.str r).length : Nat) : Int) - 1 - ((List.map V.str l).length : Nat) = ((n : Nat) : Int) := by rw [List.length_cons]; rw [eR]; omega
      walk_at "rz"
      refine ⟨_, SqT.of h2'.down, ?_⟩
      rw [eN]
      refine ⟨by omega, by omega, by rw [Int.toNat_natCast, List.length_singleton]; omega, by simp, fun p3 H3 g3 sq3 => ?_⟩
      rw [Int.toNat_natCast] at sq3
      have ll : l.length ≤ 10000 := by omega
      walk_at "rz"
      refine ⟨_, hsq _, _, sq3, by simp; omega, fun p4 H4 g4 sq4 => ?_⟩
      have sq4 : SqT K H4 p4 (List.map V.str l ++ (List.replicate n [kv]).flatten) := sq4
      refine q _ ks p4 H4 (g1.trans (g2.trans (g3.trans g4))) ?_
      rw [List.map_append, List.map_replicate]
      rcases ekv with rfl | z
      · simpa using sq4
      · have n0 : n = 0 := by omega
        subst n0
        simpa using sq4
    · rw [decide_eq_false c2]
      refine iteT ?_
      walk_at "rz"
      repeat (refine ⟨by first | omega | (simp only [cat_len, len_emp, l1, l2]; omega), ?_⟩; try walk_at "rz")
      exact e (by rw [ks, if_neg (fun z => c2 (by omega))]) _ g1
  · rw [eR] at c1
    walk_at "rz"
    repeat (refine ⟨by first | omega | (simp only [cat_len, len_emp, l1, l2]; omega), ?_⟩; try walk_at "rz")
    exact e (by rw [ks, if_neg (fun z => c1 (by omega))]) _ g1
end
end K09
namespace K09
open PySem L2
def jn (c : Nat) : List (List Nat) → List Nat
  | [] => []
  | [x] => x
  | x :: y :: r => x ++ c :: jn c (y :: r)
theorem app_inj {c : Nat} : ∀ {x y A B : List Nat}, c ∉ x → c ∉ y → x ++ c :: A = y ++ c :: B → x = y ∧ A = B
  | [], [], A, B, _, _, h => by injection h with _ h; exact ⟨rfl, h⟩
  | [], d :: y, A, B, _, hy, h => by injection h with h _; exact absurd (h ▸ List.mem_cons_self) hy
  | d :: x, [], A, B, hx, _, h => by injection h with h _; exact absurd (h ▸ List.mem_cons_self) hx
  | d :: x, e :: y, A, B, hx, hy, h => by
    injection h with h1 h2
    obtain ⟨a, b⟩ := app_inj (fun z => hx (List.mem_cons_of_mem _ z)) (fun z => hy (List.mem_cons_of_mem _ z)) h2
    exact ⟨by rw [h1, a], b⟩
theorem jn_inj {c : Nat} : ∀ {l m : List (List Nat)}, l ≠ [] → m ≠ [] → (∀ x ∈ l, c ∉ x) → (∀ x ∈ m, c ∉ x) → jn c l = jn c m → l = m
  | [], _, h, _, _, _, _ => absurd rfl h
  | _, [], _, h, _, _, _ => absurd rfl h
  | [x], [y], _, _, _, _, h => by rw [show x = y from h]
  | [x], y :: z :: r, _, _, hx, _, h => absurd (show c ∈ x by rw [show x = y ++ c :: jn c (z :: r) from h]; simp) (hx x List.mem_cons_self)
  | x :: z :: r, [y], _, _, _, hy, h => absurd (show c ∈ y by rw [← show x ++ c :: jn c (z :: r) = y from h]; simp) (hy y List.mem_cons_self)
  | x :: z :: r, y :: z' :: r', _, _, hx, hy, h => by
    obtain ⟨a, b⟩ := app_inj (hx x List.mem_cons_self) (hy y List.mem_cons_self) (show x ++ c :: jn c (z :: r) = y ++ c :: jn c (z' :: r') from h)
    rw [a, jn_inj (by simp) (by simp) (fun q hq => hx q (List.mem_cons_of_mem _ hq)) (fun q hq => hy q (List.mem_cons_of_mem _ hq)) b]
theorem join_jn (c : Nat) : ∀ ts : List Str, (Str.join ⟨#[c]⟩ ts).cps.toList = jn c (ts.map fun t => t.cps.toList)
  | [] => rfl
  | [x] => rfl
  | x :: y :: r => by
    show ((x ++ ⟨#[c]⟩ ++ Str.join ⟨#[c]⟩ (y :: r)) : Str).cps.toList = _
    have e : ((x ++ ⟨#[c]⟩ ++ Str.join ⟨#[c]⟩ (y :: r)) : Str).cps = x.cps ++ #[c] ++ (Str.join ⟨#[c]⟩ (y :: r)).cps := rfl
    rw [e, Array.toList_append, Array.toList_append, join_jn c (y :: r)]
    simp [jn]
theorem split_of (c : Nat) {ys : List Str} (hy : ys ≠ []) (h : ∀ y ∈ ys, c ∉ y.cps.toList) : PySem.Txt.split (Str.join ⟨#[c]⟩ ys) ⟨#[c]⟩ = ys := by
  have e := PySem.StrLaws.join_split (Str.join ⟨#[c]⟩ ys) ⟨#[c]⟩
  have f := PySem.StrLaws.split_free (Str.join ⟨#[c]⟩ ys) c
  have ne : PySem.Txt.split (Str.join ⟨#[c]⟩ ys) ⟨#[c]⟩ ≠ [] := fun z => by
    have := PyProof.Rows.split_pos (Str.join ⟨#[c]⟩ ys) ⟨#[c]⟩
    rw [z] at this; simp at this
  have e2 := congrArg (fun s : Str => s.cps.toList) e
  simp only [join_jn] at e2
  have := jn_inj (c := c) (by simpa using ne) (by simpa using hy) (fun x hx => by obtain ⟨t, ht, rfl⟩ := List.mem_map.mp hx; exact f t ht) (fun x hx => by obtain ⟨t, ht, rfl⟩ := List.mem_map.mp hx; exact h t ht) e2
  have inj : ∀ {l m : List Str}, (l.map fun t => t.cps.toList) = (m.map fun t => t.cps.toList) → l = m := by
    intro l
    induction l with
    | nil => intro m h; cases m with
      | nil => rfl
      | cons _ _ => cases h
    | cons a l ih =>
      intro m h
      cases m with
      | nil => cases h
      | cons b m =>
        rw [List.map_cons, List.map_cons] at h
        injection h with h1 h2
        rw [ih h2, PySem.Str.ext' (Array.toList_inj.mp h1)]
  exact inj this
theorem len_cps (x : Str) : x.cps.toList.length = x.length := Array.length_toList
theorem jn_len (c : Nat) : ∀ l : List (List Nat), l.length ≤ (jn c l).length + 1
  | [] => by simp
  | [x] => by simp
  | x :: y :: r => by
    have h := jn_len c (y :: r)
    show (y :: r).length + 1 ≤ (x ++ c :: jn c (y :: r)).length + 1
    rw [List.length_append, List.length_cons (a := c)]
    omega
theorem jn_mem (c : Nat) : ∀ {l : List (List Nat)} {x : List Nat}, x ∈ l → x.length ≤ (jn c l).length ∧ ∀ d ∈ x, d ∈ jn c l
  | [], _, h => absurd h List.not_mem_nil
  | [y], x, h => by rw [List.mem_singleton.mp h]; exact ⟨Nat.le_refl _, fun d hd => hd⟩
  | y :: z :: r, x, h => by
    have e : jn c (y :: z :: r) = y ++ c :: jn c (z :: r) := rfl
    rw [e]
    rcases List.mem_cons.mp h with rfl | h
    · exact ⟨by rw [List.length_append]; omega, fun d hd => List.mem_append_left _ hd⟩
    · have i := jn_mem c h
      exact ⟨by rw [List.length_append, List.length_cons]; omega, fun d hd => List.mem_append_right _ (List.mem_cons_of_mem _ (i.2 d hd))⟩
theorem split_len (t : Str) (c : Nat) : (PySem.Txt.split t ⟨#[c]⟩).length ≤ t.length + 1 := by
  have e := PySem.StrLaws.join_split t ⟨#[c]⟩
  have h := jn_len c ((PySem.Txt.split t ⟨#[c]⟩).map fun t => t.cps.toList)
  rw [← join_jn, List.length_map] at h
  rw [e, len_cps] at h
  exact h
theorem split_mem {t : Str} {c : Nat} {x : Str} (h : x ∈ PySem.Txt.split t ⟨#[c]⟩) : x.length ≤ t.length ∧ (∀ d ∈ x.cps.toList, d ∈ t.cps.toList) ∧ c ∉ x.cps.toList := by
  have e := PySem.StrLaws.join_split t ⟨#[c]⟩
  have m := jn_mem c (List.mem_map_of_mem (f := fun t : Str => t.cps.toList) h)
  rw [← join_jn, e, len_cps, len_cps] at m
  exact ⟨m.1, m.2, PySem.StrLaws.split_free t c x h⟩
theorem split_ne (t : Str) (c : Nat) : PySem.Txt.split t ⟨#[c]⟩ ≠ [] := fun z => by
  have := PyProof.Rows.split_pos t ⟨#[c]⟩
  rw [z] at this; simp at this
section
variable {K : PySem.W.Frag} {H H' : Hp}
theorem _root_.L2.RpL.get {vs : List V} : ∀ {ds : List PyData}, RpL K H vs ds → ∀ {i : Nat} {v : V}, vs[i]? = some v → ∃ d, ds[i]? = some d ∧ Rp K H v d := by
  induction vs with
  | nil => intro ds t i v e; simp at e
  | cons a vs ih =>
    intro ds t i v e
    cases t with
    | cons h r =>
      cases i with
      | zero => simp at e; exact ⟨_, rfl, e ▸ h⟩
      | succ i => simpa using ih r (i := i) (v := v) (by simpa using e)
theorem _root_.L2.RpL.len {vs : List V} : ∀ {ds : List PyData}, RpL K H vs ds → vs.length = ds.length := by
  induction vs with
  | nil => intro ds t; cases t; rfl
  | cons a vs ih => intro ds t; cases t with | cons h r => rw [List.length_cons, List.length_cons, ih r]
theorem _root_.L2.RpL.app {vs ws : List V} {es : List PyData} (u : RpL K H ws es) : ∀ {ds : List PyData}, RpL K H vs ds → RpL K H (vs ++ ws) (ds ++ es) := by
  induction vs with
  | nil => intro ds t; cases t; exact u
  | cons a vs ih => intro ds t; cases t with | cons h r => exact .cons h (ih r)
theorem _root_.L2.RpL.rev {vs : List V} : ∀ {ds : List PyData}, RpL K H vs ds → RpL K H vs.reverse ds.reverse := by
  induction vs with
  | nil => intro ds t; cases t; exact .nil
  | cons a vs ih => intro ds t; cases t with | cons h r => rw [List.reverse_cons, List.reverse_cons]; exact RpL.app (.cons h .nil) (ih r)
end
def allP : List (Option PyData) → Option (List PyData)
  | [] => some []
  | none :: _ => none
  | some d :: l => (allP l).map (d :: ·)
theorem allP_some (ds : List PyData) : allP (ds.map some) = some ds := by
  induction ds with
  | nil => rfl
  | cons d l ih => rw [List.map_cons, allP, ih]; rfl
theorem allP_none {l : List (Option PyData)} (h : none ∈ l) : allP l = none := by
  induction l with
  | nil => cases h
  | cons x l ih =>
    cases x with
    | none => rfl
    | some d =>
      rw [allP, ih (by simpa using h)]; rfl
def partsV (row : Str) : Option (Str × List PyData) := match PySem.Txt.split row ⟨#[32]⟩ with
  | [] => none
  | x :: r => match kindsOf (x :: r) with
    | none => none
    | some ks => (allP (List.zipWith partOf ks r)).map fun ds => (x, ds)
theorem tr_hide {K : PySem.W.Frag} {H : Hp} {D : Addr} {ys : List V} (hD : H D = some (.lst ys)) (t : Tr) : ∀ {v : V}, Rp K H v t.toD → Rp K (hide D H) v t.toD := by
  have ne : ∀ {a : Addr} {xs : List V}, H a = some (.tup xs) → a ≠ D := fun h z => by rw [z, hD] at h; cases h
  induction t with
  | name x => intro v r; unfold Tr.toD at r ⊢; cases r with | tup h r => cases r with | cons a r => cases r with | cons b r => cases r; cases a; cases b; exact .tup (hide_of (ne h) h) (.cons (.str _) (.cons (.str _) .nil))
  | num n => intro v r; unfold Tr.toD at r ⊢; cases r with | tup h r => cases r with | cons a r => cases r with | cons b r => cases r; cases a; cases b; exact .tup (hide_of (ne h) h) (.cons (.str _) (.cons (.int _) .nil))
  | now => intro v r; unfold Tr.toD at r ⊢; cases r with | tup h r => cases r with | cons a r => cases r; cases a; exact .tup (hide_of (ne h) h) (.cons (.str _) .nil)
  | own => intro v r; unfold Tr.toD at r ⊢; cases r with | tup h r => cases r with | cons a r => cases r; cases a; exact .tup (hide_of (ne h) h) (.cons (.str _) .nil)
  | bin o l r ihl ihr => intro v q; unfold Tr.toD at q ⊢; cases q with | tup h q => cases q with | cons a q => cases q with | cons b q => cases q with | cons c q => cases q; cases a; exact .tup (hide_of (ne h) h) (.cons (.str _) (.cons (ihl b) (.cons (ihr c) .nil)))
theorem part_hide {K : PySem.W.Frag} {H : Hp} {D : Addr} {ys : List V} (hD : H D = some (.lst ys)) {k x : Str} {d : PyData} (h : partOf k x = some d) {v : V} (r : Rp K H v d) : Rp K (hide D H) v d := by
  unfold partOf at h
  split at h
  · obtain ⟨t, _, rfl⟩ := Option.map_eq_some_iff.mp h
    exact tr_hide hD t r
  split at h
  · obtain ⟨n, _, rfl⟩ := Option.map_eq_some_iff.mp h
    cases r; exact .int _
  split at h
  · cases h; cases r; exact .str _
  split at h
  · cases h; cases r; exact .str _
  · cases h
theorem kinds_len {x : Str} {r ks : List Str} (h : kindsOf (x :: r) = some ks) : ks.length = r.length := by
  unfold kindsOf at h
  simp only at h
  split at h
  · cases h
  · split at h
    · cases h
      rw [List.length_append, List.length_replicate]; omega
    · cases h
theorem kinds_short {x : Str} {r ks : List Str} (h : kindsOf (x :: r) = some ks) : ∀ k ∈ ks, k.length ≤ 100 := by
  have a : ∀ p ∈ fixL, ∀ k ∈ p.2, k.length ≤ 100 := by decide +kernel
  have b : ∀ p ∈ tailL, p.2.1.length ≤ 100 := by decide +kernel
  have lk : ∀ {l : List (Str × List Str)} {x : Str} {y : List Str}, l.lookup x = some y → ∃ p ∈ l, p.2 = y := fun {l} => by
    induction l with
    | nil => intro x y h; cases h
    | cons p l ih =>
      intro x y h
      rw [List.lookup_cons] at h
      split at h
      · cases h; exact ⟨p, List.mem_cons_self .., rfl⟩
      · obtain ⟨q, m, e⟩ := ih h
        exact ⟨q, List.mem_cons_of_mem _ m, e⟩
  have tl : (tailOf x).1.length ≤ 100 := by
    unfold tailOf
    cases tk : tailL.lookup x with
    | none => decide
    | some y =>
      have lk2 : ∀ {l : List (Str × Str × Nat × Nat)} {x : Str} {y : Str × Nat × Nat}, l.lookup x = some y → ∃ p ∈ l, p.2 = y := fun {l} => by
        induction l with
        | nil => intro x y h; cases h
        | cons p l ih =>
          intro x y h
          rw [List.lookup_cons] at h
          split at h
          · cases h; exact ⟨p, List.mem_cons_self .., rfl⟩
          · obtain ⟨q, m, e⟩ := ih h
            exact ⟨q, List.mem_cons_of_mem _ m, e⟩
      obtain ⟨p, m, rfl⟩ := lk2 tk
      exact b p m
  unfold kindsOf at h
  simp only at h
  split at h
  · cases h
  · rename_i l hl
    split at h
    · cases h
      obtain ⟨p, m, e⟩ := lk hl
      intro k hk
      rcases List.mem_append.mp hk with z | z
      · exact a p m k (by rw [e]; exact z)
      · rw [(List.mem_replicate.mp z).2]; exact tl
    · cases h
section
variable {P : Program} {w : World} {K : PySem.W.Frag} {mg : Str → Option Value} {base : Heap}
def spPo (K : PySem.W.Frag) (C : Addr) : Sp := fun vs H Q E => ∃ t : Str, vs = [.str t] ∧ t.length ≤ 9000 ∧ (∀ x ds, partsV t = some (x, ds) → ∀ p H' ys, H p = none → Same H H' → H' p = some (.lst (.str x :: ys)) → RpL K (hide p H') ys ds → Q (.ref p) H') ∧ (partsV t = none → ∀ H', Same H H' → E (.ref C) none H')
theorem ok_parts {C : Addr} (D : DefAt K mg "parts_of" s_parts_of ["row"]) (G_kinds_due : OkR P w K mg base 1 "kinds_due" ["words"] (spKd K C)) (G_part : OkR P w K mg base 23 "part" ["kind", "word"] (spPart K C)) (hzip : mg "zip" = none) : OkR P w K mg base 24 "parts_of" ["row"] (spPo K C) := by
  refine D.okR sc_parts_of (fun vs H Q E h => ?_) (fun f cdv A outer s H vs Q E hr h => ?_)
  · obtain ⟨r, rfl, _⟩ := h; rfl
  obtain ⟨t, rfl, tl, q, e⟩ := h
  have big : 3000000 ≤ sizeLine := by unfold sizeLine; decide
  have sl := split_len t 32
  have sm := fun x (hx : x ∈ PySem.Txt.split t ⟨#[32]⟩) => (split_mem hx).1
  have sn := split_ne t 32
  refine ⟨_, (pss_cons (ps_set (i := 1) sc_parts_of.nd rfl (Or.inl rfl) (pe_bm PySem.F.plainAttrs_str PySem.F.slot_str_split PySem.F.type_str_split mt_split (pv 0) (pa_c pe_str pa_nil)))
  (pss_cons (ps_set (i := 2) sc_parts_of.nd rfl (Or.inl rfl) (pe_defR G_kinds_due passR hr rfl (pa_c (pv 1) pa_nil)))
  (pss_one (ps_ret (pe_op op_catG (pe_slice sl_g (pv 1) po_none (po_some pe_int)) (pe_compNR (comp_scopeN 2 (N := ["kind", "word"]) (cap := []) rfl rfl rfl rfl (by decide +kernel) rfl rfl rfl) rfl (pi_zip rfl hzip (pa_c (pv 2) (pa_c (pe_slice sl_g (pv 1) (po_some pe_int) po_none) pa_nil))) (fun _ _ _ _ => (pg_tupG 2 rfl (pgs_cons (pg_name (i := 0) (show List.Nodup (α := Str) ["kind", "word"] by decide +kernel) rfl (Or.inl (lookup_relabel_local rfl)) (Or.inr (lookup_relabel_local rfl))) (pgs_cons (pg_name (i := 1) (show List.Nodup (α := Str) ["kind", "word"] by decide +kernel) rfl (Or.inl (lookup_relabel_local rfl)) (Or.inr (lookup_relabel_local rfl))) pgs_nil)))) (fun _ _ _ _ => pts_nil) (fun _ _ _ _ hO => (pe_defR G_part (passC hO) hr rfl (pa_c (pv 0) (pa_c (pv 1) pa_nil)))))))))), ?_⟩
  walk_at "rz"
  rw [show Str.ofString " " = ⟨#[32]⟩ by decide +kernel]
  refine ⟨_, _, rfl, rfl, by decide, by omega, by omega, fun ws H1 hws g1 h1' => ?_⟩
  unfold partsV at q e
  generalize PySem.Txt.split t ⟨#[32]⟩ = W at q e sl sm sn h1'
  cases W with
  | nil => exact absurd rfl sn
  | cons x r =>
  simp only at q e
  have h1w := PLift.up h1'
  clear h1'
  refine ⟨ws, x :: r, rfl, h1w.down, List.cons_ne_nil _ _, by omega, fun y hy => by have := sm y hy; omega, fun ks ek kp H2 g2 sq2 => ?_, fun en H2 g2 => e (by rw [en]) _ (g1.trans g2)⟩
  rw [ek] at q e
  simp only at q e
  have kl := kinds_len ek
  rw [List.length_cons] at sl
  have kk := kinds_short ek
  have h12 := PLift.up (g2 _ _ h1w.down)
  refine ⟨ws, rfl, _, .inr ⟨h12.down, fun p3 H3 hp3 g3 h3 => ?_⟩⟩
  have h3' : PLift (H3 p3 = some (.lst [.str x])) := PLift.up h3
  clear h3
  have w3 := PLift.up (g3 _ _ h12.down)
  walk_at "rz"
  refine tcomp_in ?_
  simp only [iZip]
  walk_at "rz"
  refine ⟨_, .inr ⟨w3.down, fun p4 H4 hp4 g4 h4 => ?_⟩⟩
  have h4' : PLift (H4 p4 = some (.lst (r.map V.str))) := ⟨by rw [h4]; simp [cutV, HT.sIx, List.take_of_length_le]⟩
  clear h4
  walk_at "rz"
  have lm : (r.map V.str).length = r.length := List.length_map ..
  have lz : (List.zipWith partOf ks r).length = r.length := by rw [List.length_zipWith]; omega
  have g04 := g1.trans (g2.trans (g3.trans g4))
  refine ⟨⟨_, (g3.trans g4).tupq sq2⟩, ⟨_, SqL.of h4'.down⟩, compJ_zip (xs := ks.map V.str) (fun H g => ((g3.trans g4).trans g).tupq sq2) h4'.down (by rw [List.length_map, lm, kl]) (by rw [lm]; omega) (fun D i zs σ1 H' => σ1.length = 2 ∧ ∃ ds, RpL K (hide D H') zs ds ∧ (List.zipWith partOf ks r).take i = ds.map some) (fun D H' _ _ _ => ⟨rfl, [], .nil, rfl⟩) ?_ ?_⟩
  · rintro D' i k' y' zs σ1 H5 p5 H6 hk hy at1 ⟨s2, ds, rz, eu⟩ hp5 g6 h6
    have hi : i < r.length := by have := (List.getElem?_eq_some_iff.mp hy).1; rw [lm] at this; exact this
    obtain ⟨v, hv⟩ : ∃ v, r[i]? = some v := ⟨_, List.getElem?_eq_getElem hi⟩
    obtain ⟨k, hk'⟩ : ∃ k, ks[i]? = some k := ⟨_, List.getElem?_eq_getElem (by omega)⟩
    rw [List.getElem?_map, hk'] at hk
    rw [List.getElem?_map, hv] at hy
    cases hk
    cases hy
    have vl := sm v (List.mem_cons_of_mem _ (List.mem_of_getElem? hv))
    have ez : (List.zipWith partOf ks r)[i]? = some (partOf k v) := by rw [List.getElem?_zipWith, hk', hv]
    obtain ⟨v0, v1', rfl⟩ : ∃ v0 v1', σ1 = [v0, v1'] := by
      match σ1, s2 with
      | [v0, v1'], _ => exact ⟨v0, v1', rfl⟩
    have g06 : Same H H6 := (g04.trans at1.same).trans g6
    walk_at "rz"
    refine ⟨k, v, rfl, kk k (List.mem_of_getElem? hk'), by omega, fun d hd r7 H7 g7 rd => ?_, fun hn H7 g7 => e (by rw [allP_none (by rw [← hn]; exact List.mem_of_getElem? ez)]; rfl) H7 (g06.trans g7)⟩
    have hD7 := g7 _ _ (g6 _ _ at1.lst)
    refine at1.put (g6.trans g7) fun H8 mu => ⟨rfl, ds ++ [d], RpL.app (.cons ((part_hide hD7 hd rd).mono fun a u e => ?_) .nil) (rz.mono fun a u e => ?_), ?_⟩
    · obtain ⟨n, e⟩ := hide_inv e
      exact hide_of n (mu.old e n)
    · obtain ⟨n, e⟩ := hide_inv e
      exact hide_of n (mu.old (g7 _ _ (g6 _ _ e)) n)
    · obtain ⟨ez1, ez2⟩ := List.getElem?_eq_some_iff.mp ez
      rw [← List.take_append_getElem ez1, eu, List.map_append, ez2, hd]
      rfl
  · rintro D' zs σ1 H5 hC g5 hy hle ⟨_, ds, rz, eu⟩
    rw [lm, ← lz, List.take_of_length_le (Nat.le_refl _)] at eu
    rw [lm] at hle
    refine ⟨D', rfl, _, _, g5 _ _ (g4 _ _ h3'.down), hy, by simp; omega, fun p6 H6 hp6 g6 h6 => ?_⟩
    refine q x ds (by rw [eu, allP_some]; rfl) p6 H6 zs (g04.free (g5.free hp6)) (g04.trans (g5.trans g6)) h6 (rz.mono fun a u e => ?_)
    obtain ⟨n, e⟩ := hide_inv e
    exact hide_of (fun z => by rw [z, hp6] at e; cases e) (g6 _ _ e)
end
end K09
namespace K09
open PySem L2
theorem num_cps (k : Nat) : (Str.ofString (toString ((k : Nat) : Int))).cps.toList = (Nat.toDigits 10 k).map Char.toNat := PySem.W.KIN.signs_num k
theorem num_len {k : Nat} (h : k < 10 ^ 6) : 1 ≤ (Str.ofString (toString ((k : Nat) : Int))).length ∧ (Str.ofString (toString ((k : Nat) : Int))).length ≤ 6 := by
  have e : (Str.ofString (toString ((k : Nat) : Int))).cps.toList.length = (Str.ofString (toString ((k : Nat) : Int))).length := Array.length_toList
  rw [← e, num_cps, List.length_map]
  exact ⟨PySem.toDigits_len_ge 10 k, PySem.toDigits_len_pow (by decide) (by decide) h⟩
theorem log_k {k : Nat} (h : k ≤ 1000) : ((k : Nat) : Int).natAbs.log2 < 1920 := by
  rw [Int.natAbs_natCast]
  exact Nat.lt_of_le_of_lt (Nat.log2_le_self k) (by omega)
def placeB (w : Str) (hE bE : Bool) (kd : Str) : Bool := if w = "tool" ∨ w = "store" ∨ w = "row" then hE else if w = "hand" then bE else if w = "else" then (!bE && decide (kd = "if")) else !bE
section
variable {P : Program} {w : World} {K : PySem.W.Frag} {mg : Str → Option Value} {base : Heap}
def PlS (σ0 : St) (H0 : Hp) (b : Bool) (σ : St) (H' : Hp) : Prop := σ = σ0 ++ [some (.bl b)] ∧ Same H0 H'
def spPc (C : Addr) : Sp := fun vs H Q E => ∃ (k : Nat) (x : Str) (p b tl sl rl hl : Addr) (hs bs : List V) (kd : Str), vs = [.int (k : Nat), .str x, .ref p, .ref b] ∧ k ≤ 1000 ∧ x.length ≤ 100000 ∧ H p = some (.tup [.ref tl, .ref sl, .ref rl, .ref hl]) ∧ H hl = some (.lst hs) ∧ hs.length ≤ 1000 ∧ H b = some (.lst bs) ∧ bs.length ≤ 1000 ∧ (bs ≠ [] → ∃ f r, atI bs (-1) = some (.ref f) ∧ H f = some (.tup (.str kd :: r))) ∧
  (placeB x hs.isEmpty bs.isEmpty kd = true → ∀ H', Same H H' → Q .non H') ∧ (placeB x hs.isEmpty bs.isEmpty kd = false → ∀ H', Same H H' → E (.ref C) none H')
theorem ok_place {C : Addr} (D : DefAt K mg "check_place" s_check_place ["k", "word", "program", "bodies"]) (hlen : mg "len" = none) (O_NoPlace : ExcAt K mg "NoPlace" C) : OkR P w K mg base 1 "check_place" ["k", "word", "program", "bodies"] (spPc C) := by
  refine D.okR sc_check_place (fun vs H Q E h => ?_) (fun f cdv A outer s H vs Q E hr h => ?_)
  · obtain ⟨_, _, _, _, _, _, _, _, _, _, _, rfl, _⟩ := h; rfl
  obtain ⟨k, x, p, b, tl, sl, rl, hl, hs, bs, kd, rfl, hk, hx, hp, hh, lh, hb, lb, hf, q, e⟩ := h
  have big : 2000000 ≤ sizeLine := by unfold sizeLine; decide
  refine ⟨_, (pss_cons (ps_set (i := 4) sc_check_place.nd rfl (Or.inl rfl) (pe_ix ix_g (pv 2) pe_int (fun _ _ => rfl)))
  (pss_cons (ps_up (ps_if (pt_cmpR op_inG (pv 1) (pe_tupG (pa_c pe_str (pa_c pe_str (pa_c pe_str pa_nil)))) (by with_unfolding_all rfl))
  (pss_one (ps_set (i := 5) sc_check_place.nd rfl (Or.inl rfl) (pe_notL (pv 4))))
  (pss_one (ps_up (ps_if (pt_cmpR op_eq (pv 1) pe_str (nomark _))
  (pss_one (ps_set (i := 5) sc_check_place.nd rfl (Or.inl rfl) (pe_notL (pv 3))))
  (pss_one (ps_up (ps_if (pt_cmpR op_eq (pv 1) pe_str (nomark _))
  (pss_one (ps_set (i := 5) sc_check_place.nd rfl (Or.inl rfl) (pe_and (pe_cmpR op_gt (pe_cB call_lenG rfl hlen PySem.boot_len (pa_c (pv 3) pa_nil)) pe_int (nomark _)) (pe_one (pe_cmpR op_eq (pe_ix ix_g (pe_ix ix_g (pv 3) (pe_un un_neg pe_int) (fun _ _ => rfl)) pe_int (fun _ _ => rfl)) pe_str (nomark _))))))
  (pss_one (ps_set (i := 5) sc_check_place.nd rfl (Or.inl rfl) (pe_cmpR op_gt (pe_cB call_lenG rfl hlen PySem.boot_len (pa_c (pv 3) pa_nil)) pe_int (nomark _))))))))))))
  (pss_one (ps_if (pt_not (pt_val (pv 5)))
  (pss_one (ps_raise raises_def rfl O_NoPlace rfl (pa_c (pe_fstr (pj_cons pe_str (pj_cons (pe_fmt (pv 0)) (pj_cons pe_str (pj_cons (pe_fmt (pv 1)) (pj_cons pe_str pj_nil)))))) pa_nil)))
  pss_nil)))), ?_⟩
  walk_at "rz"
  have sy : ∀ a b : Str, decide (a = b) = decide (b = a) := fun a b => by by_cases z : a = b <;> simp [z, eq_comm]
  have hb' := PLift.up hb
  have hp' := PLift.up hp
  obtain ⟨B, eB⟩ : ∃ B, placeB x hs.isEmpty bs.isEmpty kd = B := ⟨_, rfl⟩
  rw [eB] at q e
  have eB := PLift.up eB
  refine ⟨PlS [some (.int k), some (.str x), some (.ref p), some (.ref b), some (.ref hl)] H B, fun p1 H1 hp1 g1 h1 => ?_, ?_⟩
  · have ei : inV (.str x) [.str "tool", .str "store", .str "row"] = decide (x = Str.ofString "tool" ∨ x = Str.ofString "store" ∨ x = Str.ofString "row") := by
      rw [inV_cons, inV_cons, inV_cons, inV_nil, eqV_ss, eqV_ss, eqV_ss, Bool.or_false, sy "tool" x, sy "store" x, sy "row" x, Bool.decide_or, Bool.decide_or]
    have w1 := PLift.up h1
    have hh1 := g1 _ _ hh
    have hb1 := g1 _ _ hb
    clear h1 hp hh hb
    walk_at "rz"
    refine ⟨_, .inl w1.down, rfl, rfl, decide (x = Str.ofString "tool" ∨ x = Str.ofString "store" ∨ x = Str.ofString "row"), congrArg V.bl (by rw [if_neg (by decide)]; exact ei), ?_⟩
    clear w1
    by_cases c1 : x = Str.ofString "tool" ∨ x = Str.ofString "store" ∨ x = Str.ofString "row"
    · rw [decide_eq_true c1]
      refine iteT ?_
      have ep := PLift.up (eB.down.symm.trans (if_pos c1))
      walk_at "rz"
      exact ⟨by rw [ep.down]; rfl, g1⟩
    · rw [decide_eq_false c1]
      refine iteF ?_
      walk_at "rz"
      refine ⟨PlS [some (.int k), some (.str x), some (.ref p), some (.ref b), some (.ref hl)] H B, ?_, fun σ' H' z => z⟩
      refine ite2 (fun c2 => ?_) fun c2 => ?_
      · have ep := PLift.up (eB.down.symm.trans ((if_neg c1).trans (if_pos c2)))
        clear c2
        walk_at "rz"
        exact ⟨by rw [ep.down]; rfl, g1⟩
      · walk_at "rz"
        refine ⟨PlS [some (.int k), some (.str x), some (.ref p), some (.ref b), some (.ref hl)] H B, ?_, fun σ' H' z => z⟩
        refine ite2 (fun c3 => ?_) fun c3 => ?_
        · have ep := PLift.up (eB.down.symm.trans ((if_neg c1).trans ((if_neg c2).trans (if_pos c3))))
          clear c3
          cases bs with
          | nil =>
            walk_at "rz"
            exact ⟨by rw [ep.down]; rfl, g1⟩
          | cons b0 bs =>
            obtain ⟨fa, r, ef, hf⟩ := hf (List.cons_ne_nil _ _)
            have hf1 := g1 _ _ hf
            clear hf
            walk_at "rz"
            rw [if_pos (by omega)]
            walk_at "rz"
            exact ⟨by rw [ep.down]; rfl, g1⟩
        · have ep := PLift.up (eB.down.symm.trans ((if_neg c1).trans ((if_neg c2).trans (if_neg c3))))
          walk_at "rz"
          exact ⟨by rw [ep.down, show decide ((0 : Int) < (bs.length : Int)) = !bs.isEmpty by cases bs <;> simp]; rfl, g1⟩
  · rintro σ' H' ⟨rfl, g2⟩
    simp only [List.cons_append, List.nil_append]
    clear eB
    cases B with
    | true => walk_at "rz"
    | false =>
      have l1 : (Str.ofString "row ").length = 4 := by decide +kernel
      have l2 : (Str.ofString ": ").length = 2 := by decide +kernel
      have l3 : (Str.ofString " may not stand here").length = 19 := by decide +kernel
      walk_at "rz"
      have l4 := (num_len (k := k) (by omega)).2
      repeat (refine ⟨by first | omega | (simp only [cat_len, len_emp, l1, l2, l3]; omega) | with_reducible exact log_k hk, ?_⟩; try walk_at "rz")
end
end K09
namespace K09
open PySem L2
def deepB (x : Str) (n : Nat) : Bool := decide ((x = "if" ∨ x = "while") ∧ n = 6)
section
variable {P : Program} {w : World} {K : PySem.W.Frag} {mg : Str → Option Value} {base : Heap}
def spDp (C : Addr) : Sp := fun vs H Q E => ∃ (k : Nat) (x : Str) (b : Addr) (bs : List V), vs = [.int (k : Nat), .str x, .ref b] ∧ k ≤ 1000 ∧ H b = some (.lst bs) ∧ bs.length ≤ 1000 ∧
  (deepB x bs.length = false → ∀ H', Same H H' → Q .non H') ∧ (deepB x bs.length = true → ∀ H', Same H H' → E (.ref C) none H')
theorem ok_depth {C : Addr} {t1 : Tok} (D : DefAt K mg "check_depth" s_check_depth ["k", "word", "bodies"]) (hlen : mg "len" = none) (hMD : mg "MOST_DEEP" = some (.int 6 t1)) (O_TooDeep : ExcAt K mg "TooDeep" C) : OkR P w K mg base 1 "check_depth" ["k", "word", "bodies"] (spDp C) := by
  refine D.okR sc_check_depth (fun vs H Q E h => ?_) (fun f cdv A outer s H vs Q E hr h => ?_)
  · obtain ⟨_, _, _, _, rfl, _⟩ := h; rfl
  obtain ⟨k, x, b, bs, rfl, hk, hb, lb, q, e⟩ := h
  have big : 2000000 ≤ sizeLine := by unfold sizeLine; decide
  have sy : ∀ a b : Str, decide (a = b) = decide (b = a) := fun a b => by by_cases z : a = b <;> simp [z, eq_comm]
  have ei : inV (.str x) [.str "if", .str "while"] = decide (x = Str.ofString "if" ∨ x = Str.ofString "while") := by
    rw [inV_cons, inV_cons, inV_nil, eqV_ss, eqV_ss, Bool.or_false, sy "if" x, sy "while" x, Bool.decide_or]
  have l1 : (Str.ofString "row ").length = 4 := by decide +kernel
  have l2 : (Str.ofString ": a body too deep").length = 17 := by decide +kernel
  have l4 := (num_len (k := k) (by omega)).2
  refine ⟨_, (pss_one (ps_if (PW.pt (pw_and (pt_cmpR op_inG (pv 1) (pe_tupG (pa_c pe_str (pa_c pe_str pa_nil))) (by with_unfolding_all rfl)) (pw_and1 (pt_cmpR op_eq (pe_cB call_lenG rfl hlen PySem.boot_len (pa_c (pv 2) pa_nil)) (pe_glob (v := .int 6) rfl hMD ⟨_, rfl⟩) (nomark _)))))
  (pss_one (ps_raise raises_def rfl O_TooDeep rfl (pa_c (pe_fstr (pj_cons pe_str (pj_cons (pe_fmt (pv 0)) (pj_cons pe_str pj_nil)))) pa_nil)))
  pss_nil)), ?_⟩
  walk_at "rz"
  intro p1 H1 hp1 g1 h1
  have w1 := PLift.up h1
  have hb1 := g1 _ _ hb
  clear h1 hb
  walk_at "rz"
  refine ⟨_, .inl w1.down, rfl, rfl, decide (x = Str.ofString "if" ∨ x = Str.ofString "while"), congrArg V.bl (by rw [if_neg (by decide)]; exact ei), ?_⟩
  clear w1
  by_cases c1 : x = Str.ofString "if" ∨ x = Str.ofString "while"
  · rw [decide_eq_true c1]
    refine iteT ?_
    walk_at "rz"
    refine ite2 (fun c2 => ?_) fun c2 => ?_
    · have e := e (decide_eq_true ⟨c1, by omega⟩) _ g1
      clear c1 q
      walk_at "rz"
      repeat (refine ⟨by first | omega | (simp only [cat_len, len_emp, l1, l2]; omega) | with_reducible exact log_k hk, ?_⟩; try walk_at "rz")
    · have q := q (decide_eq_false fun z => c2 (by omega)) _ g1
      clear e
      walk_at "rz"
  · rw [decide_eq_false c1]
    refine iteF ?_
    have q := q (decide_eq_false fun z => c1 z.1) _ g1
    clear e
    walk_at "rz"
end
end K09
namespace K09
open PySem L2
inductive MsS : Str → List V → Bool → Prop
  | tool {x : Str} {v : V} {n : Int} : x = "tool" → MsS x [v, .int n] (decide (1 ≤ n) && decide (n ≤ 9))
  | store {x : Str} {v : V} {a b : Int} : x = "store" → MsS x [v, .int a, .int b] (decide (a ≤ b) && (decide (1 ≤ b) && decide (b ≤ 999)))
  | row {x : Str} {v : V} {ns : List Int} : x = "row" → ns ≠ [] → MsS x (v :: ns.map V.int) (decide (∀ n ∈ ns, n ≤ 999))
  | other {x : Str} {ys : List V} : x ≠ "tool" → x ≠ "store" → x ≠ "row" → MsS x ys true
section
variable {P : Program} {w : World} {K : PySem.W.Frag} {mg : Str → Option Value} {base : Heap}
def MsZ (k : Nat) (p : Addr) (x : Str) (B : Bool) (H : Hp) (σ : St) (H' : Hp) : Prop := σ = [some (.int (k : Nat)), some (.ref p), some (.str x), some (.bl B)] ∧ Same H H'
def spMs (C : Addr) : Sp := fun vs H Q E => ∃ (k : Nat) (x : Str) (p : Addr) (ys : List V) (B : Bool), vs = [.int (k : Nat), .ref p] ∧ k ≤ 1000 ∧ H p = some (.lst (.str x :: ys)) ∧ MsS x ys B ∧
  (B = true → ∀ H', Same H H' → Q .non H') ∧ (B = false → ∀ H', Same H H' → E (.ref C) none H')
theorem ok_meas {C : Addr} {t1 t2 t3 : Tok} (D : DefAt K mg "check_measure" s_check_measure ["k", "parts"]) (hmax : mg "max" = none) (hMP : mg "MOST_PIECES" = some (.int 9 t1)) (hMLv : mg "MOST_LEVEL" = some (.int 999 t2)) (hMDr : mg "MOST_DRAWN" = some (.int 999 t3)) (O_NoMeasure : ExcAt K mg "NoMeasure" C) : OkR P w K mg base 1 "check_measure" ["k", "parts"] (spMs C) := by
  refine D.okR sc_check_measure (fun vs H Q E h => ?_) (fun f cdv A outer s H vs Q E hr h => ?_)
  · obtain ⟨_, _, _, _, _, rfl, _⟩ := h; rfl
  obtain ⟨k, x, p, ys, B, rfl, hk, hp, ms, q, e⟩ := h
  have big : 2000000 ≤ sizeLine := by unfold sizeLine; decide
  have l1 : (Str.ofString "row ").length = 4 := by decide +kernel
  have l2 : (Str.ofString ": a number out of its bounds").length = 28 := by decide +kernel
  have l4 := (num_len (k := k) (by omega)).2
  refine ⟨_, (pss_cons (ps_set (i := 2) sc_check_measure.nd rfl (Or.inl rfl) (pe_ix ix_g (pv 1) pe_int (fun _ _ => rfl)))
  (pss_cons (ps_set (i := 3) sc_check_measure.nd rfl (Or.inl rfl) pe_bl)
  (pss_cons (ps_up (ps_if (pt_cmpR op_eq (pv 2) pe_str (nomark _))
  (pss_one (ps_set (i := 3) sc_check_measure.nd rfl (Or.inl rfl) (pe_chain op_le op_le pe_int (pe_ix ix_g (pv 1) pe_int (fun _ _ => rfl)) (pe_glob (v := .int 9) rfl hMP ⟨_, rfl⟩))))
  (pss_one (ps_up (ps_if (pt_cmpR op_eq (pv 2) pe_str (nomark _))
  (pss_one (ps_set (i := 3) sc_check_measure.nd rfl (Or.inl rfl) (pe_and (pe_cmpR op_le (pe_ix ix_g (pv 1) pe_int (fun _ _ => rfl)) (pe_ix ix_g (pv 1) pe_int (fun _ _ => rfl)) (nomark _)) (pe_one (pe_chain op_le op_le pe_int (pe_ix ix_g (pv 1) pe_int (fun _ _ => rfl)) (pe_glob (v := .int 999) rfl hMLv ⟨_, rfl⟩))))))
  (pss_one (ps_up (ps_if (pt_cmpR op_eq (pv 2) pe_str (nomark _))
  (pss_one (ps_set (i := 3) sc_check_measure.nd rfl (Or.inl rfl) (pe_cmpR op_le (pe_cB (call_maxL rfl) rfl hmax (by decide +kernel) (pa_c (pe_slice sl_g (pv 1) (po_some pe_int) po_none) pa_nil)) (pe_glob (v := .int 999) rfl hMDr ⟨_, rfl⟩) (nomark _))))
  pss_nil))))))))
  (pss_one (ps_if (pt_not (pt_val (pv 3)))
  (pss_one (ps_raise raises_def rfl O_NoMeasure rfl (pa_c (pe_fstr (pj_cons pe_str (pj_cons (pe_fmt (pv 0)) (pj_cons pe_str pj_nil)))) pa_nil)))
  pss_nil))))), ?_⟩
  walk_at "rz"
  refine ⟨MsZ k p x B H, ?_, ?_⟩
  · cases ms with
    | tool hx =>
      subst hx
      walk_at "rz"
      refine ite2 (fun c => ?_) fun c => ?_
      · have c' := PLift.up c
        clear c
        walk_at "rz"
        exact ⟨by rw [decide_eq_true c'.down]; rfl, Same.refl _⟩
      · have c' := PLift.up c
        clear c
        walk_at "rz"
        exact ⟨by rw [decide_eq_false c'.down]; rfl, Same.refl _⟩
    | store hx =>
      subst hx
      rename_i v a b
      walk_at "rz"
      refine ⟨MsZ k p (Str.ofString "store") (decide (a ≤ b) && (decide (1 ≤ b) && decide (b ≤ 999))) H, ?_, fun _ _ z => z⟩
      refine ite2 (fun c => ?_) fun c => ?_
      · have c' := PLift.up c
        clear c
        walk_at "rz"
        refine ite2 (fun d => ?_) fun d => ?_
        · have d' := PLift.up d
          clear d
          walk_at "rz"
          exact ⟨by rw [decide_eq_true c'.down, decide_eq_true d'.down]; rfl, Same.refl _⟩
        · have d' := PLift.up d
          clear d
          walk_at "rz"
          exact ⟨by rw [decide_eq_true c'.down, decide_eq_false d'.down]; rfl, Same.refl _⟩
      · have c' := PLift.up c
        clear c
        walk_at "rz"
        exact ⟨by rw [decide_eq_false c'.down]; rfl, Same.refl _⟩
    | row hx hn =>
      subst hx
      rename_i v ns
      walk_at "rz"
      refine ⟨MsZ k p (Str.ofString "row") (decide (∀ n ∈ ns, n ≤ 999)) H, ⟨MsZ k p (Str.ofString "row") (decide (∀ n ∈ ns, n ≤ 999)) H, fun p2 H2 hp2 g2 h2 => ?_, fun _ _ z => z⟩, fun _ _ z => z⟩
      have h2' : PLift (H2 p2 = some (.lst (ns.map V.int))) := ⟨by rw [h2]; simp [cutV, HT.sIx, List.take_of_length_le]⟩
      clear h2 hp
      walk_at "rz"
      refine ⟨ns, h2'.down, List.length_pos_iff.mpr hn, fun M mM mx => ?_⟩
      walk_at "rz"
      refine ⟨?_, g2⟩
      rw [show decide (∀ n ∈ ns, n ≤ 999) = decide (M ≤ 999) by
        by_cases c : M ≤ 999
        · rw [decide_eq_true c, decide_eq_true fun n hn => Int.le_trans (mx n hn) c]
        · rw [decide_eq_false c, decide_eq_false fun z => c (z M mM)]]
    | other h1 h2 h3 =>
      walk_at "rz"
      exact ⟨MsZ k p x true H, ⟨MsZ k p x true H, ⟨rfl, Same.refl _⟩, fun _ _ z => z⟩, fun _ _ z => z⟩
  · rintro σ' H' ⟨rfl, g2⟩
    cases B with
    | true =>
      have q := q rfl _ g2
      clear e
      walk_at "rz"
    | false =>
      have e := e rfl _ g2
      clear q
      walk_at "rz"
      repeat (refine ⟨by first | omega | (simp only [cat_len, len_emp, l1, l2]; omega) | with_reducible exact log_k hk, ?_⟩; try walk_at "rz")
end
end K09
namespace K09
open PySem L2
inductive Ns (H : Hp) : List V → List Str → Prop
  | nil : Ns H [] []
  | cons {p : Addr} {s : Str} {r vs : List V} {l : List Str} : H p = some (.tup (.str s :: r)) → Ns H vs l → Ns H (.ref p :: vs) (s :: l)
theorem Ns.mono {H H' : Hp} (g : ∀ c xs, H c = some (.tup xs) → H' c = some (.tup xs)) {vs : List V} {l : List Str} (t : Ns H vs l) : Ns H' vs l := by
  induction t with
  | nil => exact .nil
  | cons h _ ih => exact .cons (g _ _ h) ih
theorem Ns.length {H : Hp} {vs : List V} {l : List Str} (t : Ns H vs l) : vs.length = l.length := by
  induction t with
  | nil => rfl
  | cons _ _ ih => rw [List.length_cons, List.length_cons, ih]
theorem Ns.get {H : Hp} {vs : List V} {l : List Str} (t : Ns H vs l) : ∀ {i : Nat} {v : V}, vs[i]? = some v → ∃ p s r, v = .ref p ∧ l[i]? = some s ∧ H p = some (.tup (.str s :: r)) := by
  induction t with
  | nil => intro i v e; simp at e
  | cons h _ ih =>
    intro i v e
    cases i with
    | zero => simp at e; exact ⟨_, _, _, e.symm, rfl, h⟩
    | succ i => simpa using ih (i := i) (v := v) (by simpa using e)
theorem take_snoc {α : Type} {xs : List α} {i : Nat} {x : α} (h : xs[i]? = some x) : xs.take (i + 1) = xs.take i ++ [x] := by
  rw [List.take_succ, h]; rfl
inductive TwS (nt nr nh : List Str) : Str → List V → Bool → Prop
  | good {x nm : Str} {r : List V} : x = "tool" ∨ x = "store" → TwS nt nr nh x (.str nm :: r) (decide (nm ∈ nt))
  | row {x nm : Str} {r : List V} : x = "row" → TwS nt nr nh x (.str nm :: r) (decide (nm ∈ nr))
  | hand {x nm : Str} {ns : List Str} : x = "hand" → ns.length ≤ 1000 → TwS nt nr nh x (.str nm :: ns.map V.str) (decide (nm ∈ nh) || !decide ns.Nodup)
  | other {x : Str} {ys : List V} : x ≠ "tool" → x ≠ "store" → x ≠ "row" → x ≠ "hand" → TwS nt nr nh x ys false
section
variable {P : Program} {w : World} {K : PySem.W.Frag} {mg : Str → Option Value} {base : Heap}
def AgP (l : List Str) (nm : Str) (vp : Option V) (i : Nat) (ys : List V) (σ1 : St) (H' : Hp) : Prop := (ys.isEmpty = !decide (nm ∈ l.take i)) ∧ ∃ v0, σ1 = [v0, vp]
theorem compJ_ag {H : Hp} {o pp : Addr} {ys pr : List V} {l : List Str} {x nm : Str} {Q : VK} (ho : H o = some (.lst ys)) (ns : Ns H ys l) (hl : l.length ≤ 1000) (hp : l ≠ [] → H pp = some (.lst (.str x :: .str nm :: pr))) (q : ∀ D H' zs, H D = none → Same H H' → H' D = some (.lst zs) → zs.isEmpty = !decide (nm ∈ l) → Q (.ref D) H') : CompJ (Itl K o) (gName 0) (tTest (tOp rEq (tOp rIxG (tVar 0) (tC (V.int 0))) (tOp rIxG (tVar 1) (tC (V.int 1))))) (tVar 0) [none, some (.ref pp)] H Q := by
  have big : 100000 ≤ sizeLine := by unfold sizeLine; decide
  refine compJ_list ho (by have := ns.length; omega) (AgP l nm (some (.ref pp))) (fun H' _ => ⟨by simp, _, rfl⟩) ?_ ?_
  · rintro D i v ys' σ1 H1 hx at1 ⟨ey, v0, rfl⟩
    obtain ⟨p, t, r, rfl, et, hpp⟩ := ns.get hx
    have hp1 := at1.same _ _ hpp
    have hq1 := at1.same _ _ (hp fun z => by rw [z] at et; cases et)
    have ey' := PLift.up ey
    clear ho ey
    walk_at "rz"
    refine ite2 (fun c => ?_) fun c => ?_
    · have c' := PLift.up c
      clear c
      walk_at "rz"
      refine at1.put (Same.refl _) fun H5 mu => ⟨?_, _, rfl⟩
      rw [take_snoc et, c'.down]
      simp
    · refine at1.skip (Same.refl _) ⟨?_, _, rfl⟩
      rw [take_snoc et, ey'.down]
      have : ¬ nm = t := fun z => c z.symm
      simp [this]
  · rintro D ys' σ1 H1 hD g1 hy hle ⟨ey, _⟩
    rw [List.take_of_length_le (by have := ns.length; omega)] at ey
    exact q D H1 ys' hD g1 hy ey
def spTw (C : Addr) : Sp := fun vs H Q E => ∃ (k : Nat) (x : Str) (pp p tl sl rl hl : Addr) (ys ta sa ra ha : List V) (nt ns nr nh : List Str) (B : Bool), vs = [.int (k : Nat), .ref pp, .ref p] ∧ k ≤ 1000 ∧ H pp = some (.lst (.str x :: ys)) ∧ H p = some (.tup [.ref tl, .ref sl, .ref rl, .ref hl]) ∧ (H tl = some (.lst ta) ∧ Ns H ta nt ∧ nt.length ≤ 400) ∧ (H sl = some (.lst sa) ∧ Ns H sa ns ∧ ns.length ≤ 400) ∧ (H rl = some (.lst ra) ∧ Ns H ra nr ∧ nr.length ≤ 400) ∧ (H hl = some (.lst ha) ∧ Ns H ha nh ∧ nh.length ≤ 400) ∧ TwS (nt ++ ns) nr nh x ys B ∧
  (B = false → ∀ H', Same H H' → Q .non H') ∧ (B = true → ∀ H', Same H H' → E (.ref C) none H')
def ahL (nt nr nh : List Str) (x : Str) : List Str := if x = "tool" ∨ x = "store" then nt else if x = "row" then nr else if x = "hand" then nh else []
def TwZ (H : Hp) (l : List Str) (σ0 : St) (σ : St) (H' : Hp) : Prop := ∃ o ys, Same H H' ∧ H' o = some (.lst ys) ∧ Ns H' ys l ∧ σ = σ0 ++ [some (.ref o), none]
theorem Ns.app {H : Hp} {vs ws : List V} {l m : List Str} (a : Ns H vs l) (b : Ns H ws m) : Ns H (vs ++ ws) (l ++ m) := by
  induction a with
  | nil => exact b
  | cons h _ ih => exact .cons h ih
theorem Ns.up {H H' : Hp} (g : Same H H') {vs : List V} {l : List Str} (t : Ns H vs l) : Ns H' vs l := t.mono fun c xs h => g c _ h
theorem nMet_nodup (l : List Str) : nMet (fun i => l.getD i "") l.length = l.length ↔ l.Nodup := by
  rw [nMet_eq]
  unfold List.Nodup
  rw [List.pairwise_iff_getElem]
  constructor
  · intro h i j hi hj lt
    have := h j hj i lt
    simpa [List.getD_eq_getElem?_getD, List.getElem?_eq_getElem, hi, hj] using this
  · intro h i hi j lt
    have := h j i (by omega) hi lt
    simpa [List.getD_eq_getElem?_getD, List.getElem?_eq_getElem, hi, show j < l.length by omega] using this
theorem ok_twice {C : Addr} (D : DefAt K mg "check_twice" s_check_twice ["k", "parts", "program"]) (hlen : mg "len" = none) (hset : mg "set" = none) (O_Twice : ExcAt K mg "Twice" C) : OkR P w K mg base 1 "check_twice" ["k", "parts", "program"] (spTw C) := by
  refine D.okR sc_check_twice (fun vs H Q E h => ?_) (fun f cdv A outer s H vs Q E hr h => ?_)
  · obtain ⟨_, _, _, _, _, _, _, _, _, _, _, _, _, _, _, _, _, _, rfl, _⟩ := h; rfl
  obtain ⟨k, x, pp, p, tl, sl, rl, hl, ys, ta, sa, ra, ha, nt, ns, nr, nh, B, rfl, hk, hpp, hp, ⟨ht, nst, lt⟩, ⟨hs, nss, ls⟩, ⟨hrr, nsr, lr⟩, ⟨hh, nsh, lh⟩, tw, q, e⟩ := h
  have big : 2000000 ≤ sizeLine := by unfold sizeLine; decide
  have l1 : (Str.ofString "row ").length = 4 := by decide +kernel
  have l2 : (Str.ofString ": a name that stands twice").length = 26 := by decide +kernel
  have l4 := (num_len (k := k) (by omega)).2
  have sy : ∀ a b : Str, decide (a = b) = decide (b = a) := fun a b => by by_cases z : a = b <;> simp [z, eq_comm]
  have ei : inV (.str x) [.str "tool", .str "store"] = decide (x = Str.ofString "tool" ∨ x = Str.ofString "store") := by
    rw [inV_cons, inV_cons, inV_nil, eqV_ss, eqV_ss, Bool.or_false, sy "tool" x, sy "store" x, Bool.decide_or]
  refine ⟨_, (pss_cons (ps_asg (pv 2) (pg_tupG 4 rfl (pgs_cons (pg_name (i := 3) sc_check_twice.nd rfl (Or.inl rfl)) (pgs_cons (pg_name (i := 4) sc_check_twice.nd rfl (Or.inl rfl)) (pgs_cons (pg_name (i := 5) sc_check_twice.nd rfl (Or.inl rfl)) (pgs_cons (pg_name (i := 6) sc_check_twice.nd rfl (Or.inl rfl)) pgs_nil))))))
  (pss_cons (ps_set (i := 7) sc_check_twice.nd rfl (Or.inl rfl) (pe_lstG pa_nil))
  (pss_cons (ps_up (ps_if (pt_cmpR op_inG (pe_ix ix_g (pv 1) pe_int (fun _ _ => rfl)) (pe_tupG (pa_c pe_str (pa_c pe_str pa_nil))) (by with_unfolding_all rfl))
  (pss_one (ps_set (i := 7) sc_check_twice.nd rfl (Or.inl rfl) (pe_op op_catG (pv 3) (pv 4))))
  (pss_one (ps_up (ps_if (pt_cmpR op_eq (pe_ix ix_g (pv 1) pe_int (fun _ _ => rfl)) pe_str (nomark _))
  (pss_one (ps_set (i := 7) sc_check_twice.nd rfl (Or.inl rfl) (pv 5)))
  (pss_one (ps_up (ps_if (pt_cmpR op_eq (pe_ix ix_g (pv 1) pe_int (fun _ _ => rfl)) pe_str (nomark _))
  (pss_one (ps_set (i := 7) sc_check_twice.nd rfl (Or.inl rfl) (pv 6)))
  pss_nil))))))))
  (pss_cons (ps_setCN (i := 8) sc_check_twice.nd rfl (Or.inl rfl)  (comp_scopeN 1 (N := ["one", "parts"]) (cap := [1]) rfl rfl rfl rfl (by decide +kernel) rfl rfl rfl) rfl (pi_list (pv 7)) (fun _ _ _ _ => (pg_name (i := 0) (show List.Nodup (α := Str) ["one", "parts"] by decide +kernel) rfl (Or.inl (lookup_relabel_local rfl)) (Or.inr (lookup_relabel_local rfl)))) (fun _ _ _ _ => (pts_one (pt_cmpR op_eq (pe_ix ix_g (pv 0) pe_int (fun _ _ => rfl)) (pe_ix ix_g (pv 1) pe_int (fun _ _ => rfl)) (nomark _)))) (fun _ _ _ _ => (pv 0)))
  (pss_one (ps_if (PW.pt (pw_or (pt_truth (pv 8) (fun _ => rfl)) (pw_or1 (PW.pt (pw_and (pt_cmpR op_eq (pe_ix ix_g (pv 1) pe_int (fun _ _ => rfl)) pe_str (nomark _)) (pw_and1 (pt_cmpR op_lt (pe_lenSet rfl rfl hlen rfl hset (pa_c (pe_slice sl_g (pv 1) (po_some pe_int) po_none) pa_nil)) (pe_cB call_lenG rfl hlen PySem.boot_len (pa_c (pe_slice sl_g (pv 1) (po_some pe_int) po_none) pa_nil)) (nomark _))))))))
  (pss_one (ps_raise raises_def rfl O_Twice rfl (pa_c (pe_fstr (pj_cons pe_str (pj_cons (pe_fmt (pv 0)) (pj_cons pe_str pj_nil)))) pa_nil)))
  pss_nil)))))), ?_⟩
  walk_at "rz"
  intro p1 H1 hp1 g1 h1
  have hpp1 := g1 _ _ hpp
  have hpp := PLift.up hpp
  have ht1 := g1 _ _ ht
  have hs1 := g1 _ _ hs
  clear hp
  walk_at "rz"
  have hpq := PLift.up hpp1
  refine ⟨TwZ H (ahL (nt ++ ns) nr nh x) [some (.int k), some (.ref pp), some (.ref p), some (.ref tl), some (.ref sl), some (.ref rl), some (.ref hl)], fun p2 H2 hp2 g2 h2 => ?_, ?_⟩
  · have w1 := PLift.up h2
    have ht2 := g2 _ _ ht1
    have hs2 := g2 _ _ hs1
    have hpp2 := g2 _ _ hpp1
    have g12 := g1.trans g2
    have h12 := g2 _ _ h1
    have la := nst.length
    have lb := nss.length
    have hrr' := PLift.up hrr
    have hh' := PLift.up hh
    clear h2 ht1 hs1 hpp1 h1 ht hs hrr hh
    walk_at "rz"
    refine ⟨_, .inl w1.down, rfl, rfl, decide (x = Str.ofString "tool" ∨ x = Str.ofString "store"), congrArg V.bl (by rw [if_neg (by decide)]; exact ei), ?_⟩
    clear w1
    by_cases c1 : x = Str.ofString "tool" ∨ x = Str.ofString "store"
    · rw [decide_eq_true c1]
      refine iteT ?_
      walk_at "rz"
      refine ⟨by omega, fun p3 H3 hp3 g3 h3 => ⟨p3, _, g12.trans g3, h3, ?_, rfl⟩⟩
      rw [show ahL (nt ++ ns) nr nh x = nt ++ ns from if_pos c1]
      exact (nst.up (g12.trans g3)).app (nss.up (g12.trans g3))
    · rw [decide_eq_false c1]
      refine iteF ?_
      walk_at "rz"
      refine ⟨TwZ H (ahL (nt ++ ns) nr nh x) [some (.int k), some (.ref pp), some (.ref p), some (.ref tl), some (.ref sl), some (.ref rl), some (.ref hl)], ?_, fun _ _ z => z⟩
      refine ite2 (fun c2 => ?_) fun c2 => ?_
      · have ea : PLift (ahL (nt ++ ns) nr nh x = nr) := ⟨(if_neg c1).trans (if_pos c2)⟩
        clear c2
        walk_at "rz"
        exact ⟨rl, ra, g12, g12 _ _ hrr'.down, by rw [ea.down]; exact nsr.up g12, rfl⟩
      · walk_at "rz"
        refine ⟨TwZ H (ahL (nt ++ ns) nr nh x) [some (.int k), some (.ref pp), some (.ref p), some (.ref tl), some (.ref sl), some (.ref rl), some (.ref hl)], ?_, fun _ _ z => z⟩
        refine ite2 (fun c3 => ?_) fun c3 => ?_
        · have ea : PLift (ahL (nt ++ ns) nr nh x = nh) := ⟨(if_neg c1).trans ((if_neg c2).trans (if_pos c3))⟩
          clear c3
          walk_at "rz"
          exact ⟨hl, ha, g12, g12 _ _ hh'.down, by rw [ea.down]; exact nsh.up g12, rfl⟩
        · have ea : PLift (ahL (nt ++ ns) nr nh x = []) := ⟨(if_neg c1).trans ((if_neg c2).trans (if_neg c3))⟩
          walk_at "rz"
          exact ⟨p1, [], g12, h12, by rw [ea.down]; exact .nil, rfl⟩
  · rintro σ' H' ⟨o, zs, g2, ho, nz, rfl⟩
    simp only [List.cons_append, List.nil_append]
    clear hpp1 ht1 hs1 h1
    walk_at "rz"
    refine tcomp_in ?_
    simp only [iList]
    walk_at "rz"
    have hq2 := PLift.up (g2 _ _ hpp.down)
    have la : (ahL (nt ++ ns) nr nh x).length ≤ 1000 := by
      unfold ahL
      split
      · rw [List.length_append]; omega
      · split
        · omega
        · split
          · omega
          · exact Nat.zero_le _
    cases tw with
    | other n1 n2 n3 n4 =>
      have ea : ahL (nt ++ ns) nr nh x = [] := (if_neg (fun z => z.elim n1 n2)).trans ((if_neg n3).trans (if_neg n4))
      rw [ea] at nz
      refine ⟨⟨_, SqL.of ho⟩, compJ_ag (x := x) (nm := x) (pr := []) ho nz (Nat.zero_le _) (fun z => absurd rfl z) fun D5 H5 zs hD g5 h5 ez => ?_⟩
      refine ⟨!zs.isEmpty, .inl ⟨zs, SqL.of h5, rfl⟩, ?_⟩
      rw [show zs.isEmpty = true by rw [ez]; rfl]
      refine iteF ?_
      have hq5 := g5 _ _ hq2.down
      have q := q rfl _ (g2.trans g5)
      clear e ho h5
      walk_at "rz"
    | good hx =>
      rename_i nm r hpp0
      clear hpp0
      have ea : ahL (nt ++ ns) nr nh x = nt ++ ns := if_pos hx
      rw [ea] at nz la
      refine ⟨⟨_, SqL.of ho⟩, compJ_ag ho nz la (fun _ => hq2.down) fun D5 H5 zs hD g5 h5 ez => ?_⟩
      refine ⟨!zs.isEmpty, .inl ⟨zs, SqL.of h5, rfl⟩, ?_⟩
      rw [ez, Bool.not_not]
      have nh' : x ≠ Str.ofString "hand" := by rcases hx with rfl | rfl <;> decide +kernel
      have hq5 := g5 _ _ hq2.down
      cases cb : decide (nm ∈ nt ++ ns) with
      | true =>
        have e := e cb _ (g2.trans g5)
        refine iteT ?_
        clear q ho h5 ez cb
        walk_at "rz"
        repeat (refine ⟨by first | omega | (simp only [cat_len, len_emp, l1, l2]; omega) | with_reducible exact log_k hk, ?_⟩; try walk_at "rz")
      | false =>
        have q := q cb _ (g2.trans g5)
        refine iteF ?_
        clear e ho h5 ez cb hx ei
        walk_at "rz"
    | row hx =>
      rename_i nm r hpp0
      clear hpp0
      have n1 : ¬ (x = Str.ofString "tool" ∨ x = Str.ofString "store") := by rw [hx]; decide +kernel
      have ea : ahL (nt ++ ns) nr nh x = nr := (if_neg n1).trans (if_pos hx)
      rw [ea] at nz la
      refine ⟨⟨_, SqL.of ho⟩, compJ_ag ho nz la (fun _ => hq2.down) fun D5 H5 zs hD g5 h5 ez => ?_⟩
      refine ⟨!zs.isEmpty, .inl ⟨zs, SqL.of h5, rfl⟩, ?_⟩
      rw [ez, Bool.not_not]
      have nh' : x ≠ Str.ofString "hand" := by rw [hx]; decide +kernel
      have hq5 := g5 _ _ hq2.down
      cases cb : decide (nm ∈ nr) with
      | true =>
        have e := e cb _ (g2.trans g5)
        refine iteT ?_
        clear q ho h5 ez cb
        walk_at "rz"
        repeat (refine ⟨by first | omega | (simp only [cat_len, len_emp, l1, l2]; omega) | with_reducible exact log_k hk, ?_⟩; try walk_at "rz")
      | false =>
        have q := q cb _ (g2.trans g5)
        refine iteF ?_
        clear e ho h5 ez cb hx ei
        walk_at "rz"
    | hand hx ln =>
      rename_i nm ns' hpp0
      clear hpp0
      have n1 : ¬ (x = Str.ofString "tool" ∨ x = Str.ofString "store") := by rw [hx]; decide +kernel
      have n2 : ¬ x = Str.ofString "row" := by rw [hx]; decide +kernel
      have ea : ahL (nt ++ ns) nr nh x = nh := (if_neg n1).trans ((if_neg n2).trans (if_pos hx))
      rw [ea] at nz la
      refine ⟨⟨_, SqL.of ho⟩, compJ_ag ho nz la (fun _ => hq2.down) fun D5 H5 zs hD g5 h5 ez => ?_⟩
      refine ⟨!zs.isEmpty, .inl ⟨zs, SqL.of h5, rfl⟩, ?_⟩
      rw [ez, Bool.not_not]
      have hq5 := g5 _ _ hq2.down
      cases cb : decide (nm ∈ nh) with
      | true =>
        have e := e (by rw [cb]; rfl) _ (g2.trans g5)
        refine iteT ?_
        clear q ho h5 ez cb ei n1 n2 ea
        walk_at "rz"
        repeat (refine ⟨by first | omega | (simp only [cat_len, len_emp, l1, l2]; omega) | with_reducible exact log_k hk, ?_⟩; try walk_at "rz")
      | false =>
        rw [cb, Bool.false_or] at q e
        refine iteF ?_
        subst hx
        clear ho h5 ez cb ei n1 n2 ea
        walk_at "rz"
        intro p6 H6 hp6 g6 h6
        have h6' : PLift (H6 p6 = some (.lst (ns'.map V.str))) := ⟨by rw [h6]; simp [cutV, HT.sIx, List.take_of_length_le]⟩
        have hq6 := g6 _ _ hq5
        clear h6 hq5
        walk_at "rz"
        refine ⟨ns', h6'.down, ln, ?_⟩
        walk_at "rz"
        intro p7 H7 hp7 g7 h7
        have h7' : H7 p7 = some (.lst (ns'.map V.str)) := by rw [h7]; simp [cutV, HT.sIx, List.take_of_length_le]
        clear h7 hq6
        walk_at "rz"
        have nl := nMet_le (fun i => ns'.getD i (Str.ofString "")) ns'.length
        have nd := nMet_nodup ns'
        have g57 := g2.trans (g5.trans (g6.trans g7))
        have lm : (ns'.map V.str).length = ns'.length := List.length_map ..
        refine ite2 (fun c => ?_) fun c => ?_
        · have e := e (by rw [decide_eq_false (fun z => by have := nd.mpr z; rw [lm] at c; omega)]; rfl) _ g57
          clear q h7' c nd
          walk_at "rz"
          repeat (refine ⟨by first | omega | (simp only [cat_len, len_emp, l1, l2]; omega) | with_reducible exact log_k hk, ?_⟩; try walk_at "rz")
        · have q := q (by rw [decide_eq_true (nd.mp (by rw [lm] at c; omega))]; rfl) _ g57
          clear e h7' c nd
          walk_at "rz"
end
end K09
namespace K09
open PySem L2
section
variable {P : Program} {w : World} {K : PySem.W.Frag} {mg : Str → Option Value} {base : Heap}
def spSo (K : PySem.W.Frag) : Sp := fun vs H Q _ => ∃ (k : Nat) (x : Str) (pp : Addr) (ys : List V), vs = [.int (k : Nat), .ref pp] ∧ H pp = some (.lst (.str x :: ys)) ∧ ys.length ≤ 1000 ∧
  ((x = "start" ∧ ∃ v es, ys = v :: es ∧ ∀ p l H', H p = none → H l = none → Same H H' → H' l = some (.lst es) → H' p = some (.tup [.str x, .int (k : Nat), v, .ref l]) → Q (.ref p) H') ∨
   (x = "if" ∧ ∃ a sg b, ys = [a, sg, b] ∧ ∀ p u v H', H p = none → H u = none → H v = none → u ≠ v → Same H H' → H' u = some (.lst []) → H' v = some (.lst []) → H' p = some (.tup [.str x, .int (k : Nat), sg, a, b, .ref u, .ref v]) → Q (.ref p) H') ∨
   (x = "while" ∧ ∃ a sg b, ys = [a, sg, b] ∧ ∀ p u H', H p = none → H u = none → Same H H' → H' u = some (.lst []) → H' p = some (.tup [.str x, .int (k : Nat), sg, a, b, .ref u]) → Q (.ref p) H') ∨
   (x ≠ "start" ∧ x ≠ "if" ∧ x ≠ "while" ∧ ∀ p H', H p = none → Same H H' → H' p = some (.tup (.str x :: .int (k : Nat) :: ys)) → Q (.ref p) H'))
theorem ok_stat (D : DefAt K mg "statement_of" s_statement_of ["k", "parts"]) (htuple : mg "tuple" = none) : OkD P w K mg base 1 "statement_of" ["k", "parts"] (spSo K) := by
  refine D.ok sc_statement_of (fun vs H Q E h => ?_) (fun f cdv A outer s H vs Q E hr h => ?_)
  · obtain ⟨_, _, _, _, rfl, _⟩ := h; rfl
  obtain ⟨k, x, pp, ys, rfl, hp, ly, cs⟩ := h
  have big : 2000000 ≤ sizeLine := by unfold sizeLine; decide
  refine ⟨_, (pss_cons (ps_set (i := 2) sc_statement_of.nd rfl (Or.inl rfl) (pe_ix ix_g (pv 1) pe_int (fun _ _ => rfl)))
  (pss_cons (ps_if (pt_cmpR op_eq (pv 2) pe_str (nomark _))
  (pss_one (ps_ret (pe_tupG (pa_c (pv 2) (pa_c (pv 0) (pa_c (pe_ix ix_g (pv 1) pe_int (fun _ _ => rfl)) (pa_c (pe_slice sl_g (pv 1) (po_some pe_int) po_none) pa_nil)))))))
  pss_nil)
  (pss_cons (ps_if (pt_cmpR op_eq (pv 2) pe_str (nomark _))
  (pss_one (ps_ret (pe_tupG (pa_c (pv 2) (pa_c (pv 0) (pa_c (pe_ix ix_g (pv 1) pe_int (fun _ _ => rfl)) (pa_c (pe_ix ix_g (pv 1) pe_int (fun _ _ => rfl)) (pa_c (pe_ix ix_g (pv 1) pe_int (fun _ _ => rfl)) (pa_c (pe_lstG pa_nil) (pa_c (pe_lstG pa_nil) pa_nil))))))))))
  pss_nil)
  (pss_cons (ps_if (pt_cmpR op_eq (pv 2) pe_str (nomark _))
  (pss_one (ps_ret (pe_tupG (pa_c (pv 2) (pa_c (pv 0) (pa_c (pe_ix ix_g (pv 1) pe_int (fun _ _ => rfl)) (pa_c (pe_ix ix_g (pv 1) pe_int (fun _ _ => rfl)) (pa_c (pe_ix ix_g (pv 1) pe_int (fun _ _ => rfl)) (pa_c (pe_lstG pa_nil) pa_nil)))))))))
  pss_nil)
  (pss_one (ps_ret (pe_op op_catT (pe_tupG (pa_c (pv 2) (pa_c (pv 0) pa_nil))) (pe_cTy call_tupL rfl htuple (by decide +kernel) (pa_c (pe_slice sl_g (pv 1) (po_some pe_int) po_none) pa_nil))))))))), ?_⟩
  rcases cs with ⟨rfl, v, es, rfl, q⟩ | ⟨rfl, a, sg, b, rfl, q⟩ | ⟨rfl, a, sg, b, rfl, q⟩ | ⟨n1, n2, n3, q⟩
  · walk_at "rz"
    intro l H1 hl g1 h1
    have h1' : PLift (H1 l = some (.lst es)) := ⟨by rw [h1]; simp [cutV, HT.sIx, List.take_of_length_le]⟩
    clear h1 hp
    walk_at "rz"
    intro p2 H2 hp2 g2 h2
    exact q p2 l H2 (g1.free hp2) hl (g1.trans g2) (g2 _ _ h1'.down) h2
  · walk_at "rz"
    intro u H1 hu g1 h1
    walk_at "rz"
    intro v H2 hv g2 h2
    have n : u ≠ v := fun z => by rw [← z, h1] at hv; cases hv
    have h12 := PLift.up (g2 _ _ h1)
    have h2' := PLift.up h2
    clear h1 h2 hp
    walk_at "rz"
    refine ⟨by omega, fun p3 H3 hp3 g3 h3 => ?_⟩
    exact q p3 u v H3 (g1.free (g2.free hp3)) hu (g1.free hv) n (g1.trans (g2.trans g3)) (g3 _ _ h12.down) (g3 _ _ h2'.down) h3
  · walk_at "rz"
    intro u H1 hu g1 h1
    have h1' := PLift.up h1
    clear h1 hp
    walk_at "rz"
    intro p3 H3 hp3 g3 h3
    exact q p3 u H3 (g1.free hp3) hu (g1.trans g3) (g3 _ _ h1'.down) h3
  · walk_at "rz"
    intro p1 H1 hp1 g1 h1
    have h1' := PLift.up h1
    have hq1 := g1 _ _ hp
    clear h1 hp
    walk_at "rz"
    intro p2 H2 hp2 g2 h2
    have h2' : H2 p2 = some (.lst ys) := by rw [h2]; simp [cutV, HT.sIx, List.take_of_length_le]
    clear h2 hq1
    walk_at "rz"
    intro p3 H3 hp3 g3 h3
    have h3' := PLift.up h3
    clear h3 h2'
    walk_at "rz"
    have g13 := g2.trans g3
    refine ⟨p1, p3, _, _, rfl, rfl, SqT.of (g13 _ _ h1'.down), SqT.of h3'.down, by simp, by simp; omega, fun z => ?_, fun _ p4 hp4 => ?_⟩
    · subst z
      exact q p1 H3 hp1 (g1.trans g13) (g13 _ _ h1'.down)
    · exact q p4 _ (g1.free (g13.free hp4)) (g1.trans (g13.trans (same_new hp4 _))) upd_same
def spLs (K : PySem.W.Frag) : Sp := fun vs H Q _ => ∃ (st b f c : Addr) (x : Str) (bs fs cs ts : List V), vs = [.ref st, .ref b] ∧ H st = some (.tup (.str x :: ts)) ∧ H b = some (.lst bs) ∧ bs.length ≤ 1000 ∧ atI bs (-1) = some (.ref f) ∧ H f = some (.tup fs) ∧ atI fs 1 = some (.ref c) ∧ H c = some (.lst cs) ∧ cs.length ≤ 1000 ∧ c ≠ b ∧
  ((x = "if" ∧ ∃ k sg a d u v, ts = [k, sg, a, d, u, v] ∧ ∀ H1 p H2 H3, Mu H c (.lst (cs ++ [.ref st])) H1 → H1 p = none → Same H1 H2 → H2 p = some (.tup [.str x, u, v]) → Mu H2 b (.lst (bs ++ [.ref p])) H3 → Q .non H3) ∨
   (x = "while" ∧ ∃ k sg a d u, ts = [k, sg, a, d, u] ∧ ∀ H1 p H2 H3, Mu H c (.lst (cs ++ [.ref st])) H1 → H1 p = none → Same H1 H2 → H2 p = some (.tup [.str x, u, .non]) → Mu H2 b (.lst (bs ++ [.ref p])) H3 → Q .non H3) ∨
   (x ≠ "if" ∧ x ≠ "while" ∧ ∀ H1, Mu H c (.lst (cs ++ [.ref st])) H1 → Q .non H1))
theorem ok_lst (D : DefAt K mg "lay_statement" s_lay_statement ["statement", "bodies"]) : OkD P w K mg base 1 "lay_statement" ["statement", "bodies"] (spLs K) := by
  refine D.ok sc_lay_statement (fun vs H Q E h => ?_) (fun fu cdv A outer s H vs Q E hr h => ?_)
  · obtain ⟨_, _, _, _, _, _, _, _, _, rfl, _⟩ := h; rfl
  obtain ⟨st, b, f, c, x, bs, fs, cs, ts, rfl, hst, hb, lb, eb, hf, ef, hc, lc, ne, q⟩ := h
  have big : 2000000 ≤ sizeLine := by unfold sizeLine; decide
  have ns : st ≠ c := fun z => by rw [z, hc] at hst; cases hst
  refine ⟨_, (pss_cons (ps_expr (pe_appG (pe_ix ix_g (pe_ix ix_g (pv 1) (pe_un un_neg pe_int) (fun _ _ => rfl)) pe_int (fun _ _ => rfl)) (pv 0)))
  (pss_one (ps_if (pt_cmpR op_eq (pe_ix ix_g (pv 0) pe_int (fun _ _ => rfl)) pe_str (nomark _))
  (pss_one (ps_expr (pe_appG (pv 1) (pe_tupG (pa_c pe_str (pa_c (pe_ix ix_g (pv 0) pe_int (fun _ _ => rfl)) (pa_c (pe_ix ix_g (pv 0) pe_int (fun _ _ => rfl)) pa_nil)))))))
  (pss_one (ps_if (pt_cmpR op_eq (pe_ix ix_g (pv 0) pe_int (fun _ _ => rfl)) pe_str (nomark _))
  (pss_one (ps_expr (pe_appG (pv 1) (pe_tupG (pa_c pe_str (pa_c (pe_ix ix_g (pv 0) pe_int (fun _ _ => rfl)) (pa_c pe_non pa_nil)))))))
  pss_nil))))), ?_⟩
  walk_at "rz"
  refine ⟨by omega, fun H1 mu => ?_⟩
  have hst1 := mu.old hst ns
  have hb1 := mu.old hb (Ne.symm ne)
  clear hst hb hf hc
  rcases q with ⟨rfl, k, sg, a, d, u, v, rfl, q⟩ | ⟨rfl, k, sg, a, d, u, rfl, q⟩ | ⟨n1, n2, q⟩
  · walk_at "rz"
    refine ⟨u, rfl, ?_⟩
    walk_at "rz"
    refine ⟨v, rfl, ?_⟩
    walk_at "rz"
    intro p2 H2 hp2 g2 h2
    have hb2 := g2 _ _ hb1
    have h2' := PLift.up h2
    clear h2 hb1 hst1
    walk_at "rz"
    refine ⟨by omega, fun H3 mu3 => ?_⟩
    exact q H1 p2 H2 H3 mu hp2 g2 h2'.down mu3
  · walk_at "rz"
    refine ⟨u, rfl, ?_⟩
    walk_at "rz"
    intro p2 H2 hp2 g2 h2
    have hb2 := g2 _ _ hb1
    have h2' := PLift.up h2
    clear h2 hb1 hst1
    walk_at "rz"
    refine ⟨by omega, fun H3 mu3 => ?_⟩
    exact q H1 p2 H2 H3 mu hp2 g2 h2'.down mu3
  · have q := q H1 mu
    walk_at "rz"
end
end K09
namespace K09
open PySem L2
inductive Rw
  | tool (nm : Str) (n : Int)
  | store (nm : Str) (a b : Int)
  | row (nm : Str) (ns : List Int)
  | hand (nm : Str) (ns : List Str)
  | els
  | fin
  | iff
  | whl
  | plain
structure Rs where
  tn : List Str
  sn : List Str
  rn : List Str
  hn : List Str
  fr : List Str
inductive ShV : Rw → Str → List V → Prop
  | tool {x nm : Str} {n : Int} : x = "tool" → ShV (.tool nm n) x [.str nm, .int n]
  | store {x nm : Str} {a b : Int} : x = "store" → ShV (.store nm a b) x [.str nm, .int a, .int b]
  | row {x nm : Str} {ns : List Int} : x = "row" → ns ≠ [] → ns.length ≤ 100 → ShV (.row nm ns) x (.str nm :: ns.map V.int)
  | hand {x nm : Str} {ns : List Str} : x = "hand" → ns.length ≤ 100 → ShV (.hand nm ns) x (.str nm :: ns.map V.str)
  | els {x : Str} {ys : List V} : x = "else" → ys.length ≤ 100 → ShV .els x ys
  | fin {x : Str} {ys : List V} : x = "end" → ys.length ≤ 100 → ShV .fin x ys
  | iff {x : Str} {a sg b : V} : x = "if" → ShV .iff x [a, sg, b]
  | whl {x : Str} {a sg b : V} : x = "while" → ShV .whl x [a, sg, b]
  | start {x : Str} {v : V} {es : List V} : x = "start" → es.length ≤ 100 → ShV .plain x (v :: es)
  | plain {x : Str} {ys : List V} : x ≠ "tool" → x ≠ "store" → x ≠ "row" → x ≠ "hand" → x ≠ "else" → x ≠ "end" → x ≠ "if" → x ≠ "while" → x ≠ "start" → ys.length ≤ 100 → ShV .plain x ys
def outP (s : Rs) : Rw → Bool
  | .tool _ _ => !s.hn.isEmpty
  | .store _ _ _ => !s.hn.isEmpty
  | .row _ _ => !s.hn.isEmpty
  | .hand _ _ => !s.fr.isEmpty
  | .els => s.fr.isEmpty || !decide (s.fr.getLastD "" = "if")
  | _ => s.fr.isEmpty
def deepR (s : Rs) : Rw → Bool
  | .iff => decide (s.fr.length = 6)
  | .whl => decide (s.fr.length = 6)
  | _ => false
def fitR : Rw → Bool
  | .tool _ n => decide (1 ≤ n) && decide (n ≤ 9)
  | .store _ a b => decide (a ≤ b) && (decide (1 ≤ b) && decide (b ≤ 999))
  | .row _ ns => decide (∀ n ∈ ns, n ≤ 999)
  | _ => true
def twiceR (s : Rs) : Rw → Bool
  | .tool nm _ => decide (nm ∈ s.tn ++ s.sn)
  | .store nm _ _ => decide (nm ∈ s.tn ++ s.sn)
  | .row nm _ => decide (nm ∈ s.rn)
  | .hand nm ns => decide (nm ∈ s.hn) || !decide ns.Nodup
  | _ => false
def dueR (s : Rs) (r : Rw) : Nat := if outP s r then 1 else if deepR s r then 3 else if !fitR r then 4 else if twiceR s r then 5 else 0
def nxtR (s : Rs) : Rw → Rs
  | .tool nm _ => { s with tn := s.tn ++ [nm] }
  | .store nm _ _ => { s with sn := s.sn ++ [nm] }
  | .row nm _ => { s with rn := s.rn ++ [nm] }
  | .hand nm _ => { s with hn := s.hn ++ [nm], fr := s.fr ++ [Str.ofString "hand"] }
  | .els => { s with fr := s.fr.dropLast ++ [Str.ofString "else"] }
  | .fin => { s with fr := s.fr.dropLast }
  | .iff => { s with fr := s.fr ++ [Str.ofString "if"] }
  | .whl => { s with fr := s.fr ++ [Str.ofString "while"] }
  | .plain => s
theorem due0 {s : Rs} {r : Rw} (h : dueR s r = 0) : outP s r = false ∧ deepR s r = false ∧ fitR r = true ∧ twiceR s r = false := by
  unfold dueR at h
  split at h
  · cases h
  · split at h
    · cases h
    · split at h
      · cases h
      · split at h
        · cases h
        · rename_i a b c d
          exact ⟨by simpa using a, by simpa using b, by simpa using c, by simpa using d⟩
theorem sh_place {r : Rw} {x : Str} {ys : List V} (h : ShV r x ys) (s : Rs) : placeB x s.hn.isEmpty s.fr.isEmpty (s.fr.getLastD "") = !outP s r := by
  cases h with
  | tool e => subst e; unfold placeB; rw [if_pos (.inl rfl)]; simp [outP]
  | store e => subst e; unfold placeB; rw [if_pos (.inr (.inl rfl))]; simp [outP]
  | row e => subst e; unfold placeB; rw [if_pos (.inr (.inr rfl))]; simp [outP]
  | hand e => subst e; unfold placeB; rw [if_neg (by decide +kernel), if_pos rfl]; simp [outP]
  | els e => subst e; unfold placeB; rw [if_neg (by decide +kernel), if_neg (by decide +kernel), if_pos rfl]; simp [outP]
  | fin e => subst e; unfold placeB; rw [if_neg (by decide +kernel), if_neg (by decide +kernel), if_neg (by decide +kernel)]; rfl
  | iff e => subst e; unfold placeB; rw [if_neg (by decide +kernel), if_neg (by decide +kernel), if_neg (by decide +kernel)]; rfl
  | whl e => subst e; unfold placeB; rw [if_neg (by decide +kernel), if_neg (by decide +kernel), if_neg (by decide +kernel)]; rfl
  | start e => subst e; unfold placeB; rw [if_neg (by decide +kernel), if_neg (by decide +kernel), if_neg (by decide +kernel)]; rfl
  | plain n1 n2 n3 n4 n5 n6 n7 n8 => unfold placeB; rw [if_neg (fun z => z.elim n1 fun z => z.elim n2 n3), if_neg n4, if_neg n5]; rfl
theorem sh_deep {r : Rw} {x : Str} {ys : List V} (h : ShV r x ys) (s : Rs) : deepB x s.fr.length = deepR s r := by
  unfold deepB
  cases h with
  | iff e => subst e; simp [deepR]
  | whl e => subst e; simp [deepR]
  | plain n1 n2 n3 n4 n5 n6 n7 n8 => simp [deepR]; exact fun z => absurd z (fun z => z.elim n7 n8)
  | _ e => subst e; exact decide_eq_false (fun z => absurd z.1 (by decide +kernel))
theorem sh_meas {r : Rw} {x : Str} {ys : List V} (h : ShV r x ys) : MsS x ys (fitR r) := by
  cases h with
  | tool e => exact .tool e
  | store e => exact .store e
  | row e n => exact .row e n
  | plain n1 n2 n3 => exact .other n1 n2 n3
  | _ e => subst e; exact .other (by decide +kernel) (by decide +kernel) (by decide +kernel)
theorem sh_twice {r : Rw} {x : Str} {ys : List V} (h : ShV r x ys) (s : Rs) : TwS (s.tn ++ s.sn) s.rn s.hn x ys (twiceR s r) := by
  cases h with
  | tool e => exact .good (.inl e)
  | store e => exact .good (.inr e)
  | row e n => exact .row e
  | hand e n => exact .hand e (by omega)
  | plain n1 n2 n3 n4 => exact .other n1 n2 n3 n4
  | _ e => subst e; exact .other (by decide +kernel) (by decide +kernel) (by decide +kernel) (by decide +kernel)
theorem ShV.len {r : Rw} {x : Str} {ys : List V} (h : ShV r x ys) : ys.length ≤ 101 := by
  cases h <;> (try simp only [List.length_cons, List.length_nil, List.length_map]) <;> omega
structure Cl where
  pr : Addr
  tl : Addr
  sl : Addr
  rl : Addr
  hl : Addr
  bd : Addr
def Cl.all (c : Cl) : List Addr := [c.tl, c.sl, c.rl, c.hl, c.bd]
def Lc (H0 : Hp) (X : List Addr) (k : Nat) (H : Hp) (a : Addr) : Prop := H0 a = none ∧ a ∉ X ∧ ∃ cs, H a = some (.lst cs) ∧ cs.length ≤ k
theorem Lc.mu {H0 H H' : Hp} {X : List Addr} {k : Nat} {a b : Addr} {ys : List V} (h : Lc H0 X k H a) (m : Mu H b (.lst ys) H') (o : b ∈ X ∨ ys.length ≤ k) : Lc H0 X k H' a := by
  obtain ⟨h0, hx, cs, hc, hk⟩ := h
  by_cases e : a = b
  · subst e
    exact ⟨h0, hx, ys, m.at_, o.resolve_left hx⟩
  · exact ⟨h0, hx, cs, m.old hc e, hk⟩
theorem Lc.up {H0 H H' : Hp} {X : List Addr} {k j : Nat} {a : Addr} (h : Lc H0 X k H a) (g : Same H H') (l : k ≤ j) : Lc H0 X j H' a := by
  obtain ⟨h0, hx, cs, hc, hk⟩ := h
  exact ⟨h0, hx, cs, g _ _ hc, Nat.le_trans hk l⟩
inductive Fr (H0 : Hp) (X : List Addr) (k : Nat) (H : Hp) : List V → List Str → Prop
  | nil : Fr H0 X k H [] []
  | cons {f c : Addr} {e : V} {w : Str} {vs : List V} {l : List Str} : H f = some (.tup [.str w, .ref c, e]) → Lc H0 X k H c → (w = "if" → ∃ d, e = .ref d ∧ Lc H0 X k H d) → Fr H0 X k H vs l → Fr H0 X k H (.ref f :: vs) (w :: l)
section
variable {H0 H H' : Hp} {X : List Addr} {k j : Nat}
theorem Fr.gen {vs : List V} {l : List Str} (t : Fr H0 X k H vs l) (g : ∀ a xs, H a = some (.tup xs) → H' a = some (.tup xs)) (gl : ∀ a, Lc H0 X k H a → Lc H0 X j H' a) : Fr H0 X j H' vs l := by
  induction t with
  | nil => exact .nil
  | cons h hc he _ ih => exact .cons (g _ _ h) (gl _ hc) (fun w => let ⟨d, e, q⟩ := he w; ⟨d, e, gl _ q⟩) ih
theorem Fr.len {vs : List V} {l : List Str} (t : Fr H0 X k H vs l) : vs.length = l.length := by
  induction t with
  | nil => rfl
  | cons _ _ _ _ ih => rw [List.length_cons, List.length_cons, ih]
theorem Fr.app {vs ws : List V} {l m : List Str} (a : Fr H0 X k H vs l) (b : Fr H0 X k H ws m) : Fr H0 X k H (vs ++ ws) (l ++ m) := by
  induction a with
  | nil => exact b
  | cons h hc he _ ih => exact .cons h hc he ih
theorem Fr.last {vs : List V} {l : List Str} (t : Fr H0 X k H vs l) : l ≠ [] → ∃ us f c e, vs = us ++ [.ref f] ∧ H f = some (.tup [.str (l.getLastD ""), .ref c, e]) ∧ Lc H0 X k H c ∧ (l.getLastD "" = "if" → ∃ d, e = .ref d ∧ Lc H0 X k H d) ∧ Fr H0 X k H us l.dropLast := by
  induction t with
  | nil => exact fun z => absurd rfl z
  | @cons f c e w vs l h hc he t ih =>
    intro _
    cases l with
    | nil => cases t; exact ⟨[], f, c, e, rfl, h, hc, he, .nil⟩
    | cons w' l =>
      obtain ⟨us, f', c', e', rfl, h1, h2, h3, h4⟩ := ih (List.cons_ne_nil _ _)
      have el : (w :: w' :: l).getLastD "" = (w' :: l).getLastD "" := by simp [List.getLastD, List.getLast?]
      rw [el]
      exact ⟨.ref f :: us, f', c', e', rfl, h1, h2, h3, .cons h hc he h4⟩
end
def Gd (H : Hp) (a : Addr) (l : List Str) : Prop := ∃ vs, H a = some (.lst vs) ∧ Ns H vs l
theorem Gd.gen {H H' : Hp} {a : Addr} {l : List Str} (h : Gd H a l) (g : ∀ a xs, H a = some (.tup xs) → H' a = some (.tup xs)) (gl : ∀ xs, H a = some (.lst xs) → H' a = some (.lst xs)) : Gd H' a l := by
  obtain ⟨vs, hv, n⟩ := h
  exact ⟨vs, gl _ hv, n.mono g⟩
structure RdI (H0 : Hp) (c : Cl) (k : Nat) (s : Rs) (H : Hp) : Prop where
  same : Same H0 H
  pr : H c.pr = some (.tup [.ref c.tl, .ref c.sl, .ref c.rl, .ref c.hl])
  nd : c.all.Nodup
  new : ∀ a ∈ c.all, H0 a = none
  t : Gd H c.tl s.tn
  o : Gd H c.sl s.sn
  r : Gd H c.rl s.rn
  h : Gd H c.hl s.hn
  b : ∃ bs, H c.bd = some (.lst bs) ∧ Fr H0 c.all k H bs s.fr
  l1 : s.tn.length ≤ k
  l2 : s.sn.length ≤ k
  l3 : s.rn.length ≤ k
  l4 : s.hn.length ≤ k
  l5 : s.fr.length ≤ k
theorem mu_tup {H H' : Hp} {a : Addr} {xs : List V} {o : HO} (m : Mu H a o H') (h : H a = some (.lst xs)) : ∀ b ys, H b = some (.tup ys) → H' b = some (.tup ys) := fun b ys e => m.old e fun z => by rw [z, h] at e; cases e
theorem mu_lst {H H' : Hp} {a b : Addr} {o : HO} (m : Mu H a o H') (n : b ≠ a) : ∀ ys, H b = some (.lst ys) → H' b = some (.lst ys) := fun ys e => m.old e n
section
variable {H0 H H' : Hp} {c : Cl} {k j : Nat} {s : Rs}
theorem RdI.up (i : RdI H0 c k s H) (g : Same H H') (l : k ≤ j) : RdI H0 c j s H' := by
  obtain ⟨bs, hb, fr⟩ := i.b
  exact ⟨i.same.trans g, g _ _ i.pr, i.nd, i.new, i.t.gen (fun _ _ => g _ _) (fun _ => g _ _), i.o.gen (fun _ _ => g _ _) (fun _ => g _ _), i.r.gen (fun _ _ => g _ _) (fun _ => g _ _), i.h.gen (fun _ _ => g _ _) (fun _ => g _ _), ⟨bs, g _ _ hb, fr.gen (fun _ _ => g _ _) (fun _ q => q.up g l)⟩, Nat.le_trans i.l1 l, Nat.le_trans i.l2 l, Nat.le_trans i.l3 l, Nat.le_trans i.l4 l, Nat.le_trans i.l5 l⟩
theorem Cl.ne (n : c.all.Nodup) : (c.tl ≠ c.sl ∧ c.tl ≠ c.rl ∧ c.tl ≠ c.hl ∧ c.tl ≠ c.bd) ∧ (c.sl ≠ c.rl ∧ c.sl ≠ c.hl ∧ c.sl ≠ c.bd) ∧ (c.rl ≠ c.hl ∧ c.rl ≠ c.bd) ∧ c.hl ≠ c.bd := by
  simpa [Cl.all] using n
theorem Gd.put {a p : Addr} {l : List Str} {vs r : List V} {nm : Str} (hv : H a = some (.lst vs)) (n : Ns H vs l) (hp : H p = some (.tup (.str nm :: r))) (m : Mu H a (.lst (vs ++ [.ref p])) H') : Gd H' a (l ++ [nm]) :=
  ⟨_, m.at_, (n.mono (mu_tup m hv)).app (.cons (mu_tup m hv _ _ hp) .nil)⟩
theorem RdI.putT (i : RdI H0 c k s H) {p : Addr} {vs r : List V} {nm : Str} (hv : H c.tl = some (.lst vs)) (hp : H p = some (.tup (.str nm :: r))) (m : Mu H c.tl (.lst (vs ++ [.ref p])) H') : RdI H0 c (k + 1) { s with tn := s.tn ++ [nm] } H' := by
  obtain ⟨bs, hb, fr⟩ := i.b
  obtain ⟨ws, hw, n⟩ := i.t
  rw [hv] at hw
  cases hw
  obtain ⟨⟨n1, n2, n3, n4⟩, ⟨n5, n6, n7⟩, ⟨n8, n9⟩, n10⟩ := Cl.ne i.nd
  have mt := mu_tup m hv
  exact ⟨m.same i.same (i.new _ (by simp [Cl.all])), mt _ _ i.pr, i.nd, i.new, .put hv n hp m, i.o.gen mt (mu_lst m n1.symm), i.r.gen mt (mu_lst m n2.symm), i.h.gen mt (mu_lst m n3.symm), ⟨bs, m.old hb n4.symm, fr.gen mt (fun _ q => (q.mu m (.inl (by simp [Cl.all]))).up (Same.refl _) (Nat.le_succ _))⟩, by simp; exact i.l1, Nat.le_succ_of_le i.l2, Nat.le_succ_of_le i.l3, Nat.le_succ_of_le i.l4, Nat.le_succ_of_le i.l5⟩
theorem RdI.putS (i : RdI H0 c k s H) {p : Addr} {vs r : List V} {nm : Str} (hv : H c.sl = some (.lst vs)) (hp : H p = some (.tup (.str nm :: r))) (m : Mu H c.sl (.lst (vs ++ [.ref p])) H') : RdI H0 c (k + 1) { s with sn := s.sn ++ [nm] } H' := by
  obtain ⟨bs, hb, fr⟩ := i.b
  obtain ⟨ws, hw, n⟩ := i.o
  rw [hv] at hw
  cases hw
  obtain ⟨⟨n1, n2, n3, n4⟩, ⟨n5, n6, n7⟩, ⟨n8, n9⟩, n10⟩ := Cl.ne i.nd
  have mt := mu_tup m hv
  exact ⟨m.same i.same (i.new _ (by simp [Cl.all])), mt _ _ i.pr, i.nd, i.new, i.t.gen mt (mu_lst m n1), .put hv n hp m, i.r.gen mt (mu_lst m n5.symm), i.h.gen mt (mu_lst m n6.symm), ⟨bs, m.old hb n7.symm, fr.gen mt (fun _ q => (q.mu m (.inl (by simp [Cl.all]))).up (Same.refl _) (Nat.le_succ _))⟩, Nat.le_succ_of_le i.l1, by simp; exact i.l2, Nat.le_succ_of_le i.l3, Nat.le_succ_of_le i.l4, Nat.le_succ_of_le i.l5⟩
theorem RdI.putR (i : RdI H0 c k s H) {p : Addr} {vs r : List V} {nm : Str} (hv : H c.rl = some (.lst vs)) (hp : H p = some (.tup (.str nm :: r))) (m : Mu H c.rl (.lst (vs ++ [.ref p])) H') : RdI H0 c (k + 1) { s with rn := s.rn ++ [nm] } H' := by
  obtain ⟨bs, hb, fr⟩ := i.b
  obtain ⟨ws, hw, n⟩ := i.r
  rw [hv] at hw
  cases hw
  obtain ⟨⟨n1, n2, n3, n4⟩, ⟨n5, n6, n7⟩, ⟨n8, n9⟩, n10⟩ := Cl.ne i.nd
  have mt := mu_tup m hv
  exact ⟨m.same i.same (i.new _ (by simp [Cl.all])), mt _ _ i.pr, i.nd, i.new, i.t.gen mt (mu_lst m n2), i.o.gen mt (mu_lst m n5), .put hv n hp m, i.h.gen mt (mu_lst m n8.symm), ⟨bs, m.old hb n9.symm, fr.gen mt (fun _ q => (q.mu m (.inl (by simp [Cl.all]))).up (Same.refl _) (Nat.le_succ _))⟩, Nat.le_succ_of_le i.l1, Nat.le_succ_of_le i.l2, by simp; exact i.l3, Nat.le_succ_of_le i.l4, Nat.le_succ_of_le i.l5⟩
theorem RdI.putH (i : RdI H0 c k s H) {p : Addr} {vs r : List V} {nm : Str} (hv : H c.hl = some (.lst vs)) (hp : H p = some (.tup (.str nm :: r))) (m : Mu H c.hl (.lst (vs ++ [.ref p])) H') : RdI H0 c (k + 1) { s with hn := s.hn ++ [nm] } H' := by
  obtain ⟨bs, hb, fr⟩ := i.b
  obtain ⟨ws, hw, n⟩ := i.h
  rw [hv] at hw
  cases hw
  obtain ⟨⟨n1, n2, n3, n4⟩, ⟨n5, n6, n7⟩, ⟨n8, n9⟩, n10⟩ := Cl.ne i.nd
  have mt := mu_tup m hv
  exact ⟨m.same i.same (i.new _ (by simp [Cl.all])), mt _ _ i.pr, i.nd, i.new, i.t.gen mt (mu_lst m n3), i.o.gen mt (mu_lst m n6), i.r.gen mt (mu_lst m n8), .put hv n hp m, ⟨bs, m.old hb n10.symm, fr.gen mt (fun _ q => (q.mu m (.inl (by simp [Cl.all]))).up (Same.refl _) (Nat.le_succ _))⟩, Nat.le_succ_of_le i.l1, Nat.le_succ_of_le i.l2, Nat.le_succ_of_le i.l3, by simp; exact i.l4, Nat.le_succ_of_le i.l5⟩
theorem RdI.putB (i : RdI H0 c k s H) {bs us : List V} {l : List Str} (hv : H c.bd = some (.lst bs)) (m : Mu H c.bd (.lst us) H') (lj : k ≤ j) (ll : l.length ≤ j) (f : Fr H0 c.all j H us l) : RdI H0 c j { s with fr := l } H' := by
  obtain ⟨⟨n1, n2, n3, n4⟩, ⟨n5, n6, n7⟩, ⟨n8, n9⟩, n10⟩ := Cl.ne i.nd
  have mt := mu_tup m hv
  exact ⟨m.same i.same (i.new _ (by simp [Cl.all])), mt _ _ i.pr, i.nd, i.new, i.t.gen mt (mu_lst m n4), i.o.gen mt (mu_lst m n7), i.r.gen mt (mu_lst m n9), i.h.gen mt (mu_lst m n10), ⟨us, m.at_, f.gen mt (fun _ q => q.mu m (.inl (by simp [Cl.all])))⟩, Nat.le_trans i.l1 lj, Nat.le_trans i.l2 lj, Nat.le_trans i.l3 lj, Nat.le_trans i.l4 lj, ll⟩
theorem RdI.putC (i : RdI H0 c k s H) {a : Addr} {us : List V} (la : Lc H0 c.all k H a) (m : Mu H a (.lst us) H') (ll : us.length ≤ k + 1) : RdI H0 c (k + 1) s H' := by
  obtain ⟨h0, hx, cs, hc, hk⟩ := la
  obtain ⟨bs, hb, fr⟩ := i.b
  have ne : ∀ b ∈ c.all, b ≠ a := fun b hb z => hx (z ▸ hb)
  have mt := mu_tup m hc
  exact ⟨m.same i.same h0, mt _ _ i.pr, i.nd, i.new, i.t.gen mt (mu_lst m (ne _ (by simp [Cl.all]))), i.o.gen mt (mu_lst m (ne _ (by simp [Cl.all]))), i.r.gen mt (mu_lst m (ne _ (by simp [Cl.all]))), i.h.gen mt (mu_lst m (ne _ (by simp [Cl.all]))), ⟨bs, m.old hb (ne _ (by simp [Cl.all])), fr.gen mt (fun _ q => (q.up (Same.refl _) (Nat.le_succ _)).mu m (.inr ll))⟩, Nat.le_succ_of_le i.l1, Nat.le_succ_of_le i.l2, Nat.le_succ_of_le i.l3, Nat.le_succ_of_le i.l4, Nat.le_succ_of_le i.l5⟩
end
end K09
namespace K09
open PySem L2
section
variable {P : Program} {w : World} {K : PySem.W.Frag} {mg : Str → Option Value} {base : Heap}
def spLd : Sp := fun vs H Q _ => ∃ (k n : Nat) (pp : Addr) (x : Str) (ys : List V) (r : Rw) (H0 : Hp) (c : Cl) (s : Rs), vs = [.int (k : Nat), .ref pp, .ref c.pr, .ref c.bd] ∧ H pp = some (.lst (.str x :: ys)) ∧ ShV r x ys ∧ RdI H0 c n s H ∧ n ≤ 200 ∧ dueR s r = 0 ∧ ∀ H', RdI H0 c (n + 1) (nxtR s r) H' → Q .non H'
theorem ne_last {l : List Str} (h : l.isEmpty = false) : l ≠ [] := fun z => by rw [z] at h; cases h
theorem RdI.fresh {H0 H : Hp} {c : Cl} {n : Nat} {s : Rs} (i : RdI H0 c n s H) {z : Addr} (hz : H z = none) : ∀ a ∈ c.all, z ≠ a := fun a ha e => by
  have hn : ∃ o, H a = some o := by
    simp only [Cl.all, List.mem_cons, List.not_mem_nil, or_false] at ha
    rcases ha with rfl | rfl | rfl | rfl | rfl
    · exact ⟨_, i.t.choose_spec.1⟩
    · exact ⟨_, i.o.choose_spec.1⟩
    · exact ⟨_, i.r.choose_spec.1⟩
    · exact ⟨_, i.h.choose_spec.1⟩
    · exact ⟨_, i.b.choose_spec.1⟩
  obtain ⟨o, ho⟩ := hn
  rw [← e, hz] at ho
  cases ho
theorem ok_down (D : DefAt K mg "lay_down" s_lay_down ["k", "parts", "program", "bodies"]) (G_lay_statement : OkD P w K mg base 1 "lay_statement" ["statement", "bodies"] (spLs K)) (G_statement_of : OkD P w K mg base 1 "statement_of" ["k", "parts"] (spSo K)) : OkD P w K mg base 2 "lay_down" ["k", "parts", "program", "bodies"] spLd := by
  refine D.ok sc_lay_down (fun vs H Q E h => ?_) (fun f cdv A outer s H vs Q E hr h => ?_)
  · obtain ⟨_, _, _, _, _, _, _, _, _, rfl, _⟩ := h; rfl
  obtain ⟨k, n, pp, x, ys, r, H0, c, s, rfl, hp, sh, i, ln, du, q⟩ := h
  have big : 2000000 ≤ sizeLine := by unfold sizeLine; decide
  have hpr := i.pr
  obtain ⟨d1, d2, d3, d4⟩ := due0 du
  obtain ⟨ta, ht, nt⟩ := i.t
  obtain ⟨sa, hs, ns⟩ := i.o
  obtain ⟨ra, hra, nr⟩ := i.r
  obtain ⟨ha, hh, nh⟩ := i.h
  obtain ⟨bs, hb, fr⟩ := i.b
  have e1 := nt.length
  have e2 := ns.length
  have e3 := nr.length
  have e4 := nh.length
  have e5 := fr.len
  have l1 := i.l1
  have l2 := i.l2
  have l3 := i.l3
  have l4 := i.l4
  have l5 := i.l5
  have shl := sh.len
  refine ⟨_, (pss_cons (ps_asg (pv 2) (pg_tupG 4 rfl (pgs_cons (pg_name (i := 4) sc_lay_down.nd rfl (Or.inl rfl)) (pgs_cons (pg_name (i := 5) sc_lay_down.nd rfl (Or.inl rfl)) (pgs_cons (pg_name (i := 6) sc_lay_down.nd rfl (Or.inl rfl)) (pgs_cons (pg_name (i := 7) sc_lay_down.nd rfl (Or.inl rfl)) pgs_nil))))))
  (pss_cons (ps_set (i := 8) sc_lay_down.nd rfl (Or.inl rfl) (pe_ix ix_g (pv 1) pe_int (fun _ _ => rfl)))
  (pss_one (ps_if (pt_cmpR op_eq (pv 8) pe_str (nomark _))
  (pss_one (ps_expr (pe_appG (pv 4) (pe_tupG (pa_c (pe_ix ix_g (pv 1) pe_int (fun _ _ => rfl)) (pa_c (pe_ix ix_g (pv 1) pe_int (fun _ _ => rfl)) pa_nil))))))
  (pss_one (ps_if (pt_cmpR op_eq (pv 8) pe_str (nomark _))
  (pss_one (ps_expr (pe_appG (pv 5) (pe_tupG (pa_c (pe_ix ix_g (pv 1) pe_int (fun _ _ => rfl)) (pa_c (pe_ix ix_g (pv 1) pe_int (fun _ _ => rfl)) (pa_c (pe_ix ix_g (pv 1) pe_int (fun _ _ => rfl)) pa_nil)))))))
  (pss_one (ps_if (pt_cmpR op_eq (pv 8) pe_str (nomark _))
  (pss_one (ps_expr (pe_appG (pv 6) (pe_tupG (pa_c (pe_ix ix_g (pv 1) pe_int (fun _ _ => rfl)) (pa_c (pe_slice sl_g (pv 1) (po_some pe_int) po_none) pa_nil))))))
  (pss_one (ps_if (pt_cmpR op_eq (pv 8) pe_str (nomark _))
  (pss_cons (ps_set (i := 9) sc_lay_down.nd rfl (Or.inl rfl) (pe_lstG pa_nil))
  (pss_cons (ps_expr (pe_appG (pv 7) (pe_tupG (pa_c (pe_ix ix_g (pv 1) pe_int (fun _ _ => rfl)) (pa_c (pe_slice sl_g (pv 1) (po_some pe_int) po_none) (pa_c (pv 9) pa_nil))))))
  (pss_one (ps_expr (pe_appG (pv 3) (pe_tupG (pa_c pe_str (pa_c (pv 9) (pa_c pe_non pa_nil)))))))))
  (pss_one (ps_if (pt_cmpR op_eq (pv 8) pe_str (nomark _))
  (pss_one (ps_expr (pe_appG (pv 3) (pe_tupG (pa_c pe_str (pa_c (pe_ix ix_g (pe_bm0 PySem.F.plainAttrs_list PySem.F.slot_list_pop PySem.F.type_list_pop mt_popG (pv 3)) pe_int (fun _ _ => rfl)) (pa_c pe_non pa_nil)))))))
  (pss_one (ps_if (pt_cmpR op_eq (pv 8) pe_str (nomark _))
  (pss_one (ps_expr (pe_bm0 PySem.F.plainAttrs_list PySem.F.slot_list_pop PySem.F.type_list_pop mt_popG (pv 3))))
  (pss_one (ps_expr (pe_def G_lay_statement hr rfl (pa_c (pe_def G_statement_of hr rfl (pa_c (pv 0) (pa_c (pv 1) pa_nil))) (pa_c (pv 3) pa_nil))))))))))))))))))), ?_⟩
  cases sh with
  | tool e =>
    subst e
    walk_at "rz"
    intro p1 H1 hp1 g1 h1
    have ht1 := g1 _ _ ht
    clear ht hs hra hh hb hpr hp
    walk_at "rz"
    exact ⟨by omega, fun H3 mu => q _ ((i.up g1 (Nat.le_refl _)).putT ht1 h1 mu)⟩
  | store e =>
    subst e
    walk_at "rz"
    intro p1 H1 hp1 g1 h1
    have hs1 := g1 _ _ hs
    clear ht hs hra hh hb hpr hp
    walk_at "rz"
    exact ⟨by omega, fun H3 mu => q _ ((i.up g1 (Nat.le_refl _)).putS hs1 h1 mu)⟩
  | row e n1 n2 =>
    subst e
    walk_at "rz"
    intro p1 H1 hp1 g1 h1
    have hr1 := g1 _ _ hra
    clear ht hs hra hh hb hpr hp
    walk_at "rz"
    intro p2 H2 hp2 g2 h2
    have hr2 := g2 _ _ hr1
    clear hr1 h1
    walk_at "rz"
    exact ⟨by omega, fun H3 mu => q _ ((i.up (g1.trans g2) (Nat.le_refl _)).putR hr2 h2 mu)⟩
  | hand e n1 =>
    subst e
    walk_at "rz"
    intro p1 H1 hp1 g1 h1
    have hh1 := g1 _ _ hh
    have hb1 := g1 _ _ hb
    have hq1 := g1 _ _ hp
    have h1' := PLift.up h1
    clear ht hs hra hh hb hpr hp h1
    walk_at "rz"
    intro p2 H2 hp2 g2 h2
    have hh2 := g2 _ _ hh1
    have hb2 := g2 _ _ hb1
    clear hh1 hb1 hq1 h2
    walk_at "rz"
    intro p3 H3 hp3 g3 h3
    have hh3 := g3 _ _ hh2
    have hb3 := g3 _ _ hb2
    clear hh2 hb2
    walk_at "rz"
    have g13 := g1.trans (g2.trans g3)
    refine ⟨by omega, fun H4 mu4 => ?_⟩
    have i4 := (i.up g13 (Nat.le_refl _)).putH hh3 h3 mu4
    obtain ⟨⟨_, _, _, _⟩, ⟨_, _, _⟩, ⟨_, _⟩, n10⟩ := Cl.ne i.nd
    have hb4 := mu4.old hb3 n10.symm
    clear hh3 hb3 h3
    walk_at "rz"
    intro p5 H5 hp5 g5 h5
    have hb5 := g5 _ _ hb4
    clear hb4
    walk_at "rz"
    refine ⟨by omega, fun H6 mu6 => q _ ?_⟩
    have i5 := i4.up g5 (Nat.le_refl _)
    obtain ⟨bs5, hb5', fr5⟩ := i5.b
    rw [hb5] at hb5'
    cases hb5'
    have nx := i.fresh hp1
    have l13 := g3 _ _ (g2 _ _ h1'.down)
    have lc : Lc H0 c.all (n + 1) H5 p1 := ⟨i.same.free hp1, fun z => nx _ z rfl, [], g5 _ _ (mu4.old l13 (nx _ (by simp [Cl.all]))), Nat.zero_le _⟩
    exact i5.putB hb5 mu6 (Nat.le_refl _) (by simp; exact i.l5) (fr5.app (.cons h5 lc (fun z => absurd z (by decide +kernel)) .nil))
  | els e n1 =>
    subst e
    walk_at "rz"
    have d1' : s.fr.isEmpty = false ∧ s.fr.getLastD "" = "if" := by simpa [outP] using d1
    obtain ⟨us, f, cc, e, rfl, hf, lc, hif, fr'⟩ := fr.last (ne_last d1'.1)
    obtain ⟨d, rfl, ld⟩ := hif d1'.2
    refine ⟨⟨_, SqL.of hb⟩, c.bd, us, .ref f, rfl, rfl, hb, fun H1 mu1 => ?_⟩
    have hf1 := mu_tup mu1 hb _ _ hf
    have hb1 := mu1.at_
    have i1 := i.putB hb mu1 (Nat.le_refl _) (by rw [List.length_dropLast]; omega) fr'
    have ld1 := ld.mu mu1 (.inl (by simp [Cl.all]))
    have lus : us.length ≤ n := by rw [List.length_append] at e5; simp at e5; omega
    clear ht hs hra hh hb hpr hp hf
    walk_at "rz"
    intro p2 H2 hp2 g2 h2
    have hb2 := g2 _ _ hb1
    clear hb1 hf1
    walk_at "rz"
    refine ⟨by omega, fun H3 mu3 => q _ ?_⟩
    have i2 := i1.up g2 (Nat.le_succ n)
    obtain ⟨bs5, hb5', fr5⟩ := i2.b
    rw [hb2] at hb5'
    cases hb5'
    exact i2.putB hb2 mu3 (Nat.le_refl _) (by simp; omega) (fr5.app (.cons h2 (ld1.up g2 (Nat.le_succ _)) (fun z => absurd z (by decide +kernel)) .nil))
  | fin e n1 =>
    subst e
    walk_at "rz"
    have d1' : s.fr.isEmpty = false := d1
    obtain ⟨us, f, cc, e, rfl, hf, lc, hif, fr'⟩ := fr.last (ne_last d1')
    refine ⟨⟨_, SqL.of hb⟩, c.bd, us, .ref f, rfl, rfl, hb, fun H1 mu1 => ?_⟩
    have i1 := i.putB hb mu1 (Nat.le_succ n) (by rw [List.length_dropLast]; omega) (fr'.gen (fun _ _ z => z) fun _ z => z.up (Same.refl _) (Nat.le_succ _))
    have q := q _ i1
    clear ht hs hra hh hb hpr hp hf
    walk_at "rz"
  | iff e =>
    subst e
    walk_at "rz"
    have d1' : s.fr.isEmpty = false := d1
    obtain ⟨us, f, cc, e, rfl, hf, lc, hif, fr'⟩ := fr.last (ne_last d1')
    refine ⟨k, _, pp, _, rfl, hp, by simp, .inr (.inl ⟨rfl, _, _, _, rfl, fun p u v H1 hp1 hu hv nuv g1 h1u h1v h1p => ?_⟩)⟩
    obtain ⟨l0, lx, cs, hcc, lcs⟩ := lc
    refine ⟨p, c.bd, f, cc, _, _, _, cs, _, rfl, h1p, g1 _ _ hb, by omega, atI_last _ _, g1 _ _ hf, rfl, g1 _ _ hcc, by omega, fun z => lx (z ▸ by simp [Cl.all]), .inl ⟨rfl, _, _, _, _, _, _, rfl, fun H2 p2 H3 H4 mu2 hp2 g3 h3 mu4 => q _ ?_⟩⟩
    have i1 := i.up g1 (Nat.le_refl _)
    have lc1 : Lc H0 c.all n H1 cc := ⟨l0, lx, cs, g1 _ _ hcc, lcs⟩
    have i2 := (i1.putC lc1 mu2 (by simp; omega)).up g3 (Nat.le_refl _)
    have nx : ∀ {z : Addr}, H z = none → ∀ a ∈ c.all, z ≠ a := fun hz => i.fresh hz
    have ncc : ∀ {z : Addr}, H z = none → z ≠ cc := fun {z} hz e => by rw [e, hcc] at hz; cases hz
    have lu : Lc H0 c.all (n + 1) H3 u := ⟨i.same.free hu, fun z => nx hu _ z rfl, [], g3 _ _ (mu2.old h1u (ncc hu)), Nat.zero_le _⟩
    have lv : Lc H0 c.all (n + 1) H3 v := ⟨i.same.free hv, fun z => nx hv _ z rfl, [], g3 _ _ (mu2.old h1v (ncc hv)), Nat.zero_le _⟩
    obtain ⟨bs5, hb5, fr5⟩ := i2.b
    have hb5' := g3 _ _ (mu2.old (g1 _ _ hb) (fun z => lx (z ▸ by simp [Cl.all])))
    rw [hb5] at hb5'
    cases hb5'
    exact i2.putB hb5 mu4 (Nat.le_refl _) (by simp; omega) (fr5.app (.cons h3 lu (fun _ => ⟨v, rfl, lv⟩) .nil))
  | whl e =>
    subst e
    walk_at "rz"
    have d1' : s.fr.isEmpty = false := d1
    obtain ⟨us, f, cc, e, rfl, hf, lc, hif, fr'⟩ := fr.last (ne_last d1')
    refine ⟨k, _, pp, _, rfl, hp, by simp, .inr (.inr (.inl ⟨rfl, _, _, _, rfl, fun p u H1 hp1 hu g1 h1u h1p => ?_⟩))⟩
    obtain ⟨l0, lx, cs, hcc, lcs⟩ := lc
    refine ⟨p, c.bd, f, cc, _, _, _, cs, _, rfl, h1p, g1 _ _ hb, by omega, atI_last _ _, g1 _ _ hf, rfl, g1 _ _ hcc, by omega, fun z => lx (z ▸ by simp [Cl.all]), .inr (.inl ⟨rfl, _, _, _, _, _, rfl, fun H2 p2 H3 H4 mu2 hp2 g3 h3 mu4 => q _ ?_⟩)⟩
    have i1 := i.up g1 (Nat.le_refl _)
    have lc1 : Lc H0 c.all n H1 cc := ⟨l0, lx, cs, g1 _ _ hcc, lcs⟩
    have i2 := (i1.putC lc1 mu2 (by simp; omega)).up g3 (Nat.le_refl _)
    have nx : ∀ {z : Addr}, H z = none → ∀ a ∈ c.all, z ≠ a := fun hz => i.fresh hz
    have ncc : ∀ {z : Addr}, H z = none → z ≠ cc := fun {z} hz e => by rw [e, hcc] at hz; cases hz
    have lu : Lc H0 c.all (n + 1) H3 u := ⟨i.same.free hu, fun z => nx hu _ z rfl, [], g3 _ _ (mu2.old h1u (ncc hu)), Nat.zero_le _⟩
    obtain ⟨bs5, hb5, fr5⟩ := i2.b
    have hb5' := g3 _ _ (mu2.old (g1 _ _ hb) (fun z => lx (z ▸ by simp [Cl.all])))
    rw [hb5] at hb5'
    cases hb5'
    exact i2.putB hb5 mu4 (Nat.le_refl _) (by simp; omega) (fr5.app (.cons h3 lu (fun z => absurd z (by decide +kernel)) .nil))
  | start e n1 =>
    subst e
    walk_at "rz"
    have d1' : s.fr.isEmpty = false := d1
    obtain ⟨us, f, cc, e, rfl, hf, lc, hif, fr'⟩ := fr.last (ne_last d1')
    refine ⟨k, _, pp, _, rfl, hp, by omega, .inl ⟨rfl, _, _, rfl, fun p l H1 hp1 hl g1 h1l h1p => ?_⟩⟩
    obtain ⟨l0, lx, cs, hcc, lcs⟩ := lc
    refine ⟨p, c.bd, f, cc, _, _, _, cs, _, rfl, h1p, g1 _ _ hb, by omega, atI_last _ _, g1 _ _ hf, rfl, g1 _ _ hcc, by omega, fun z => lx (z ▸ by simp [Cl.all]), .inr (.inr ⟨by decide +kernel, by decide +kernel, fun H2 mu2 => q _ ?_⟩)⟩
    exact (i.up g1 (Nat.le_refl _)).putC ⟨l0, lx, cs, g1 _ _ hcc, lcs⟩ mu2 (by simp; omega)
  | plain n1 n2 n3 n4 n5 n6 n7 n8 n9 n10 =>
    walk_at "rz"
    have d1' : s.fr.isEmpty = false := d1
    obtain ⟨us, f, cc, e, rfl, hf, lc, hif, fr'⟩ := fr.last (ne_last d1')
    refine ⟨k, _, pp, _, rfl, hp, by omega, .inr (.inr (.inr ⟨n9, n7, n8, fun p H1 hp1 g1 h1p => ?_⟩))⟩
    obtain ⟨l0, lx, cs, hcc, lcs⟩ := lc
    refine ⟨p, c.bd, f, cc, _, _, _, cs, _, rfl, h1p, g1 _ _ hb, by omega, atI_last _ _, g1 _ _ hf, rfl, g1 _ _ hcc, by omega, fun z => lx (z ▸ by simp [Cl.all]), .inr (.inr ⟨n7, n8, fun H2 mu2 => q _ ?_⟩)⟩
    exact (i.up g1 (Nat.le_refl _)).putC ⟨l0, lx, cs, g1 _ _ hcc, lcs⟩ mu2 (by simp; omega)
end
end K09
namespace K09
open PySem L2
def ShD (x : Str) (ds : List PyData) : Rw → Prop
  | .tool nm n => x = "tool" ∧ ds = [.str nm, .int n]
  | .store nm a b => x = "store" ∧ ds = [.str nm, .int a, .int b]
  | .row nm ns => x = "row" ∧ ns ≠ [] ∧ ns.length ≤ 100 ∧ ds = .str nm :: ns.map .int
  | .hand nm ns => x = "hand" ∧ ns.length ≤ 100 ∧ ds = .str nm :: ns.map .str
  | .els => x = "else" ∧ ds.length ≤ 100
  | .fin => x = "end" ∧ ds.length ≤ 100
  | .iff => x = "if" ∧ ds.length = 3
  | .whl => x = "while" ∧ ds.length = 3
  | .plain => (x = "start" ∧ 1 ≤ ds.length ∧ ds.length ≤ 101) ∨ (x ∉ (["tool", "store", "row", "hand", "else", "end", "if", "while", "start"] : List Str) ∧ ds.length ≤ 100)
def RowIs (t : Str) : Option Rw → Prop
  | none => partsV t = none
  | some r => ∃ x ds, partsV t = some (x, ds) ∧ ShD x ds r
section
variable {K : PySem.W.Frag} {H : Hp}
theorem rp_ints {ns : List Int} : ∀ {vs : List V}, RpL K H vs (ns.map .int) → vs = ns.map V.int := by
  induction ns with
  | nil => intro vs t; cases t; rfl
  | cons n ns ih => intro vs t; cases t with | cons a r => cases a; rw [ih r]; rfl
theorem rp_strs {ns : List Str} : ∀ {vs : List V}, RpL K H vs (ns.map .str) → vs = ns.map V.str := by
  induction ns with
  | nil => intro vs t; cases t; rfl
  | cons n ns ih => intro vs t; cases t with | cons a r => cases a; rw [ih r]; rfl
theorem three {ys : List V} (h : ys.length = 3) : ∃ a b c, ys = [a, b, c] := by
  match ys, h with
  | [a, b, c], _ => exact ⟨a, b, c, rfl⟩
theorem ShD.v {x : Str} {ds : List PyData} {r : Rw} (h : ShD x ds r) {ys : List V} (t : RpL K H ys ds) : ShV r x ys := by
  have el := RpL.len t
  cases r with
  | tool nm n => obtain ⟨e, rfl⟩ := h; cases t with | cons a t => cases t with | cons b t => cases t; cases a; cases b; exact .tool e
  | store nm n m => obtain ⟨e, rfl⟩ := h; cases t with | cons a t => cases t with | cons b t => cases t with | cons d t => cases t; cases a; cases b; cases d; exact .store e
  | row nm ns => obtain ⟨e, n1, n2, rfl⟩ := h; cases t with | cons a t => cases a; rw [rp_ints t]; exact .row e n1 n2
  | hand nm ns => obtain ⟨e, n2, rfl⟩ := h; cases t with | cons a t => cases a; rw [rp_strs t]; exact .hand e n2
  | els => exact .els h.1 (by rw [el]; exact h.2)
  | fin => exact .fin h.1 (by rw [el]; exact h.2)
  | iff => obtain ⟨a, b, c, rfl⟩ := three (ys := ys) (by rw [el]; exact h.2); exact .iff h.1
  | whl => obtain ⟨a, b, c, rfl⟩ := three (ys := ys) (by rw [el]; exact h.2); exact .whl h.1
  | plain =>
    rcases h with ⟨e, a, b⟩ | ⟨n, a⟩
    · cases ys with
      | nil => rw [← el] at a; simp at a
      | cons y ys => rw [← el, List.length_cons] at b; exact .start e (by omega)
    · simp only [List.mem_cons, not_or, List.not_mem_nil, not_false_eq_true, and_true] at n
      obtain ⟨n1, n2, n3, n4, n5, n6, n7, n8, n9⟩ := n
      exact .plain n1 n2 n3 n4 n5 n6 n7 n8 n9 (by rw [el]; exact a)
end
inductive Rows : List Str → List (Option Rw) → Prop
  | nil : Rows [] []
  | cons {x : Str} {o : Option Rw} {l : List Str} {m : List (Option Rw)} : RowIs x o → Rows l m → Rows (x :: l) (o :: m)
theorem Rows.get {l : List Str} {m : List (Option Rw)} (t : Rows l m) : ∀ {i : Nat} {x : Str}, l[i]? = some x → ∃ o, RowIs x o ∧ m.drop i = o :: m.drop (i + 1) := by
  induction t with
  | nil => intro i x e; simp at e
  | cons h _ ih =>
    intro i x e
    cases i with
    | zero => simp at e; subst e; exact ⟨_, h, rfl⟩
    | succ i => simpa using ih (i := i) (x := x) (by simpa using e)
theorem Rows.len {l : List Str} {m : List (Option Rw)} (t : Rows l m) : m.length = l.length := by
  induction t with
  | nil => rfl
  | cons _ _ ih => rw [List.length_cons, List.length_cons, ih]
def runF (s : Rs) : List (Option Rw) → Option Nat
  | [] => if s.fr.isEmpty then none else some 6
  | none :: _ => some 0
  | some r :: l => if dueR s r = 0 then runF (nxtR s r) l else some (dueR s r)
def s0 : Rs := ⟨[], [], [], [], []⟩
theorem due1 {s : Rs} {r : Rw} (h : outP s r = true) : dueR s r = 1 := by unfold dueR; rw [if_pos h]
theorem due3 {s : Rs} {r : Rw} (h : outP s r = false) (h2 : deepR s r = true) : dueR s r = 3 := by unfold dueR; rw [if_neg (by rw [h]; exact Bool.false_ne_true), if_pos h2]
theorem due4 {s : Rs} {r : Rw} (h : outP s r = false) (h2 : deepR s r = false) (h3 : fitR r = false) : dueR s r = 4 := by unfold dueR; rw [if_neg (by rw [h]; exact Bool.false_ne_true), if_neg (by rw [h2]; exact Bool.false_ne_true), if_pos (by rw [h3]; rfl)]
theorem due5 {s : Rs} {r : Rw} (h : outP s r = false) (h2 : deepR s r = false) (h3 : fitR r = true) (h4 : twiceR s r = true) : dueR s r = 5 := by unfold dueR; rw [if_neg (by rw [h]; exact Bool.false_ne_true), if_neg (by rw [h2]; exact Bool.false_ne_true), if_neg (by rw [h3]; exact Bool.false_ne_true), if_pos h4]
theorem due00 {s : Rs} {r : Rw} (h : outP s r = false) (h2 : deepR s r = false) (h3 : fitR r = true) (h4 : twiceR s r = false) : dueR s r = 0 := by unfold dueR; rw [if_neg (by rw [h]; exact Bool.false_ne_true), if_neg (by rw [h2]; exact Bool.false_ne_true), if_neg (by rw [h3]; exact Bool.false_ne_true), if_neg (by rw [h4]; exact Bool.false_ne_true)]
theorem run_bad {s : Rs} {r : Rw} {l : List (Option Rw)} {n : Nat} (h : dueR s r = n) (hn : n ≠ 0) : runF s (some r :: l) = some n := by
  show (if dueR s r = 0 then _ else _) = _
  rw [if_neg (by rw [h]; exact hn), h]
theorem run_ok {s : Rs} {r : Rw} {l : List (Option Rw)} (h : dueR s r = 0) : runF s (some r :: l) = runF (nxtR s r) l := if_pos h
theorem parts_first {t x : Str} {ds : List PyData} (h : partsV t = some (x, ds)) : x.length ≤ t.length := by
  unfold partsV at h
  split at h
  · cases h
  · rename_i y r e
    split at h
    · cases h
    · obtain ⟨d, _, e2⟩ := Option.map_eq_some_iff.mp h
      cases e2
      exact (split_mem (by rw [e]; exact List.mem_cons_self)).1
theorem Ns.emp {H : Hp} {vs : List V} {l : List Str} (t : Ns H vs l) : vs.isEmpty = l.isEmpty := by cases t <;> rfl
theorem Fr.emp {H0 H : Hp} {X : List Addr} {k : Nat} {vs : List V} {l : List Str} (t : Fr H0 X k H vs l) : vs.isEmpty = l.isEmpty := by cases t <;> rfl
section
variable {P : Program} {w : World} {K : PySem.W.Frag} {mg : Str → Option Value} {base : Heap}
def spRead (C : Nat → Addr) : Sp := fun vs H Q E => ∃ (t : Str) (rows : List Str) (os : List (Option Rw)), vs = [.str t] ∧ t.length ≤ 1000000 ∧ PySem.Txt.split t ⟨#[10]⟩ = rows ∧ Rows rows os ∧ (∀ x ∈ rows, x.length ≤ 9000) ∧ (120 < rows.length → ∀ H', Same H H' → E (.ref (C 2)) none H') ∧ (rows.length ≤ 120 → ∀ c, runF s0 os = some c → ∀ H', Same H H' → E (.ref (C c)) none H') ∧ (rows.length ≤ 120 → runF s0 os = none → ∀ v H', Same H H' → Q v H')
def RdP (t : Str) (ws : Addr) (c : Cl) (os : List (Option Rw)) (H1 : Hp) (i : Nat) (σ : St) (H' : Hp) : Prop := ∃ s v4 v5 v6, σ = [some (.str t), some (.ref ws), some (.ref c.pr), some (.ref c.bd), v4, v5, v6] ∧ RdI H1 c i s H' ∧ runF s (os.drop i) = runF s0 os
theorem ok_read {C : Nat → Addr} {t1 : Tok} (D : DefAt K mg "read" s_read ["text"]) (hlen : mg "len" = none) (henumerate : mg "enumerate" = none) (hMR : mg "MOST_ROWS" = some (.int 120 t1)) (O_TooLong : ExcAt K mg "TooLong" (C 2)) (O_Open : ExcAt K mg "Open" (C 6))
    (G_parts_of : OkR P w K mg base 24 "parts_of" ["row"] (spPo K (C 0))) (G_check_place : OkR P w K mg base 1 "check_place" ["k", "word", "program", "bodies"] (spPc (C 1))) (G_check_depth : OkR P w K mg base 1 "check_depth" ["k", "word", "bodies"] (spDp (C 3))) (G_check_measure : OkR P w K mg base 1 "check_measure" ["k", "parts"] (spMs (C 4))) (G_check_twice : OkR P w K mg base 1 "check_twice" ["k", "parts", "program"] (spTw (C 5))) (G_lay_down : OkD P w K mg base 2 "lay_down" ["k", "parts", "program", "bodies"] spLd) : OkR P w K mg base 25 "read" ["text"] (spRead C) := by
  refine D.okR sc_read (fun vs H Q E h => ?_) (fun f cdv A outer s H vs Q E hr h => ?_)
  · obtain ⟨_, _, _, rfl, _⟩ := h; rfl
  obtain ⟨t, rows, os, rfl, tl, es, rw', ll, e2, e6, q⟩ := h
  have big : 3000000 ≤ sizeLine := by unfold sizeLine; decide
  have sl := split_len t 10
  refine ⟨_, (pss_cons (ps_set (i := 1) sc_read.nd rfl (Or.inl rfl) (pe_bm PySem.F.plainAttrs_str PySem.F.slot_str_split PySem.F.type_str_split mt_split (pv 0) (pa_c pe_str pa_nil)))
  (pss_cons (ps_if (pt_cmpR op_gt (pe_cB call_lenG rfl hlen PySem.boot_len (pa_c (pv 1) pa_nil)) (pe_glob (v := .int 120) rfl hMR ⟨_, rfl⟩) (nomark _))
  (pss_one (ps_raise raises_def rfl O_TooLong rfl (pa_c pe_str pa_nil)))
  pss_nil)
  (pss_cons (ps_set (i := 2) sc_read.nd rfl (Or.inl rfl) (pe_tupG (pa_c (pe_lstG pa_nil) (pa_c (pe_lstG pa_nil) (pa_c (pe_lstG pa_nil) (pa_c (pe_lstG pa_nil) pa_nil))))))
  (pss_cons (ps_set (i := 3) sc_read.nd rfl (Or.inl rfl) (pe_lstG pa_nil))
  (pss_cons (ps_for owns_def rfl (pi_enum1 rfl henumerate (pa_c (pv 1) pa_nil) pe_int) (pg_tupG 2 rfl (pgs_cons (pg_name (i := 4) sc_read.nd rfl (Or.inl rfl)) (pgs_cons (pg_name (i := 5) sc_read.nd rfl (Or.inl rfl)) pgs_nil)))
  (pss_cons (ps_set (i := 6) sc_read.nd rfl (Or.inl rfl) (pe_defR G_parts_of passR hr rfl (pa_c (pv 5) pa_nil)))
  (pss_cons (ps_expr (pe_defR G_check_place passR hr rfl (pa_c (pv 4) (pa_c (pe_ix ix_g (pv 6) pe_int (fun _ _ => rfl)) (pa_c (pv 2) (pa_c (pv 3) pa_nil))))))
  (pss_cons (ps_expr (pe_defR G_check_depth passR hr rfl (pa_c (pv 4) (pa_c (pe_ix ix_g (pv 6) pe_int (fun _ _ => rfl)) (pa_c (pv 3) pa_nil)))))
  (pss_cons (ps_expr (pe_defR G_check_measure passR hr rfl (pa_c (pv 4) (pa_c (pv 6) pa_nil))))
  (pss_cons (ps_expr (pe_defR G_check_twice passR hr rfl (pa_c (pv 4) (pa_c (pv 6) (pa_c (pv 2) pa_nil)))))
  (pss_one (ps_expr (pe_defR G_lay_down.toR passR hr rfl (pa_c (pv 4) (pa_c (pv 6) (pa_c (pv 2) (pa_c (pv 3) pa_nil)))))))))))))
  (pss_cons (ps_if (pt_truth (pv 3) (fun _ => rfl))
  (pss_one (ps_raise raises_def rfl O_Open rfl (pa_c pe_str pa_nil)))
  pss_nil)
  (pss_one (ps_ret (pv 2))))))))), ?_⟩
  walk_at "rz"
  rw [show Str.ofString "\n" = ⟨#[10]⟩ by decide +kernel]
  refine ⟨_, _, rfl, rfl, by decide, by omega, by omega, fun ws H1 hws g1 h1 => ?_⟩
  rw [es] at h1 sl
  clear es
  have h1w := PLift.up h1
  walk_at "rz"
  have lm : (rows.map V.str).length = rows.length := List.length_map ..
  refine ite2 (fun c1 => ?_) fun c1 => ?_
  · rw [lm] at c1
    have e2 := e2 (by omega) _ g1
    clear q e6
    walk_at "rz"
  rw [lm] at c1
  have lr : rows.length ≤ 120 := by omega
  have e6 := e6 lr
  have q := q lr
  clear e2
  walk_at "rz"
  intro a1 A1 ha1 f1 k1
  have k1' := PLift.up k1
  clear h1 k1
  walk_at "rz"
  intro a2 A2 ha2 f2 k2
  have k2' := PLift.up k2
  clear k2
  walk_at "rz"
  intro a3 A3 ha3 f3 k3
  have k3' := PLift.up k3
  clear k3
  walk_at "rz"
  intro a4 A4 ha4 f4 k4
  have k4' := PLift.up k4
  clear k4
  walk_at "rz"
  intro pr A5 ha5 f5 k5
  have k5' := PLift.up k5
  clear k5
  walk_at "rz"
  intro bd A6 ha6 f6 k6
  have k6' := PLift.up k6
  clear k6
  walk_at "rz"
  refine tfor_in ?_
  simp only [iEnum1]
  walk_at "rz"
  have f16 := f1.trans (f2.trans (f3.trans (f4.trans (f5.trans f6))))
  have i0 : RdI H1 ⟨pr, a1, a2, a3, a4, bd⟩ 0 s0 A6 := by
    have m : ∀ {x y : Addr} {A B : Hp} {o : HO}, A x = some o → Same A B → B y = none → x ≠ y := fun h g hn z => by rw [← z, g _ _ h] at hn; cases hn
    have f15 := f2.trans (f3.trans (f4.trans (f5.trans f6)))
    have f35 := f3.trans (f4.trans (f5.trans f6))
    have f45 := f4.trans (f5.trans f6)
    have f55 := f5.trans f6
    have n1 : H1 a1 = none := ha1
    have n2 : H1 a2 = none := f1.free ha2
    have n3 : H1 a3 = none := f1.free (f2.free ha3)
    have n4 : H1 a4 = none := f1.free (f2.free (f3.free ha4))
    have n6 : H1 bd = none := f1.free (f2.free (f3.free (f4.free (f5.free ha6))))
    refine ⟨f16, f6 _ _ k5'.down, ?_, ?_, ⟨[], f15 _ _ k1'.down, .nil⟩, ⟨[], f35 _ _ k2'.down, .nil⟩, ⟨[], f45 _ _ k3'.down, .nil⟩, ⟨[], f55 _ _ k4'.down, .nil⟩, ⟨[], k6'.down, .nil⟩, Nat.le_refl _, Nat.le_refl _, Nat.le_refl _, Nat.le_refl _, Nat.le_refl _⟩
    · have q12 := m k1'.down (Same.refl _) ha2
      have q13 := m k1'.down f2 ha3
      have q14 := m k1'.down (f2.trans f3) ha4
      have q16 := m k1'.down (f2.trans (f3.trans (f4.trans f5))) ha6
      have q23 := m k2'.down (Same.refl _) ha3
      have q24 := m k2'.down f3 ha4
      have q26 := m k2'.down (f3.trans (f4.trans f5)) ha6
      have q34 := m k3'.down (Same.refl _) ha4
      have q36 := m k3'.down (f4.trans f5) ha6
      have q46 := m k4'.down f5 ha6
      simp [Cl.all, q12, q13, q14, q16, q23, q24, q26, q34, q36, q46]
    · intro a ha
      simp only [Cl.all, List.mem_cons, List.not_mem_nil, or_false] at ha
      rcases ha with rfl | rfl | rfl | rfl | rfl
      · exact n1
      · exact n2
      · exact n3
      · exact n4
      · exact n6
  clear f16 k1' k2' k3' k4' k5' k6' f1 f2 f3 f4 f5 f6 ha1 ha2 ha3 ha4 ha5 ha6
  obtain ⟨c, ec⟩ : ∃ c : Cl, c = ⟨pr, a1, a2, a3, a4, bd⟩ := ⟨_, rfl⟩
  have ep : pr = c.pr := by rw [ec]
  have eb : bd = c.bd := by rw [ec]
  rw [← ec] at i0
  clear ec
  subst ep eb
  refine ⟨⟨_, SqL.of (i0.same _ _ h1w.down)⟩, for_enum1 (rows.map V.str) (RdP t ws c os H1) ⟨s0, none, none, none, rfl, i0, rfl⟩ (fun i σ H2 _ z => ?_) (fun i x σ H2 p H3 hx z hp g3 h3 => ?_) fun σ H2 z => ?_⟩
  · obtain ⟨_, _, _, _, _, i2, _⟩ := z
    exact SqL.of (i2.same _ _ h1w.down)
  · obtain ⟨s, v4, v5, v6, rfl, i2, er⟩ := z
    rw [List.getElem?_map] at hx
    obtain ⟨row, hrow, rfl⟩ := Option.map_eq_some_iff.mp hx
    obtain ⟨o, ro, ed⟩ := rw'.get hrow
    have hi : i < rows.length := (List.getElem?_eq_some_iff.mp hrow).1
    have lrow := ll row (List.mem_of_getElem? hrow)
    walk_at "rz"
    have i3 := i2.up g3 (Nat.le_refl _)
    refine ⟨row, rfl, lrow, fun x ds ep p4 H4 ys hp4 g4 h4 rp => ?_, fun en H4 g4 => ?_⟩
    rotate_left
    · cases o with
      | some r => obtain ⟨_, _, z, _⟩ := ro; rw [en] at z; cases z
      | none =>
        rw [ed] at er
        exact e6 0 er.symm _ (g1.trans (i3.same.trans g4))
    cases o with
    | none => rw [show partsV row = none from ro] at ep; cases ep
    | some r =>
    obtain ⟨_, _, z, sd⟩ := ro
    rw [ep] at z
    cases z
    have sv := sd.v rp
    rw [ed] at er
    have lx : x.length ≤ 9000 := Nat.le_trans (parts_first ep) lrow
    have i4 := i3.up g4 (Nat.le_refl _)
    clear rp ep hp4 h3
    walk_at "rz"
    obtain ⟨ha, hh, nh⟩ := i4.h
    obtain ⟨bs, hb, fr⟩ := i4.b
    have e1 := nh.length
    have e5 := fr.len
    have l4 := i4.l4
    have l5 := i4.l5
    have pB := sh_place sv s
    rw [← nh.emp, ← fr.emp] at pB
    refine ⟨i + 1, x, c.pr, c.bd, c.tl, c.sl, c.rl, c.hl, ha, bs, s.fr.getLastD "", rfl, by omega, by omega, i4.pr, hh, by omega, hb, by omega, fun ne => ?_, fun pt H5 g5 => ?_, fun pf H5 g5 => ?_⟩
    · have : s.fr ≠ [] := fun z => ne (by rw [z] at e5; exact List.eq_nil_of_length_eq_zero e5)
      obtain ⟨us, f, cc, e, rfl, hf, _⟩ := fr.last this
      exact ⟨f, _, atI_last _ _, hf⟩
    rotate_left
    · exact e6 1 (er.symm.trans (run_bad (due1 (by rw [pf] at pB; simpa using pB)) (by decide))) _ (g1.trans (i4.same.trans g5))
    have o1 : outP s r = false := by rw [pt] at pB; simpa using pB
    have i5 := i4.up g5 (Nat.le_refl _)
    have h5 := g5 _ _ h4
    clear pB pt h4 hh nh fr hb
    walk_at "rz"
    obtain ⟨bs5, hb5, fr5⟩ := i5.b
    have e55 := fr5.len
    have dB := sh_deep sv s
    rw [← e55] at dB
    refine ⟨i + 1, x, c.bd, bs5, rfl, by omega, hb5, by omega, fun pt H6 g6 => ?_, fun pf H6 g6 => ?_⟩
    rotate_left
    · exact e6 3 (er.symm.trans (run_bad (due3 o1 (by rw [← dB]; exact pf)) (by decide))) _ (g1.trans (i5.same.trans g6))
    have o2 : deepR s r = false := by rw [← dB]; exact pt
    have i6 := i5.up g6 (Nat.le_refl _)
    have h6 := g6 _ _ h5
    clear dB pt h5 fr5 hb5
    walk_at "rz"
    refine ⟨i + 1, x, p4, ys, _, rfl, by omega, h6, sh_meas sv, fun pt H7 g7 => ?_, fun pf H7 g7 => ?_⟩
    rotate_left
    · exact e6 4 (er.symm.trans (run_bad (due4 o1 o2 pf) (by decide))) _ (g1.trans (i6.same.trans g7))
    have i7 := i6.up g7 (Nat.le_refl _)
    have h7 := g7 _ _ h6
    clear h6
    walk_at "rz"
    obtain ⟨ta7, ht7, nt7⟩ := i7.t
    obtain ⟨sa7, hs7, ns7⟩ := i7.o
    obtain ⟨ra7, hr7, nr7⟩ := i7.r
    obtain ⟨ha7, hh7, nh7⟩ := i7.h
    have l1 := i7.l1
    have l2 := i7.l2
    have l3 := i7.l3
    refine ⟨i + 1, x, p4, c.pr, c.tl, c.sl, c.rl, c.hl, ys, ta7, sa7, ra7, ha7, _, _, _, _, _, rfl, by omega, h7, i7.pr, ⟨ht7, nt7, by omega⟩, ⟨hs7, ns7, by omega⟩, ⟨hr7, nr7, by omega⟩, ⟨hh7, nh7, by omega⟩, sh_twice sv s, fun pt2 H8 g8 => ?_, fun pf H8 g8 => ?_⟩
    rotate_left
    · exact e6 5 (er.symm.trans (run_bad (due5 o1 o2 pt pf) (by decide))) _ (g1.trans (i7.same.trans g8))
    have i8 := i7.up g8 (Nat.le_refl _)
    have h8 := g8 _ _ h7
    have d0 := due00 o1 o2 pt pt2
    clear h7 ht7 hs7 hr7 hh7 nt7 ns7 nr7 nh7
    walk_at "rz"
    refine ⟨i + 1, i, p4, x, ys, r, H1, c, s, rfl, h8, sv, i8, by omega, d0, fun H9 i9 => ?_⟩
    exact ⟨nxtR s r, _, _, _, rfl, i9, by rw [← er, run_ok d0]⟩
  · obtain ⟨s, v4, v5, v6, rfl, i2, er⟩ := z
    rw [lm, List.drop_of_length_le (by rw [rw'.len]; exact Nat.le_refl _)] at er
    walk_at "rz"
    obtain ⟨bs, hb, fr⟩ := i2.b
    have em := fr.emp
    refine ⟨!bs.isEmpty, .inl ⟨bs, SqL.of hb, rfl⟩, ?_⟩
    rw [em]
    cases ee : s.fr.isEmpty with
    | true =>
      refine iteF ?_
      have q := q (er.symm.trans (if_pos ee)) (.ref c.pr) _ (g1.trans i2.same)
      clear e6 ee em hb
      walk_at "rz"
    | false =>
      refine iteT ?_
      have e6 := e6 6 (er.symm.trans (if_neg (by rw [ee]; exact Bool.false_ne_true))) _ (g1.trans i2.same)
      clear q ee em hb
      walk_at "rz"
end
end K09
namespace K09
open PySem L2
theorem dig_head (m : Nat) (h : 0 < m) : ∃ c r, Nat.toDigits 10 m = c :: r ∧ c.toNat ≠ 48 := by
  induction m using Nat.strongRecOn with
  | _ m ih =>
    by_cases hm : m < 10
    · refine ⟨Nat.digitChar m, [], Nat.toDigits_of_lt_base hm, ?_⟩
      have : ∀ d : Nat, d < 10 → 0 < d → (Nat.digitChar d).toNat ≠ 48 := by decide
      exact this m hm h
    · have hq : m % 10 < 10 := Nat.mod_lt m (by decide)
      have t : Nat.toDigits 10 (m / 10) ++ Nat.toDigits 10 (m % 10) = Nat.toDigits 10 (10 * (m / 10) + m % 10) := Nat.toDigits_append_toDigits (by decide) (by omega) hq
      rw [Nat.div_add_mod] at t
      obtain ⟨c, r, e, hc⟩ := ih (m / 10) (by omega) (by omega)
      exact ⟨c, r ++ Nat.toDigits 10 (m % 10), by rw [← t, e]; rfl, hc⟩
theorem fig_is {c : Char} (h : c.isDigit = true) : isL "0123456789" c.toNat = true := by
  rw [isL_mem, decide_eq_true_eq]
  show c.toNat ∈ (Str.ofString "0123456789").cps.toList
  rw [figs]
  unfold Char.isDigit at h
  simp only [Bool.and_eq_true, decide_eq_true_eq] at h
  have h1 : c.val.toNat ≥ 48 := h.1
  have h2 : c.val.toNat ≤ 57 := h.2
  have e : c.toNat = c.val.toNat := rfl
  simp only [List.mem_cons, List.not_mem_nil, or_false]
  omega
def numS (k : Nat) : Str := Str.ofString (toString ((k : Nat) : Int))
theorem num_dig (k : Nat) : ∀ c ∈ (numS k).cps.toList, isL "0123456789" c = true := fun c hc => by
  rw [numS, num_cps] at hc
  obtain ⟨d, hd, rfl⟩ := List.mem_map.mp hc
  exact fig_is (Nat.isDigit_of_mem_toDigits (by decide) (by decide) hd)
theorem num_ok {k : Nat} (h : k < 10 ^ 6) : numOk (numS k) = true := by
  unfold numOk
  simp only [Bool.and_eq_true, decide_eq_true_eq]
  refine ⟨⟨num_len h, ?_⟩, List.all_eq_true.mpr (num_dig k)⟩
  by_cases hk : k = 0
  · subst hk
    decide +kernel
  · obtain ⟨ch, rr, ed, hch⟩ := dig_head k (by omega)
    have hs : PySem.Txt.startswith (numS k) (Str.ofString "0") = false := by
      have h1 : (Str.ofString "0").length = 1 := by decide +kernel
      have z : (Str.ofString "0").cps.toList = [48] := by decide +kernel
      unfold PySem.Txt.startswith numS
      rw [PySem.StrLaws.subAt_eq, h1, num_cps, ed, z]
      rw [Bool.eq_false_iff]
      intro q
      simp at q
      exact hch q.2
    rw [hs, Bool.not_false, Bool.or_true]
theorem part_num {k : Nat} (h : k < 10 ^ 6) : partOf "number" (numS k) = some (.int k) := by
  unfold partOf
  rw [if_neg (by decide +kernel), if_pos ⟨rfl, num_ok h⟩, numS, PySem.W.KIN.num_reads (by omega) (by omega)]
  rfl
theorem part_name {x : Str} (h : nameOk x = true) : partOf "name" x = some (.str x) := by
  unfold partOf
  rw [if_neg (by decide +kernel), if_neg (fun z => absurd z.1 (by decide +kernel)), if_pos ⟨rfl, h⟩]
def Wd (x : Str) : Prop := (∀ c ∈ x.cps.toList, c ≠ 32 ∧ c ≠ 10 ∧ c < 128) ∧ x.length ≤ 20
theorem wd_num {k : Nat} (h : k < 10 ^ 6) : Wd (numS k) := ⟨fun c hc => by have := fig_dig (num_dig k c hc); omega, by have := (num_len h).2; unfold numS; omega⟩
theorem wd_name {x : Str} (h : nameOk x = true) : Wd x := by
  unfold nameOk at h
  simp only [Bool.and_eq_true, decide_eq_true_eq] at h
  refine ⟨fun c hc => ?_, by omega⟩
  have q := List.all_eq_true.mp h.2 c hc
  have ls : (Str.ofString "abcdefghijklmnopqrstuvwxyz").cps.toList = [97, 98, 99, 100, 101, 102, 103, 104, 105, 106, 107, 108, 109, 110, 111, 112, 113, 114, 115, 116, 117, 118, 119, 120, 121, 122] := by decide +kernel
  rw [isL_mem, decide_eq_true_eq] at q
  have q' : c ∈ (Str.ofString "abcdefghijklmnopqrstuvwxyz").cps.toList := q
  rw [ls] at q'
  simp only [List.mem_cons, List.not_mem_nil, or_false] at q'
  omega
def rowT (ws : List Str) : Str := Str.join ⟨#[32]⟩ ws
theorem parts_rowT {x : Str} {r ks : List Str} {ds : List PyData} (h : ∀ y ∈ x :: r, Wd y) (k : kindsOf (x :: r) = some ks) (a : allP (List.zipWith partOf ks r) = some ds) : partsV (rowT (x :: r)) = some (x, ds) := by
  unfold partsV rowT
  rw [split_of 32 (List.cons_ne_nil _ _) fun y hy z => ((h y hy).1 32 z).1 rfl]
  simp only [k, a, Option.map]
theorem jn_bd (c : Nat) {n : Nat} : ∀ l : List (List Nat), (∀ x ∈ l, x.length ≤ n) → (jn c l).length ≤ l.length * (n + 1)
  | [], _ => by simp [jn]
  | [x], h => by have := h x List.mem_cons_self; simp [jn]; omega
  | x :: y :: r, h => by
    have i := jn_bd c (n := n) (y :: r) (fun z hz => h z (List.mem_cons_of_mem _ hz))
    have := h x List.mem_cons_self
    show (x ++ c :: jn c (y :: r)).length ≤ _
    rw [List.length_append, List.length_cons, List.length_cons, Nat.add_mul]
    omega
theorem jn_no (c : Nat) {d : Nat} (hd : d ≠ c) : ∀ l : List (List Nat), (∀ x ∈ l, d ∉ x) → d ∉ jn c l
  | [], _ => by simp [jn]
  | [x], h => h x List.mem_cons_self
  | x :: y :: r, h => by
    have i := jn_no c hd (y :: r) (fun z hz => h z (List.mem_cons_of_mem _ hz))
    show d ∉ x ++ c :: jn c (y :: r)
    simp only [List.mem_append, List.mem_cons, not_or]
    exact ⟨h x List.mem_cons_self, hd, i⟩
theorem jn_asc : ∀ l : List (List Nat), (∀ x ∈ l, ∀ c ∈ x, c < 128) → ∀ c ∈ jn 32 l, c < 128
  | [], _ => by simp [jn]
  | [x], h => h x List.mem_cons_self
  | x :: y :: r, h => by
    have i := jn_asc (y :: r) (fun z hz => h z (List.mem_cons_of_mem _ hz))
    intro c hc
    have hc : c ∈ x ++ 32 :: jn 32 (y :: r) := hc
    simp only [List.mem_append, List.mem_cons] at hc
    rcases hc with a | rfl | a
    · exact h x List.mem_cons_self c a
    · decide
    · exact i c a
def asc (t : Str) : Prop := ∀ c ∈ t.cps.toList, c < 128
def Rt (t : Str) : Prop := t.length ≤ 2000 ∧ 10 ∉ t.cps.toList ∧ asc t
theorem rt_row {ws : List Str} (h : ∀ y ∈ ws, Wd y) (l : ws.length ≤ 30) : Rt (rowT ws) := by
  unfold Rt rowT asc
  rw [← len_cps, join_jn]
  refine ⟨?_, jn_no 32 (by decide) _ fun x hx z => ?_, jn_asc _ fun x hx c hc => ?_⟩
  · have := jn_bd 32 (n := 20) (ws.map fun t => t.cps.toList) fun x hx => by obtain ⟨t, ht, rfl⟩ := List.mem_map.mp hx; rw [len_cps]; exact (h t ht).2
    rw [List.length_map] at this
    omega
  · obtain ⟨t, ht, rfl⟩ := List.mem_map.mp hx
    exact ((h t ht).1 10 z).2.1 rfl
  · obtain ⟨t, ht, rfl⟩ := List.mem_map.mp hx
    exact ((h t ht).1 c hc).2.2
theorem wds {ws : List Str} (h : ∀ x ∈ ws, (x.cps.toList.all fun c => decide (c ≠ 32 ∧ c ≠ 10 ∧ c < 128)) && decide (x.length ≤ 20)) : ∀ x ∈ ws, Wd x := fun x hx => by
  have q := h x hx
  simp only [Bool.and_eq_true, List.all_eq_true, decide_eq_true_eq] at q
  exact ⟨q.1, q.2⟩
theorem tool_row {nm : Str} {n : Nat} (h : nameOk nm = true) (hn : n < 10 ^ 6) : RowIs (rowT ["tool", nm, numS n]) (some (.tool nm n)) ∧ Rt (rowT ["tool", nm, numS n]) := by
  have w : ∀ y ∈ [Str.ofString "tool", nm, numS n], Wd y := fun y hy => by
    simp only [List.mem_cons, List.not_mem_nil, or_false] at hy
    rcases hy with rfl | rfl | rfl
    · exact wds (ws := [Str.ofString "tool"]) (by decide +kernel) _ (by simp)
    · exact wd_name h
    · exact wd_num hn
  have k : kindsOf [Str.ofString "tool", nm, numS n] = some [Str.ofString "name", Str.ofString "number"] := by
    rw [kinds_some (l := [Str.ofString "name", Str.ofString "number"]) (by decide +kernel), show tailOf "tool" = (Str.ofString "", 0, 0) by decide +kernel, if_pos (by simp)]
    rfl
  refine ⟨⟨"tool", _, parts_rowT w k ?_, rfl, rfl⟩, rt_row w (by simp)⟩
  simp only [List.zipWith_cons_cons, List.zipWith_nil_left, part_name h, part_num hn, allP, Option.map]
theorem store_row {nm : Str} {n m : Nat} (h : nameOk nm = true) (hn : n < 10 ^ 6) (hm : m < 10 ^ 6) : RowIs (rowT ["store", nm, numS n, numS m]) (some (.store nm n m)) ∧ Rt (rowT ["store", nm, numS n, numS m]) := by
  have w : ∀ y ∈ [Str.ofString "store", nm, numS n, numS m], Wd y := fun y hy => by
    simp only [List.mem_cons, List.not_mem_nil, or_false] at hy
    rcases hy with rfl | rfl | rfl | rfl
    · exact wds (ws := [Str.ofString "store"]) (by decide +kernel) _ (by simp)
    · exact wd_name h
    · exact wd_num hn
    · exact wd_num hm
  have k : kindsOf [Str.ofString "store", nm, numS n, numS m] = some [Str.ofString "name", Str.ofString "number", Str.ofString "number"] := by
    rw [kinds_some (l := [Str.ofString "name", Str.ofString "number", Str.ofString "number"]) (by decide +kernel), show tailOf "store" = (Str.ofString "", 0, 0) by decide +kernel, if_pos (by simp)]
    rfl
  refine ⟨⟨"store", _, parts_rowT w k ?_, rfl, rfl⟩, rt_row w (by simp)⟩
  simp only [List.zipWith_cons_cons, List.zipWith_nil_left, part_name h, part_num hn, part_num hm, allP, Option.map]
theorem allP_rep {k : Str} {α : Type} (f : α → Str) (g : α → PyData) : ∀ l : List α, (∀ a ∈ l, partOf k (f a) = some (g a)) → allP (List.zipWith partOf (List.replicate l.length k) (l.map f)) = some (l.map g)
  | [], _ => rfl
  | a :: l, h => by
    rw [List.length_cons, List.replicate_succ, List.map_cons, List.zipWith_cons_cons, h a List.mem_cons_self, List.map_cons]
    show (allP _).map _ = _
    rw [allP_rep f g l fun b hb => h b (List.mem_cons_of_mem _ hb)]
    rfl
theorem row_row {nm : Str} {ns : List Nat} (h : nameOk nm = true) (h1 : ns ≠ []) (h2 : ns.length ≤ 20) (hn : ∀ n ∈ ns, n < 10 ^ 6) : RowIs (rowT ("row" :: nm :: ns.map numS)) (some (.row nm (ns.map Int.ofNat))) ∧ Rt (rowT ("row" :: nm :: ns.map numS)) := by
  have w : ∀ y ∈ Str.ofString "row" :: nm :: ns.map numS, Wd y := fun y hy => by
    simp only [List.mem_cons] at hy
    rcases hy with rfl | rfl | hy
    · exact wds (ws := [Str.ofString "row"]) (by decide +kernel) _ (by simp)
    · exact wd_name h
    · obtain ⟨n, m, rfl⟩ := List.mem_map.mp hy
      exact wd_num (hn n m)
  have lp := List.length_pos_iff.mpr h1
  have tl : tailOf "row" = (Str.ofString "number", 1, 20) := by decide +kernel
  have k : kindsOf (Str.ofString "row" :: nm :: ns.map numS) = some (Str.ofString "name" :: List.replicate ns.length (Str.ofString "number")) := by
    rw [kinds_some (l := [Str.ofString "name"]) (by decide +kernel), tl, if_pos (by simp; omega)]
    simp
  refine ⟨⟨"row", .str nm :: ns.map (fun n : Nat => PyData.int (n : Int)), parts_rowT w k ?_, rfl, by simpa using h1, by simp; omega, by rw [List.map_map]; rfl⟩, rt_row w (by simp; omega)⟩
  simp only [List.zipWith_cons_cons, part_name h, allP]
  rw [allP_rep numS (fun n : Nat => PyData.int (n : Int)) ns fun a ha => part_num (hn a ha)]
  rfl
theorem hand_row {nm : Str} {ns : List Str} (h : nameOk nm = true) (h2 : ns.length ≤ 3) (hn : ∀ n ∈ ns, nameOk n = true) : RowIs (rowT ("hand" :: nm :: ns)) (some (.hand nm ns)) ∧ Rt (rowT ("hand" :: nm :: ns)) := by
  have w : ∀ y ∈ Str.ofString "hand" :: nm :: ns, Wd y := fun y hy => by
    simp only [List.mem_cons] at hy
    rcases hy with rfl | rfl | hy
    · exact wds (ws := [Str.ofString "hand"]) (by decide +kernel) _ (by simp)
    · exact wd_name h
    · exact wd_name (hn y hy)
  have tl : tailOf "hand" = (Str.ofString "name", 0, 3) := by decide +kernel
  have k : kindsOf (Str.ofString "hand" :: nm :: ns) = some (Str.ofString "name" :: List.replicate ns.length (Str.ofString "name")) := by
    rw [kinds_some (l := [Str.ofString "name"]) (by decide +kernel), tl, if_pos (by simp; omega)]
    simp
  refine ⟨⟨"hand", .str nm :: ns.map .str, parts_rowT w k ?_, rfl, by omega, rfl⟩, rt_row w (by simp; omega)⟩
  simp only [List.zipWith_cons_cons, part_name h, allP]
  have := allP_rep (k := "name") (fun x : Str => x) PyData.str ns fun a ha => part_name (hn a ha)
  rw [List.map_id'] at this
  rw [this]
  rfl
def isB (t : Str) (r : Rw) : Bool := (decide (t.length ≤ 2000) && (!(t.cps.toList.contains 10) && t.cps.toList.all fun c => decide (c < 128))) && match partsV t with
  | none => false
  | some (x, ds) => match r with
    | .els => decide (x = "else" ∧ ds.length ≤ 100)
    | .fin => decide (x = "end" ∧ ds.length ≤ 100)
    | .iff => decide (x = "if" ∧ ds.length = 3)
    | .whl => decide (x = "while" ∧ ds.length = 3)
    | .plain => decide ((x = "start" ∧ 1 ≤ ds.length ∧ ds.length ≤ 101) ∨ (x ∉ (["tool", "store", "row", "hand", "else", "end", "if", "while", "start"] : List Str) ∧ ds.length ≤ 100))
    | _ => false
theorem isB_of {t : Str} {r : Rw} (h : isB t r = true) : RowIs t (some r) ∧ Rt t := by
  unfold isB at h
  rw [Bool.and_eq_true, Bool.and_eq_true, Bool.and_eq_true] at h
  obtain ⟨⟨a, b, d⟩, h⟩ := h
  refine ⟨?_, by simpa using a, by simpa using b, fun c hc => by simpa using List.all_eq_true.mp d c hc⟩
  split at h
  · cases h
  · rename_i x ds e
    refine ⟨x, ds, e, ?_⟩
    cases r with
    | els => have := of_decide_eq_true h; exact this
    | fin => have := of_decide_eq_true h; exact this
    | iff => have := of_decide_eq_true h; exact this
    | whl => have := of_decide_eq_true h; exact this
    | plain => have := of_decide_eq_true h; exact this
    | _ => cases h
theorem if_rows : ∀ t ∈ (["if a < 2", "if n = 1", "if now < own"] : List Str), isB t .iff = true := by decide +kernel
theorem while_rows : ∀ t ∈ (["while a < 2", "while 1 = 1"] : List Str), isB t .whl = true := by decide +kernel
theorem else_row : isB "else" .els = true := by decide +kernel
theorem end_row : isB "end" .fin = true := by decide +kernel
theorem plain_rows : ∀ t ∈ (["wait 1", "take a 1", "give ab now", "put s 2", "get s own", "let a a", "draw a r", "say a 1", "start go 1", "stop"] : List Str), isB t .plain = true := by decide +kernel
end K09
namespace K09
open PySem L2
def room : List Str → Nat
  | [] => 0
  | y :: ys => y.length + 1 + room ys
theorem joinOk_room {s : Str} (hs : s.length ≤ 1) {ys : List Str} (h : room ys ≤ 3000000) : JoinOk s ys = true := by
  unfold JoinOk
  have key : ∀ (ys : List Str) (n : Nat), ys.foldl (fun a y => a + y.length + s.length) n ≤ n + room ys := by
    intro ys
    induction ys with
    | nil => intro n; exact Nat.le_refl _
    | cons y ys ih =>
      intro n
      rw [List.foldl_cons]
      have := ih (n + y.length + s.length)
      show _ ≤ n + (y.length + 1 + room ys)
      omega
  have k := key ys 0
  have e : ys.toArray.foldl (· + ·.length + s.length) 0 = ys.foldl (fun a y => a + y.length + s.length) 0 := by simp
  rw [e]
  unfold Builtin.Str.tooLong sizeLine
  simp only [Bool.not_eq_true', decide_eq_false_iff_not]
  omega
theorem jn_room (c : Nat) : ∀ ys : List Str, ys ≠ [] → (jn c (ys.map fun t => t.cps.toList)).length + 1 = room ys
  | [], h => absurd rfl h
  | [x], _ => by show x.cps.toList.length + 1 = x.length + 1 + 0; rw [len_cps]
  | x :: y :: r, _ => by
    have := jn_room c (y :: r) (by simp)
    show (x.cps.toList ++ c :: jn c ((y :: r).map fun t => t.cps.toList)).length + 1 = x.length + 1 + room (y :: r)
    rw [List.length_append, List.length_cons, len_cps]
    omega
theorem join_room (c : Nat) {ys : List Str} (h : ys ≠ []) : (Str.join ⟨#[c]⟩ ys).length + 1 = room ys := by
  rw [← len_cps, join_jn]
  exact jn_room c ys h
theorem tjoin (s : Str) (ys : List Str) : PySem.Txt.join s ys = Str.join s ys := by
  unfold PySem.Txt.join PySem.Builtin.Str.glued
  cases ys with
  | nil => rfl
  | cons y ys => exact PySem.StrLaws.glued_cons s ys y
theorem sp32 : Str.ofString " " = ⟨#[32]⟩ := by decide +kernel
theorem nl10 : Str.ofString "\n" = ⟨#[10]⟩ := by decide +kernel
theorem run_le {s : Rs} : ∀ {os : List (Option Rw)} {c : Nat}, runF s os = some c → c ≤ 6 := by
  have dl : ∀ (s : Rs) (r : Rw), dueR s r ≤ 6 := fun s r => by
    unfold dueR
    split
    · decide
    · split
      · decide
      · split
        · decide
        · split <;> decide
  intro os
  induction os generalizing s with
  | nil => intro c h; unfold runF at h; split at h <;> cases h; decide
  | cons o os ih =>
    intro c h
    cases o with
    | none => cases h; decide
    | some r =>
      unfold runF at h
      split at h
      · exact ih h
      · cases h; exact dl s r
def codeL : Option Nat → List Bool
  | none => []
  | some c => (List.range 12).map fun k => decide (k = c)
structure Kcs (K : PySem.W.Frag) (C : Nat → Addr) (B : Addr) : Prop where
  pl : ∀ i, i ≤ 6 → PlainX K (C i)
  ex : ∀ i, i ≤ 6 → PySem.W.exmOne K (.ref (C i)) (.ref B) = some true
  ve : ∀ i, i ≤ 6 → PySem.W.kitOne K (.ref (C i)) (.type "ValueError") = some true
  is : ∀ i, i ≤ 6 → ∀ j, j ≤ 10 → PySem.W.kitOne K (.ref (C i)) (.ref (C j)) = some (decide (j = i))
structure Nmd (mg : Str → Option Value) (x : Str) (D : Addr) : Prop where
  gl : mg x = some (.ref D)
section
variable {P : Program} {w : World} {K : PySem.W.Frag} {mg : Str → Option Value} {base : Heap}
def spStir : Sp := fun vs H Q _ => ∃ c k : Int, vs = [.int c, .int k] ∧ 0 ≤ k ∧ k ≤ 1000 ∧ ∀ m : Int, 0 ≤ m → m < 2 ^ 28 → Q (.int m) H
theorem ok_stir (D : DefAt K mg "_law_stir" s__law_stir ["cell", "k"]) : OkD P w K mg base 1 "_law_stir" ["cell", "k"] spStir := by
  refine D.ok sc__law_stir (fun vs H Q E h => ?_) (fun f cdv A outer s H vs Q E hr h => ?_)
  · obtain ⟨c, k, rfl, _⟩ := h; rfl
  obtain ⟨c, k, rfl, h0, h1, q⟩ := h
  refine ⟨_, (pss_cons (ps_if (pt_cmpR op_ge (pv 0) (pe_op op_pow pe_int pe_int) (nomark _))
  (pss_one (ps_ret (pe_op op_mod (pe_op op_shr (pe_op op_sub (pv 0) (pe_op op_pow pe_int pe_int)) (pe_op op_mul pe_int (pv 1))) (pe_op op_pow pe_int pe_int))))
  pss_nil)
  (pss_cons (ps_set (i := 2) sc__law_stir.nd rfl (Or.inl rfl) (pe_op op_mod (pe_op op_mul (pe_op op_add (pe_op op_add (pv 0) (pe_op op_mul pe_int (pv 1))) pe_int) pe_int) pe_int))
  (pss_cons (ps_set (i := 2) sc__law_stir.nd rfl (Or.inl rfl) (pe_op op_mod (pe_op op_mul (pv 2) (pv 2)) pe_int))
  (pss_one (ps_ret (pe_op op_fdiv (pe_op op_mod (pe_op op_mul (pv 2) pe_int) pe_int) pe_int)))))), ?_⟩
  walk_at "rd"
  split
  · exact ⟨by omega, q _ (Int.emod_nonneg _ (by decide)) (Int.emod_lt_of_pos _ (by decide))⟩
  · refine ⟨by omega, q _ ?_ ?_⟩ <;> omega
def spCell (K : PySem.W.Frag) : Sp := fun vs H Q _ => ∃ (a : Addr) (ns : List Int) (k : Nat), vs = [.ref a, .int (k : Nat)] ∧ SqL K H a (ns.map V.int) ∧ ∀ c : Int, Q (.int c) H
theorem ok_cell (D : DefAt K mg "_law_cell_at" s__law_cell_at ["script", "k"]) (hlen : mg "len" = none) : OkD P w K mg base 1 "_law_cell_at" ["script", "k"] (spCell K) := by
  refine D.ok sc__law_cell_at (fun vs H Q E h => ?_) (fun f cdv A outer s H vs Q E hr h => ?_)
  · obtain ⟨_, _, _, rfl, _⟩ := h; rfl
  obtain ⟨a, ns, k, rfl, hS, q⟩ := h
  refine ⟨_, (pss_cons (ps_if (pt_cmpR op_lt (pv 1) (pe_cB call_len_seq rfl hlen PySem.boot_len (pa_c (pv 0) pa_nil)) (nomark _))
  (pss_one (ps_ret (pe_ix ix_list (pv 0) (pv 1) (fun _ _ => rfl))))
  pss_nil)
  (pss_one (ps_ret pe_int))), ?_⟩
  walk_at "rz"
  refine ⟨_, .inl hS, ?_⟩
  walk_at "rz"
  refine ite2 (fun c => ?_) fun c => ?_
  · rw [List.length_map] at c
    have hk : k < ns.length := by omega
    walk_at "rz"
    exact ⟨_, hS, .int ns[k], atI_nat (j := k) (by rw [List.getElem?_map, List.getElem?_eq_getElem hk]; rfl), q _⟩
  · walk_at "rz"
theorem read_in {C : Nat → Addr} {t : Str} {rows : List Str} {os : List (Option Rw)} {H : Hp} {Q : VK} {E : XK} (h1 : t.length ≤ 1000000) (h2 : PySem.Txt.split t ⟨#[10]⟩ = rows) (h3 : Rows rows os) (h4 : ∀ x ∈ rows, x.length ≤ 9000) (key : ∀ c, (if 120 < rows.length then some 2 else runF s0 os) = some c → ∀ H', Same H H' → E (.ref (C c)) none H') (q : (if 120 < rows.length then some 2 else runF s0 os) = none → ∀ v H', Same H H' → Q v H') : spRead C [.str t] H Q E :=
  ⟨t, rows, os, rfl, h1, h2, h3, h4, fun l => key 2 (if_pos l), fun l c h => key c ((if_neg (by omega)).trans h), fun l h => q ((if_neg (by omega)).trans h)⟩
def spRef : Sp := fun vs H Q _ => ∃ (l : Addr) (rows : List Str) (os : List (Option Rw)), vs = [.ref l] ∧ H l = some (.lst (rows.map V.str)) ∧ rows ≠ [] ∧ room rows ≤ 900000 ∧ (∀ x ∈ rows, Rt x) ∧ Rows rows os ∧ ∀ p H', H p = none → Same H H' → H' p = some (.lst ((codeL (if 120 < rows.length then some 2 else runF s0 os)).map V.bl)) → Q (.ref p) H'
theorem ok_refused {C : Nat → Addr} {B : Addr} (D : DefAt K mg "_law_refused" s__law_refused ["rows"]) (hisinstance : mg "isinstance" = none) (hValueError : mg "ValueError" = none) (kc : Kcs K C B) (O_RunError : Nmd mg "RunError" B)
    (O_NoRow : Nmd mg "NoRow" (C 0)) (O_NoPlace : Nmd mg "NoPlace" (C 1)) (O_TooLong : Nmd mg "TooLong" (C 2)) (O_TooDeep : Nmd mg "TooDeep" (C 3)) (O_NoMeasure : Nmd mg "NoMeasure" (C 4)) (O_Twice : Nmd mg "Twice" (C 5)) (O_Open : Nmd mg "Open" (C 6)) (O_NoLog : Nmd mg "NoLog" (C 7)) (O_NoForm : Nmd mg "NoForm" (C 8)) (O_NoneYet : Nmd mg "NoneYet" (C 9)) (O_NoThing : Nmd mg "NoThing" (C 10))
    (G_read : OkR P w K mg base 25 "read" ["text"] (spRead C)) : OkD P w K mg base 26 "_law_refused" ["rows"] spRef := by
  refine D.ok sc__law_refused (fun vs H Q E h => ?_) (fun f cdv A outer s H vs Q E hr h => ?_)
  · obtain ⟨_, _, _, rfl, _⟩ := h; rfl
  obtain ⟨l, rows, os, rfl, hl, ne, hz, hx, ro, q⟩ := h
  have big : 2000000 ≤ sizeLine := by unfold sizeLine; decide
  refine ⟨_, (pss_cons (ps_set (i := 1) sc__law_refused.nd rfl (Or.inl rfl) (pe_lstG pa_nil))
  (pss_cons (ps_try1 (i := 2) rfl rfl rfl (pex_def G_read hr rfl (pa_c (pe_join pe_str (pv 0)) pa_nil)) rfl O_RunError.gl sc__law_refused.nd rfl rfl (fun _ =>
  (pss_cons (ps_set (i := 1) sc__law_refused.nd rfl (Or.inl rfl) (pe_lstG (pa_c (pe_cB (id := "isinstance") (r := rIsiX K) call_isinstX rfl hisinstance (by decide +kernel) (pa_c (pv 2) (pa_c (pe_glob (v := .ref (C 0)) rfl O_NoRow.gl rfl) pa_nil))) (pa_c (pe_cB (id := "isinstance") (r := rIsiX K) call_isinstX rfl hisinstance (by decide +kernel) (pa_c (pv 2) (pa_c (pe_glob (v := .ref (C 1)) rfl O_NoPlace.gl rfl) pa_nil))) (pa_c (pe_cB (id := "isinstance") (r := rIsiX K) call_isinstX rfl hisinstance (by decide +kernel) (pa_c (pv 2) (pa_c (pe_glob (v := .ref (C 2)) rfl O_TooLong.gl rfl) pa_nil))) (pa_c (pe_cB (id := "isinstance") (r := rIsiX K) call_isinstX rfl hisinstance (by decide +kernel) (pa_c (pv 2) (pa_c (pe_glob (v := .ref (C 3)) rfl O_TooDeep.gl rfl) pa_nil))) pa_nil))))))
  (pss_cons (ps_set (i := 1) sc__law_refused.nd rfl (Or.inl rfl) (pe_op op_catG (pv 1) (pe_lstG (pa_c (pe_cB (id := "isinstance") (r := rIsiX K) call_isinstX rfl hisinstance (by decide +kernel) (pa_c (pv 2) (pa_c (pe_glob (v := .ref (C 4)) rfl O_NoMeasure.gl rfl) pa_nil))) (pa_c (pe_cB (id := "isinstance") (r := rIsiX K) call_isinstX rfl hisinstance (by decide +kernel) (pa_c (pv 2) (pa_c (pe_glob (v := .ref (C 5)) rfl O_Twice.gl rfl) pa_nil))) (pa_c (pe_cB (id := "isinstance") (r := rIsiX K) call_isinstX rfl hisinstance (by decide +kernel) (pa_c (pv 2) (pa_c (pe_glob (v := .ref (C 6)) rfl O_Open.gl rfl) pa_nil))) (pa_c (pe_cB (id := "isinstance") (r := rIsiX K) call_isinstX rfl hisinstance (by decide +kernel) (pa_c (pv 2) (pa_c (pe_glob (v := .ref (C 7)) rfl O_NoLog.gl rfl) pa_nil))) pa_nil)))))))
  (pss_cons (ps_set (i := 1) sc__law_refused.nd rfl (Or.inl rfl) (pe_op op_catG (pv 1) (pe_lstG (pa_c (pe_cB (id := "isinstance") (r := rIsiX K) call_isinstX rfl hisinstance (by decide +kernel) (pa_c (pv 2) (pa_c (pe_glob (v := .ref (C 8)) rfl O_NoForm.gl rfl) pa_nil))) (pa_c (pe_cB (id := "isinstance") (r := rIsiX K) call_isinstX rfl hisinstance (by decide +kernel) (pa_c (pv 2) (pa_c (pe_glob (v := .ref (C 9)) rfl O_NoneYet.gl rfl) pa_nil))) (pa_c (pe_cB (id := "isinstance") (r := rIsiX K) call_isinstX rfl hisinstance (by decide +kernel) (pa_c (pv 2) (pa_c (pe_glob (v := .ref (C 10)) rfl O_NoThing.gl rfl) pa_nil))) pa_nil))))))
  (pss_one (ps_set (i := 1) sc__law_refused.nd rfl (Or.inl rfl) (pe_op op_catG (pv 1) (pe_lstG (pa_c (pe_not (pe_cB (id := "isinstance") (r := rIsiXT K) call_isinstXT rfl hisinstance (by decide +kernel) (pa_c (pv 2) (pa_c (pe_type (n := "ValueError") (T := "ValueError") rfl hValueError (by decide +kernel)) pa_nil)))) pa_nil))))))))))
  (pss_one (ps_ret (pv 1))))), ?_⟩
  walk_at "ro"
  intro p1 H1 hp1 g1 h1
  have hl1 := g1 _ _ hl
  have jl := join_room 10 ne
  have si := split_of 10 ne fun y hy => (hx y hy).2.1
  refine ⟨rows, hl1, joinOk_room (by decide +kernel) (by omega), ?_⟩
  rw [tjoin, nl10]
  refine read_in (by omega) si ro (fun x m => Nat.le_trans (hx x m).1 (by decide)) (fun c hc H2 g2 => ?_) fun hn v H2 g2 => ?_
  · have cl : c ≤ 6 := by
      split at hc
      · cases hc; decide
      · exact run_le hc
    have pl := kc.pl c cl
    have is := kc.is c cl
    refine ⟨C c, rfl, kc.ex c cl, fun xe H3 hx3 g3 h3 => ⟨_, h3, pl, _, is 0 (by decide), _, h3, pl, _, is 1 (by decide), _, h3, pl, _, is 2 (by decide), _, h3, pl, _, is 3 (by decide), fun p4 H4 hp4 g4 h4 => ?_⟩⟩
    have k4 := g4 _ _ h3
    refine ⟨_, k4, pl, _, is 4 (by decide), _, k4, pl, _, is 5 (by decide), _, k4, pl, _, is 6 (by decide), _, k4, pl, _, is 7 (by decide), fun p5 H5 hp5 g5 h5 => ?_⟩
    refine ⟨_, g5 _ _ h4, _, h5, by simp only [List.length_cons, List.length_append, List.length_nil]; omega, fun p6 H6 hp6 g6 h6 => ?_⟩
    have k6 := g6 _ _ (g5 _ _ k4)
    refine ⟨_, k6, pl, _, is 8 (by decide), _, k6, pl, _, is 9 (by decide), _, k6, pl, _, is 10 (by decide), fun p7 H7 hp7 g7 h7 => ⟨_, g7 _ _ h6, _, h7, by simp only [List.length_cons, List.length_append, List.length_nil]; omega, fun p8 H8 hp8 g8 h8 => ?_⟩⟩
    have k8 := g8 _ _ (g7 _ _ k6)
    refine ⟨_, k8, pl, _, kc.ve c cl, fun p9 H9 hp9 g9 h9 => ⟨_, g9 _ _ h8, _, h9, by simp only [List.length_cons, List.length_append, List.length_nil]; omega, fun p10 H10 hp10 g10 h10 => ?_⟩⟩
    have g09 := g1.trans (g2.trans (g3.trans (g4.trans (g5.trans (g6.trans (g7.trans (g8.trans g9)))))))
    refine q _ _ (g09.free hp10) (g09.trans g10) ?_
    rw [h10, hc]
    have e11 : decide (11 = c) = false := decide_eq_false (by omega)
    simp only [codeL, List.range, List.range.loop, List.map_cons, List.map_nil, e11]
    rfl
  · refine q _ _ hp1 (g1.trans g2) ?_
    rw [hn]
    exact g2 _ _ h1
end
end K09
namespace K09
open PySem L2
def kindS : Rw → Str
  | .tool _ _ => "tool"
  | .store _ _ _ => "store"
  | .row _ _ => "row"
  | .hand _ _ => "hand"
  | .els => "else"
  | .fin => "end"
  | .iff => "if"
  | .whl => "while"
  | .plain => "plain"
def nameS : Rw → Str
  | .tool nm _ => nm
  | .store nm _ _ => nm
  | .row nm _ => nm
  | .hand nm _ => nm
  | _ => ""
def okB : Rw → Bool
  | .hand _ ns => decide ns.Nodup
  | r => fitR r
def RowQ (H : Hp) (Q : VK) : Prop := ∀ t r p H', RowIs t (some r) → Rt t → asc (nameS r) → H p = none → Same H H' → H' p = some (.lst [.str t, .str (kindS r), .str (nameS r), .bl (okB r)]) → Q (.ref p) H'
theorem sapp (a b c : Str) : a ++ b ++ c = a ++ (b ++ c) := congrArg Str.mk Array.append_assoc
theorem row3 (a b c : Str) : a ++ ⟨#[32]⟩ ++ b ++ ⟨#[32]⟩ ++ c = rowT [a, b, c] := by
  show _ = a ++ ⟨#[32]⟩ ++ (b ++ ⟨#[32]⟩ ++ c)
  rw [sapp, sapp, sapp, sapp, sapp]
theorem row4 (a b c d : Str) : a ++ ⟨#[32]⟩ ++ b ++ ⟨#[32]⟩ ++ c ++ ⟨#[32]⟩ ++ d = rowT [a, b, c, d] := by
  show _ = a ++ ⟨#[32]⟩ ++ (b ++ ⟨#[32]⟩ ++ (c ++ ⟨#[32]⟩ ++ d))
  simp only [sapp]
theorem log_m {k : Nat} (h : k < 1000000) : ((k : Nat) : Int).natAbs.log2 < 1920 := by
  rw [Int.natAbs_natCast]
  by_cases z : k = 0
  · rw [z]; decide
  · exact (Nat.log2_lt z).mpr (Nat.lt_of_lt_of_le (Nat.lt_trans h (by decide : 1000000 < 2 ^ 20)) (Nat.pow_le_pow_right (by decide) (by decide)))
theorem name_len {x : Str} (h : nameOk x = true) : x.length ≤ 8 := by
  unfold nameOk at h
  simp only [Bool.and_eq_true, decide_eq_true_eq] at h
  omega
theorem name_asc {x : Str} (h : nameOk x = true) : asc x := fun c hc => ((wd_name h).1 c hc).2.2
theorem n4_ok : ∀ x ∈ (["a", "ab", "abc", "b"] : List Str), nameOk x = true := by decide +kernel
theorem pick {l : List V} {i : Int} (h0 : 0 ≤ i) (h1 : i < l.length) : ∃ v, atI l i = some v ∧ v ∈ l := by
  obtain ⟨j, rfl⟩ := Int.eq_ofNat_of_zero_le h0
  have hj : j < l.length := by omega
  exact ⟨l[j], atI_nat (List.getElem?_eq_getElem hj), List.getElem_mem hj⟩
theorem pickS {l : List Str} {i : Int} (h0 : 0 ≤ i) (h1 : i < l.length) : ∃ x, atI (l.map V.str) i = some (.str x) ∧ x ∈ l := by
  obtain ⟨v, e, m⟩ := pick (l := l.map V.str) h0 (by simpa using h1)
  obtain ⟨x, mx, rfl⟩ := List.mem_map.mp m
  exact ⟨x, e, mx⟩
theorem pickI {l : List Int} {i : Int} (h0 : 0 ≤ i) (h1 : i < l.length) : ∃ n, atI (l.map V.int) i = some (.int n) ∧ n ∈ l := by
  obtain ⟨v, e, m⟩ := pick (l := l.map V.int) h0 (by simpa using h1)
  obtain ⟨x, mx, rfl⟩ := List.mem_map.mp m
  exact ⟨x, e, mx⟩
section
variable {P : Program} {w : World} {K : PySem.W.Frag} {mg : Str → Option Value} {base : Heap}
def spGood : Sp := fun vs H Q _ => ∃ n f : Int, vs = [.int n, .int f] ∧ 0 ≤ n ∧ n < 2 ^ 28 ∧ 0 ≤ f ∧ f < 2 ^ 28 ∧ RowQ H Q
def GnP (far : Int) (i : Nat) (ys : List V) (σ1 : St) (H' : Hp) : Prop := (∃ ns : List Nat, ys = ns.map (fun (n : Nat) => V.int n) ∧ ∀ n ∈ ns, n ≤ 1000) ∧ ys.length = i ∧ ∃ v0, σ1 = [v0, some (.int far)]
theorem room_le {n : Nat} {ws : List Str} (h : ∀ y ∈ ws, y.length ≤ n) : room ws ≤ ws.length * (n + 1) := by
  induction ws with
  | nil => exact Nat.zero_le _
  | cons y ws ih =>
    have a := ih fun z hz => h z (List.mem_cons_of_mem _ hz)
    have b := h y List.mem_cons_self
    show y.length + 1 + room ws ≤ (ws.length + 1) * (n + 1)
    rw [Nat.add_mul]
    omega
theorem n2_ok : ∀ x ∈ (["a", "r"] : List Str), nameOk x = true := by decide +kernel
def StP (ns : List Nat) (i : Nat) (ys : List V) (σ1 : St) (H' : Hp) : Prop := ys = ((ns.take i).map numS).map V.str ∧ ∃ v0, σ1 = [v0]
theorem ok_good (D : DefAt K mg "_law_any_good" s__law_any_good ["number", "far"]) (hstr : mg "str" = none) (hrange : mg "range" = none) (hmax : mg "max" = none) : OkD P w K mg base 1 "_law_any_good" ["number", "far"] spGood := by
  refine D.ok sc__law_any_good (fun vs H Q E h => ?_) (fun f cdv A outer s H vs Q E hr h => ?_)
  · obtain ⟨_, _, rfl, _⟩ := h; rfl
  obtain ⟨n, far, rfl, n0, n1, f0, f1, q⟩ := h
  have big : 2000000 ≤ sizeLine := by unfold sizeLine; decide
  refine ⟨_, (pss_cons (ps_set (i := 2) sc__law_any_good.nd rfl (Or.inl rfl) (pe_ix ix_g (pe_lstG (pa_c pe_str (pa_c pe_str (pa_c pe_str (pa_c pe_str pa_nil))))) (pe_op op_mod (pv 0) pe_int) (fun _ _ => rfl)))
  (pss_cons (ps_if (pt_cmpR op_eq (pe_op op_mod (pv 1) pe_int) pe_int (nomark _))
  (pss_cons (ps_set (i := 3) sc__law_any_good.nd rfl (Or.inl rfl) (pe_ix ix_g (pe_lstG (pa_c pe_int (pa_c pe_int (pa_c pe_int (pa_c (pe_op op_add pe_int (pe_op op_mod (pe_op op_fdiv (pv 1) pe_int) pe_int)) (pa_c pe_int pa_nil)))))) (pe_op op_mod (pe_op op_fdiv (pv 1) pe_int) pe_int) (fun _ _ => rfl)))
  (pss_one (ps_ret (pe_lstG (pa_c (pe_op op_add_str (pe_op op_add_str (pe_op op_add_str pe_str (pv 2)) pe_str) (pe_cTy call_str_int rfl hstr (by decide +kernel) (pa_c (pv 3) pa_nil))) (pa_c pe_str (pa_c (pv 2) (pa_c (pe_chain op_le op_le pe_int (pv 3) pe_int) pa_nil))))))))
  pss_nil)
  (pss_cons (ps_if (pt_cmpR op_eq (pe_op op_mod (pv 1) pe_int) pe_int (nomark _))
  (pss_cons (ps_set (i := 4) sc__law_any_good.nd rfl (Or.inl rfl) (pe_ix ix_g (pe_lstG (pa_c pe_int (pa_c pe_int (pa_c pe_int (pa_c pe_int (pa_c (pe_op op_add pe_int (pe_op op_mod (pe_op op_fdiv (pv 1) pe_int) pe_int)) pa_nil)))))) (pe_op op_mod (pe_op op_fdiv (pv 1) pe_int) pe_int) (fun _ _ => rfl)))
  (pss_cons (ps_set (i := 5) sc__law_any_good.nd rfl (Or.inl rfl) (pe_ix ix_g (pe_lstG (pa_c pe_int (pa_c (pv 4) (pa_c (pe_op op_add (pv 4) pe_int) (pa_c (pe_op op_mod (pe_op op_fdiv (pv 1) pe_int) pe_int) pa_nil))))) (pe_op op_mod (pe_op op_fdiv (pv 1) pe_int) pe_int) (fun _ _ => rfl)))
  (pss_one (ps_ret (pe_lstG (pa_c (pe_op op_add_str (pe_op op_add_str (pe_op op_add_str (pe_op op_add_str (pe_op op_add_str pe_str (pv 2)) pe_str) (pe_cTy call_str_int rfl hstr (by decide +kernel) (pa_c (pv 5) pa_nil))) pe_str) (pe_cTy call_str_int rfl hstr (by decide +kernel) (pa_c (pv 4) pa_nil))) (pa_c pe_str (pa_c (pv 2) (pa_c (pe_and (pe_cmpR op_le (pv 5) (pv 4) (nomark _)) (pe_one (pe_chain op_le op_le pe_int (pv 4) pe_int))) pa_nil)))))))))
  pss_nil)
  (pss_cons (ps_setCN (i := 6) sc__law_any_good.nd rfl (Or.inl rfl) (comp_scopeN 1 (N := ["j", "far"]) (cap := [1]) rfl rfl rfl rfl (by decide +kernel) rfl rfl rfl) rfl (pi_range1 rfl hrange (pa_c (pe_op op_add pe_int (pe_op op_mod (pe_op op_fdiv (pv 1) pe_int) pe_int)) pa_nil)) (fun _ _ _ _ => (pg_name (i := 0) (show List.Nodup (α := Str) ["j", "far"] by decide +kernel) rfl (Or.inl (lookup_relabel_local rfl)) (Or.inr (lookup_relabel_local rfl)))) (fun _ _ _ _ => pts_nil) (fun _ _ _ _ => (pe_ix ix_g (pe_lstG (pa_c pe_int (pa_c pe_int (pa_c pe_int (pa_c pe_int pa_nil))))) (pe_op op_mod (pe_op op_fdiv (pv 1) (pe_op op_add pe_int (pv 0))) pe_int) (fun _ _ => rfl))))
  (pss_cons (ps_set (i := 7) sc__law_any_good.nd rfl (Or.inl rfl) (pe_op op_catG (pe_lstG (pa_c pe_str (pa_c (pe_ix ix_g (pe_lstG (pa_c pe_str (pa_c pe_str pa_nil))) (pe_op op_mod (pv 0) pe_int) (fun _ _ => rfl)) pa_nil))) (pe_compN (comp_scopeN 1 (N := ["one"]) (cap := []) rfl rfl rfl rfl (by decide +kernel) rfl rfl rfl) rfl (pi_list (pv 6)) (fun _ _ _ _ => (pg_name (i := 0) (show List.Nodup (α := Str) ["one"] by decide +kernel) rfl (Or.inl (lookup_relabel_local rfl)) (Or.inr (lookup_relabel_local rfl)))) (fun _ _ _ _ => pts_nil) (fun _ _ _ _ => (pe_cTy call_str_int rfl hstr (by decide +kernel) (pa_c (pv 0) pa_nil))))))
  (pss_one (ps_ret (pe_lstG (pa_c (pe_join pe_str (pv 7)) (pa_c pe_str (pa_c (pe_ix ix_g (pv 7) pe_int (fun _ _ => rfl)) (pa_c (pe_cmpR op_lt (pe_cB (call_maxL rfl) rfl hmax (by decide +kernel) (pa_c (pv 6) pa_nil)) pe_int (nomark _)) pa_nil)))))))))))), ?_⟩
  walk_at "rz"
  intro p1 H1 hp1 g1 h1
  walk_at "rz"
  obtain ⟨nm, en, mn⟩ := pickS (l := ["a", "ab", "abc", "b"]) (i := n % 4) (by omega) (by simp; omega)
  refine ⟨_, en, ?_⟩
  have nk := n4_ok nm mn
  clear en mn h1
  walk_at "rz"
  refine ite2 (fun c1 => ?_) fun c1 => ?_
  · clear c1
    walk_at "rz"
    intro p2 H2 hp2 g2 h2
    walk_at "rz"
    obtain ⟨k, ek, mk⟩ := pickI (l := [0, 9, 10, 1 + far / 3 % 9, 999999]) (i := far / 27 % 5) (by omega) (by simp; omega)
    refine ⟨_, ek, ?_⟩
    have kb : 0 ≤ k ∧ k < 1000000 := by
      simp only [List.mem_cons, List.not_mem_nil, or_false] at mk
      omega
    obtain ⟨k, rfl⟩ := Int.eq_ofNat_of_zero_le kb.1
    clear ek mk h2
    have kb2 : k < 1000000 := by omega
    have l1 : (Str.ofString "tool ").length = 5 := by decide +kernel
    have l2 : (Str.ofString " ").length = 1 := by decide +kernel
    have l3 := (num_len (k := k) (by omega)).2
    have l4 := name_len nk
    walk_at "rz"
    repeat (refine ⟨by first | omega | (simp only [cat_len, l1, l2]; omega) | with_reducible exact log_m kb2, ?_⟩; try walk_at "rz")
    have tr := tool_row nk kb2
    rw [← row3] at tr
    have fin : ∀ p3 H3 (b : Bool), b = okB (.tool nm k) → H2 p3 = none → Same H2 H3 → H3 p3 = some (.lst [.str (Str.ofString "tool " ++ nm ++ Str.ofString " " ++ Str.ofString (toString (k : Int))), .str (Str.ofString "tool"), .str nm, .bl b]) → Q (.ref p3) H3 := fun p3 H3 b eb hp3 g3 h3 => by
      rw [eb, show Str.ofString "tool " = Str.ofString "tool" ++ ⟨#[32]⟩ by decide +kernel, sp32] at h3
      exact q _ _ p3 H3 tr.1 tr.2 (name_asc nk) ((g1.trans g2).free hp3) ((g1.trans g2).trans g3) h3
    clear tr q
    refine ite2 (fun c => ?_) fun c => ?_
    · have c' := PLift.up c
      clear c
      walk_at "rz"
      exact fun p3 H3 hp3 g3 h3 => fin p3 H3 _ (by simp [okB, fitR, c'.down]) hp3 g3 h3
    · have c' := PLift.up c
      clear c
      walk_at "rz"
      exact fun p3 H3 hp3 g3 h3 => fin p3 H3 _ (by simp [okB, fitR, c'.down]) hp3 g3 h3
  · walk_at "rz"
    refine ite2 (fun c2 => ?_) fun c2 => ?_
    · clear c1 c2
      walk_at "rz"
      intro p2 H2 hp2 g2 h2
      walk_at "rz"
      obtain ⟨k, ek, mk⟩ := pickI (l := [0, 1, 999, 1000, 1 + far / 3 % 50]) (i := far / 150 % 5) (by omega) (by simp; omega)
      refine ⟨_, ek, ?_⟩
      have kb : 0 ≤ k ∧ k < 10000 := by
        simp only [List.mem_cons, List.not_mem_nil, or_false] at mk
        omega
      clear ek mk h2
      walk_at "rz"
      intro p3 H3 hp3 g3 h3
      walk_at "rz"
      obtain ⟨j, ej, mj⟩ := pickI (l := [0, k, k + 1, far / 3 % 60]) (i := far / 750 % 4) (by omega) (by simp; omega)
      refine ⟨_, ej, ?_⟩
      have jb : 0 ≤ j ∧ j < 100000 := by
        simp only [List.mem_cons, List.not_mem_nil, or_false] at mj
        omega
      obtain ⟨k, rfl⟩ := Int.eq_ofNat_of_zero_le kb.1
      obtain ⟨j, rfl⟩ := Int.eq_ofNat_of_zero_le jb.1
      clear ej mj h3
      have kb2 : k < 1000000 := by omega
      have jb2 : j < 1000000 := by omega
      have l1 : (Str.ofString "store ").length = 6 := by decide +kernel
      have l2 : (Str.ofString " ").length = 1 := by decide +kernel
      have l3 := (num_len (k := k) (by omega)).2
      have l5 := (num_len (k := j) (by omega)).2
      have l4 := name_len nk
      walk_at "rz"
      repeat (refine ⟨by first | omega | (simp only [cat_len, l1, l2]; omega) | with_reducible exact log_m kb2 | with_reducible exact log_m jb2, ?_⟩; try walk_at "rz")
      have tr := store_row nk jb2 kb2
      rw [← row4] at tr
      have g13 := g1.trans (g2.trans g3)
      have fin : ∀ p4 H4 (b : Bool), b = okB (.store nm j k) → H3 p4 = none → Same H3 H4 → H4 p4 = some (.lst [.str (Str.ofString "store " ++ nm ++ Str.ofString " " ++ Str.ofString (toString (j : Int)) ++ Str.ofString " " ++ Str.ofString (toString (k : Int))), .str (Str.ofString "store"), .str nm, .bl b]) → Q (.ref p4) H4 := fun p4 H4 b eb hp4 g4 h4 => by
        rw [eb, show Str.ofString "store " = Str.ofString "store" ++ ⟨#[32]⟩ by decide +kernel, sp32] at h4
        exact q _ _ p4 H4 tr.1 tr.2 (name_asc nk) (g13.free hp4) (g13.trans g4) h4
      clear tr q
      refine ite2 (fun c => ?_) fun c => ?_
      · have c' := PLift.up c
        clear c
        walk_at "rz"
        refine ite2 (fun d => ?_) fun d => ?_
        · have d' := PLift.up d
          clear d
          walk_at "rz"
          exact fun p4 H4 hp4 g4 h4 => fin p4 H4 _ (by simp [okB, fitR, c'.down, d'.down]) hp4 g4 h4
        · have d' := PLift.up d
          clear d
          walk_at "rz"
          exact fun p4 H4 hp4 g4 h4 => fin p4 H4 _ (by simp [okB, fitR, c'.down, d'.down]) hp4 g4 h4
      · have c' := PLift.up c
        clear c
        walk_at "rz"
        exact fun p4 H4 hp4 g4 h4 => fin p4 H4 _ (by simp [okB, fitR, c'.down]) hp4 g4 h4
    · clear c1 c2
      walk_at "rz"
      refine tcomp_in ?_
      simp only [iRng1]
      walk_at "rz"
      refine ⟨by omega, by omega, ?_⟩
      refine compJ_range (n := (1 + far / 12 % 20).toNat) (by omega) (GnP far) (fun H' _ => ⟨⟨[], rfl, fun n z => absurd z List.not_mem_nil⟩, rfl, _, rfl⟩) ?_ ?_
      · rintro D i ys σ1 H2 hi at1 ⟨⟨ns, rfl, nb⟩, li, v0, rfl⟩
        walk_at "rz"
        intro p3 H3 hp3 g3 h3
        walk_at "rz"
        have di : (0 : Int) < 3 + i := by omega
        have fd : 0 ≤ far / (3 + (i : Int)) := Int.ediv_nonneg f0 (by omega)
        refine ⟨di, by omega, ?_⟩
        walk_at "rz"
        obtain ⟨k, ek, mk⟩ := pickI (l := [0, 999, 5, 1000]) (i := far / (3 + (i : Int)) % 4) (by omega) (by simp; omega)
        refine ⟨_, ek, ?_⟩
        have kb : 0 ≤ k ∧ k ≤ 1000 := by
          simp only [List.mem_cons, List.not_mem_nil, or_false] at mk
          omega
        obtain ⟨k, rfl⟩ := Int.eq_ofNat_of_zero_le kb.1
        refine at1.put g3 fun H5 mu => ⟨⟨ns ++ [k], by simp, fun n hn => ?_⟩, by simp at li ⊢; exact li, _, rfl⟩
        rcases List.mem_append.mp hn with z | z
        · exact nb n z
        · rw [List.mem_singleton.mp z]; omega
      · rintro D ys σ1 H2 hD g2 hy hle ⟨⟨ns, rfl, nb⟩, li, v0, rfl⟩
        have ln : 1 ≤ ns.length ∧ ns.length ≤ 20 := by rw [List.length_map] at li; omega
        clear li hle
        intro p3 H3 hp3 g3 h3
        have hy3 := PLift.up (g3 _ _ hy)
        clear hy
        walk_at "rz"
        obtain ⟨rn, er, mr⟩ := pickS (l := ["a", "r"]) (i := n % 2) (by omega) (by simp; omega)
        refine ⟨_, er, ?_⟩
        have rk := n2_ok rn mr
        clear er mr h3 nk
        walk_at "rz"
        intro p4 H4 hp4 g4 h4
        have hy4 := PLift.up (g4 _ _ hy3.down)
        have h4' := PLift.up h4
        clear h4 hy3
        walk_at "rz"
        refine tcomp_in ?_
        simp only [iList]
        walk_at "rz"
        refine ⟨⟨_, SqL.of hy4.down⟩, compJ_list hy4.down (by simp; omega) (StP ns) (fun H' _ => ⟨rfl, _, rfl⟩) ?_ ?_⟩
        · rintro D' i v ys' σ1 H5 hx at5 ⟨rfl, v1, rfl⟩
          rw [List.getElem?_map] at hx
          obtain ⟨k, hk, rfl⟩ := Option.map_eq_some_iff.mp hx
          have kb := nb k (List.mem_of_getElem? hk)
          walk_at "rz"
          refine ⟨log_k kb, ?_⟩
          refine at5.put (Same.refl _) fun H6 mu => ⟨?_, _, rfl⟩
          rw [take_snoc hk]
          simp [numS]
        · rintro D' ys' σ1 H5 hD' g5 hy5 hle ⟨rfl, v1, rfl⟩
          rw [List.length_map, List.take_of_length_le (Nat.le_refl _)] at hy5
          refine ⟨D', rfl, _, _, g5 _ _ h4'.down, hy5, by simp; omega, fun p6 H6 hp6 g6 h6 => ?_⟩
          have h6' : H6 p6 = some (.lst ((Str.ofString "row" :: rn :: ns.map numS).map V.str)) := h6
          have hy6 := PLift.up (g6 _ _ (g5 _ _ hy4.down))
          clear h6 hy5 hy4 h4'
          have h6w := PLift.up h6'
          walk_at "rz"
          have tr := row_row rk (ns := ns) (fun z => by rw [z] at ln; simp at ln) ln.2 (fun n hn => by have := nb n hn; omega)
          have rl := name_len rk
          have rm : room (Str.ofString "row" :: rn :: ns.map numS) ≤ 3000000 := by
            have := room_le (n := 8) (ws := Str.ofString "row" :: rn :: ns.map numS) fun y hy => by
              simp only [List.mem_cons, List.mem_map] at hy
              rcases hy with rfl | rfl | ⟨k, hk, rfl⟩
              · decide +kernel
              · exact rl
              · have := (num_len (k := k) (by have := nb k hk; omega)).2
                unfold numS; omega
            rw [List.length_cons, List.length_cons, List.length_map] at this
            omega
          refine ⟨Str.ofString "row" :: rn :: ns.map numS, rfl, joinOk_room (by decide +kernel) rm, ?_⟩
          rw [tjoin, sp32]
          walk_at "rz"
          refine ⟨ns.map Int.ofNat, by rw [hy6.down, List.map_map]; rfl, by rw [List.length_map]; omega, fun M mM mx => ?_⟩
          walk_at "rz"
          intro p7 H7 hp7 g7 h7
          have g06 := g1.trans (g2.trans (g3.trans (g4.trans (g5.trans g6))))
          refine q _ _ p7 H7 tr.1 tr.2 (name_asc rk) (g06.free hp7) (g06.trans g7) ?_
          have eb : okB (.row rn (ns.map Int.ofNat)) = decide (M < 1000) := by
            show decide (∀ n ∈ ns.map Int.ofNat, n ≤ 999) = _
            by_cases c : M < 1000
            · rw [decide_eq_true c, decide_eq_true fun n hn => by have := mx n hn; omega]
            · rw [decide_eq_false c, decide_eq_false fun z => c (by have := z M mM; omega)]
          rw [h7, eb]
          rfl
end
end K09
namespace K09
open PySem L2
theorem rpl_strs {K : PySem.W.Frag} {H : Hp} : ∀ ss : List Str, RpL K H (ss.map V.str) (ss.map PyData.str)
  | [] => .nil
  | s :: ss => .cons (.str s) (rpl_strs ss)
theorem depth_strs : ∀ ss : List Str, PyData.depthAll (ss.map PyData.str) ≤ 1
  | [] => Nat.zero_le _
  | s :: ss => by
    have := depth_strs ss
    simp only [List.map_cons, PyData.depthAll, PyData.depth]
    omega
theorem asc_ok {x : Str} (h : asc x) : PyData.strOk x = true := by
  unfold PyData.strOk
  rw [← Array.all_toList, List.all_eq_true]
  intro c hc
  have := h c hc
  exact decide_eq_true (by omega)
theorem shaped_strs {ss : List Str} (h : ∀ x ∈ ss, asc x) : SeqAt.shaped (.list (ss.map PyData.str)) = true := by
  unfold SeqAt.shaped
  have e : PyData.canLay0 (.list (ss.map PyData.str)) = ss.all PyData.strOk := by
    simp only [PyData.canLay0]
    exact PyProof.Rows.canLayAll_strs' ss
  have d := depth_strs ss
  rw [e, List.all_eq_true.mpr fun x hx => asc_ok (h x hx), Bool.true_and, decide_eq_true_eq]
  simp only [PyData.depth]
  omega
theorem eqv_nil {ss : List Str} : PyData.eqv (.list (ss.map PyData.str)) (.list []) = ss.isEmpty := by
  cases ss <;> simp [PyData.eqv, PyData.eqvAll]
theorem str_ne {K : PySem.W.Frag} {H : Hp} {a p : Addr} {ss : List Str} {Kx : VK} (ha : H a = some (.lst (ss.map V.str))) (ok : ∀ x ∈ ss, asc x) (hp : H p = some (.lst [])) (k : Kx (.bl (!ss.isEmpty)) H) : rNeD K (.ref a) (.ref p) H Kx := by
  refine ⟨_, .list [], .lst ha (rpl_strs ss), .lst hp .nil, shaped_strs ok, by decide, ?_⟩
  rw [eqv_nil]
  exact k
theorem str_eq {K : PySem.W.Frag} {H : Hp} {a p : Addr} {ss : List Str} {Kx : VK} (ha : H a = some (.lst (ss.map V.str))) (ok : ∀ x ∈ ss, asc x) (hp : H p = some (.lst [])) (k : Kx (.bl ss.isEmpty) H) : rEqD K (.ref a) (.ref p) H Kx := by
  refine ⟨_, .list [], .lst ha (rpl_strs ss), .lst hp .nil, shaped_strs ok, by decide, ?_⟩
  rw [eqv_nil]
  exact k
theorem ins_strs {ns : List Str} {k : Nat} {x : Str} : insL (ns.map V.str) k (.str x) = (ns.take k ++ x :: ns.drop k).map V.str := by
  unfold insL
  rw [List.map_append, List.map_cons, List.map_take, List.map_drop]
theorem n6_ok : ∀ x ∈ (["go", "goes", "a", "ago", "g", "og"] : List Str), nameOk x = true := by decide +kernel
section
variable {P : Program} {w : World} {K : PySem.W.Frag} {mg : Str → Option Value} {base : Heap}
def spHand : Sp := fun vs H Q _ => ∃ n : Int, vs = [.int n] ∧ 0 ≤ n ∧ n < 2 ^ 28 ∧ RowQ H Q
def HnP (n : Int) (H : Hp) (σ : St) (H' : Hp) : Prop := ∃ (p : Addr) (ns : List Str), σ = [some (.int n), some (.ref p), none] ∧ Same H H' ∧ H' p = some (.lst (ns.map V.str)) ∧ ns.length ≤ 4 ∧ ∀ x ∈ ns, nameOk x = true
theorem ok_hand (D : DefAt K mg "_law_any_hand" s__law_any_hand ["number"]) (hlen : mg "len" = none) (hset : mg "set" = none) : OkD P w K mg base 1 "_law_any_hand" ["number"] spHand := by
  refine D.ok sc__law_any_hand (fun vs H Q E h => ?_) (fun f cdv A outer s H vs Q E hr h => ?_)
  · obtain ⟨_, rfl, _⟩ := h; rfl
  obtain ⟨n, rfl, n0, n1, q⟩ := h
  have big : 2000000 ≤ sizeLine := by unfold sizeLine; decide
  have hu64 := hr.units
  refine ⟨_, (pss_cons (ps_set (i := 1) sc__law_any_hand.nd rfl (Or.inl rfl) (pe_slice sl_g (pe_lstG (pa_c pe_str (pa_c pe_str (pa_c pe_str pa_nil)))) po_none (po_some (pe_op op_mod (pv 0) pe_int))))
  (pss_cons (ps_up (ps_if (PW.pt (pw_and (pt_cmpR op_eq (pe_op op_mod (pe_op op_fdiv (pv 0) pe_int) pe_int) pe_int (nomark _)) (pw_and1 (pt_cmpR (op_neD hu64) (pv 1) (pe_lstG pa_nil) (nomark _)))))
  (pss_one (ps_expr (pe_bm PySem.F.plainAttrs_list PySem.F.slot_list_insert PySem.F.type_list_insert mt_insG (pv 1) (pa_c (pe_op op_mod (pe_op op_fdiv (pv 0) pe_int) (pe_op op_add (pe_cB call_lenG rfl hlen PySem.boot_len (pa_c (pv 1) pa_nil)) pe_int)) (pa_c (pe_ix ix_g (pv 1) (pe_op op_mod (pe_op op_fdiv (pv 0) pe_int) (pe_cB call_lenG rfl hlen PySem.boot_len (pa_c (pv 1) pa_nil))) (fun _ _ => rfl)) pa_nil)))))
  pss_nil))
  (pss_cons (ps_set (i := 1) sc__law_any_hand.nd rfl (Or.inl rfl) (pe_slice sl_g (pv 1) po_none (po_some pe_int)))
  (pss_cons (ps_set (i := 2) sc__law_any_hand.nd rfl (Or.inl rfl) (pe_ix ix_g (pe_lstG (pa_c pe_str (pa_c pe_str (pa_c pe_str (pa_c pe_str (pa_c pe_str (pa_c pe_str pa_nil))))))) (pe_op op_mod (pe_op op_fdiv (pv 0) pe_int) pe_int) (fun _ _ => rfl)))
  (pss_one (ps_ret (pe_lstG (pa_c (pe_join pe_str (pe_op op_catG (pe_lstG (pa_c pe_str (pa_c (pv 2) pa_nil))) (pv 1))) (pa_c pe_str (pa_c (pv 2) (pa_c (pe_cmpR op_eq (pe_lenSet rfl rfl hlen rfl hset (pa_c (pv 1) pa_nil)) (pe_cB call_lenG rfl hlen PySem.boot_len (pa_c (pv 1) pa_nil)) (nomark _)) pa_nil))))))))))), ?_⟩
  walk_at "rz"
  intro p1 H1 hp1 g1 h1
  walk_at "rz"
  intro p2 H2 hp2 g2 h2
  obtain ⟨ns, en, l3, nk⟩ : ∃ ns : List Str, H2 p2 = some (.lst (ns.map V.str)) ∧ ns.length ≤ 3 ∧ ∀ x ∈ ns, nameOk x = true := by
    have c : n % 4 = 0 ∨ n % 4 = 1 ∨ n % 4 = 2 ∨ n % 4 = 3 := by omega
    rcases c with e | e | e | e
    · exact ⟨[], by rw [h2, e]; rfl, by decide, by decide +kernel⟩
    · exact ⟨["a"], by rw [h2, e]; rfl, by decide, by decide +kernel⟩
    · exact ⟨["a", "n"], by rw [h2, e]; rfl, by decide, by decide +kernel⟩
    · exact ⟨["a", "n", "q"], by rw [h2, e]; rfl, by decide, by decide +kernel⟩
  have en' := PLift.up en
  clear h1 h2 en
  walk_at "rz"
  have g12 := g1.trans g2
  refine ⟨HnP n H, ?_, ?_⟩
  · refine ite2 (fun c1 => ?_) fun c1 => ?_
    · clear c1
      walk_at "rz"
      intro p3 H3 hp3 g3 h3
      have en3 := PLift.up (g3 _ _ en'.down)
      refine str_ne en3.down (fun x hx => name_asc (nk x hx)) h3 ?_
      clear h3
      cases ns with
      | nil =>
        walk_at "rz"
        exact ⟨p2, [], rfl, g12.trans g3, en3.down, by omega, nk⟩
      | cons n0 ns =>
        have en4 := en3.down
        walk_at "rz"
        rw [show (!(n0 :: ns).isEmpty) = true from rfl]
        refine iteT ?_
        walk_at "rz"
        refine ⟨⟨_, SqL.of en4⟩, ?_⟩
        have lm : ((n0 :: ns).map V.str).length = (n0 :: ns).length := List.length_map ..
        have lp : 1 ≤ (n0 :: ns).length := by rw [List.length_cons]; omega
        generalize n0 :: ns = xs at en4 lm lp l3 nk
        have d24 : 0 ≤ n / 24 % ((xs.length : Int) + 1) := Int.emod_nonneg _ (by omega)
        have e24 : n / 24 % ((xs.length : Int) + 1) < xs.length + 1 := Int.emod_lt_of_pos _ (by omega)
        have d96 : 0 ≤ n / 96 % (xs.length : Int) := Int.emod_nonneg _ (by omega)
        have e96 : n / 96 % (xs.length : Int) < xs.length := Int.emod_lt_of_pos _ (by omega)
        walk_at "rz"
        refine ⟨by omega, ?_⟩
        walk_at "rz"
        refine ⟨by omega, ?_⟩
        walk_at "rz"
        obtain ⟨y, ey, my⟩ := pickS d96 e96
        refine ⟨_, ey, ?_⟩
        clear ey
        walk_at "rz"
        refine ⟨by omega, by omega, fun H4 mu => ⟨p2, xs.take (n / 24 % ((xs.length : Int) + 1)).toNat ++ y :: xs.drop (n / 24 % ((xs.length : Int) + 1)).toNat, rfl, ?_, ?_, ?_, ?_⟩⟩
        · exact mu.same (g12.trans g3) (g1.free hp2)
        · rw [mu.at_, ins_strs]
        · simp only [List.length_append, List.length_cons, List.length_take, List.length_drop]; omega
        · intro x hx
          rcases List.mem_append.mp hx with z | z
          · exact nk x (List.mem_of_mem_take z)
          · rcases List.mem_cons.mp z with rfl | z
            · exact nk _ my
            · exact nk x (List.mem_of_mem_drop z)
    · clear c1
      walk_at "rz"
      exact ⟨p2, ns, rfl, g12, en'.down, by omega, nk⟩
  rintro σ' H' ⟨p, ns', rfl, g', h', l', k'⟩
  walk_at "rz"
  intro p3 H3 hp3 g3 h3
  have ex : cutV (ns'.map V.str) none (some 3) = (ns'.take 3).map V.str := by
    unfold cutV
    rw [HT.sIx_none, List.drop_zero, Nat.sub_zero, show HT.sIx (ns'.map V.str).length (ns'.map V.str).length (some 3) = min 3 (ns'.map V.str).length from HT.sIx_nat _ _ 3, List.map_take, List.length_map]
    by_cases c : 3 ≤ ns'.length
    · rw [Nat.min_eq_left c]
    · rw [Nat.min_eq_right (by omega), List.take_of_length_le (by rw [List.length_map]; exact Nat.le_refl _), List.take_of_length_le (by rw [List.length_map]; omega)]
  rw [ex] at h3
  have l3 : (ns'.take 3).length ≤ 3 := by rw [List.length_take]; omega
  have k3 : ∀ x ∈ ns'.take 3, nameOk x = true := fun x hx => k' x (List.mem_of_mem_take hx)
  generalize ns'.take 3 = ms at h3 l3 k3
  have h3w := PLift.up h3
  clear h' h3 ex
  walk_at "rz"
  intro p4 H4 hp4 g4 h4
  walk_at "rz"
  obtain ⟨nm, em, mm⟩ := pickS (l := ["go", "goes", "a", "ago", "g", "og"]) (i := n / 400 % 6) (by omega) (by simp; omega)
  refine ⟨_, em, ?_⟩
  have mk := n6_ok nm mm
  have h4w := PLift.up (g4 _ _ h3w.down)
  clear em mm h4
  walk_at "rz"
  intro p5 H5 hp5 g5 h5
  have h5w := g5 _ _ h4w.down
  have h5' : H5 p5 = some (.lst (([Str.ofString "hand", nm] : List Str).map V.str)) := h5
  clear h5
  walk_at "rz"
  have lm : (ms.map V.str).length = ms.length := List.length_map ..
  refine ⟨by omega, fun p6 H6 hp6 g6 h6 => ?_⟩
  have h6' : PLift (H6 p6 = some (.lst ((Str.ofString "hand" :: nm :: ms).map V.str))) := ⟨h6⟩
  have h6w := PLift.up (g6 _ _ h5w)
  clear h6 h5w h5'
  walk_at "rz"
  refine ⟨_, h6'.down, joinOk_room (by decide +kernel) ?_, ?_⟩
  · have := room_le (n := 8) (ws := Str.ofString "hand" :: nm :: ms) fun y hy => by
      simp only [List.mem_cons] at hy
      rcases hy with rfl | rfl | hy
      · decide +kernel
      · exact name_len mk
      · exact name_len (k3 y hy)
    rw [List.length_cons, List.length_cons] at this
    omega
  rw [tjoin, sp32]
  have tr := hand_row mk l3 k3
  walk_at "rz"
  refine ⟨ms, h6w.down, by omega, ?_⟩
  have h6v := h6w.down
  walk_at "rz"
  intro p7 H7 hp7 g7 h7
  have g06 := g'.trans (g3.trans (g4.trans (g5.trans g6)))
  refine q _ _ p7 H7 tr.1 tr.2 (name_asc mk) (g06.free hp7) (g06.trans g7) ?_
  have eo : decide (V.int ((nMet (fun i => ms.getD i (Str.ofString "")) ms.length : Nat) : Int) = V.int ((ms.map V.str).length : Nat)) = okB (.hand nm ms) := by
    show _ = decide ms.Nodup
    have nd := nMet_nodup ms
    rw [lm]
    by_cases c : ms.Nodup
    · rw [decide_eq_true c, decide_eq_true]
      exact congrArg (fun k : Nat => V.int (k : Int)) (nd.mpr c)
    · rw [decide_eq_false c, decide_eq_false]
      intro z
      injection z with z
      exact c (nd.mp (Int.ofNat.inj z))
  rw [h7, eo]
  rfl
def spAny : Sp := fun vs H Q _ => ∃ n : Int, vs = [.int n] ∧ RowQ H Q
theorem ok_any (D : DefAt K mg "_law_any_row" s__law_any_row ["cell"]) (G__law_stir : OkD P w K mg base 1 "_law_stir" ["cell", "k"] spStir) (G__law_any_good : OkD P w K mg base 1 "_law_any_good" ["number", "far"] spGood) (G__law_any_hand : OkD P w K mg base 1 "_law_any_hand" ["number"] spHand) : OkD P w K mg base 2 "_law_any_row" ["cell"] spAny := by
  refine D.ok sc__law_any_row (fun vs H Q E h => ?_) (fun f cdv A outer s H vs Q E hr h => ?_)
  · obtain ⟨_, rfl, _⟩ := h; rfl
  obtain ⟨n, rfl, q⟩ := h
  have big : 2000000 ≤ sizeLine := by unfold sizeLine; decide
  refine ⟨_, (pss_cons (ps_set (i := 1) sc__law_any_row.nd rfl (Or.inl rfl) (pe_def G__law_stir hr rfl (pa_c (pv 0) (pa_c pe_int pa_nil))))
  (pss_cons (ps_set (i := 2) sc__law_any_row.nd rfl (Or.inl rfl) (pe_def G__law_stir hr rfl (pa_c (pv 0) (pa_c pe_int pa_nil))))
  (pss_cons (ps_set (i := 3) sc__law_any_row.nd rfl (Or.inl rfl) (pe_op op_mod (pv 1) pe_int))
  (pss_cons (ps_if (pt_cmpR op_lt (pv 3) pe_int (nomark _))
  (pss_one (ps_ret (pe_def G__law_any_good hr rfl (pa_c (pe_op op_fdiv (pv 1) pe_int) (pa_c (pv 2) pa_nil)))))
  pss_nil)
  (pss_cons (ps_if (pt_cmpR op_lt (pv 3) pe_int (nomark _))
  (pss_one (ps_ret (pe_def G__law_any_hand hr rfl (pa_c (pv 2) pa_nil))))
  pss_nil)
  (pss_cons (ps_if (pt_cmpR op_lt (pv 3) pe_int (nomark _))
  (pss_one (ps_ret (pe_lstG (pa_c (pe_ix ix_g (pe_lstG (pa_c pe_str (pa_c pe_str (pa_c pe_str pa_nil)))) (pe_op op_mod (pv 2) pe_int) (fun _ _ => rfl)) (pa_c pe_str (pa_c pe_str (pa_c pe_bl pa_nil)))))))
  pss_nil)
  (pss_cons (ps_if (pt_cmpR op_eq (pv 3) pe_int (nomark _))
  (pss_one (ps_ret (pe_lstG (pa_c (pe_ix ix_g (pe_lstG (pa_c pe_str (pa_c pe_str pa_nil))) (pe_op op_mod (pv 2) pe_int) (fun _ _ => rfl)) (pa_c pe_str (pa_c pe_str (pa_c pe_bl pa_nil)))))))
  pss_nil)
  (pss_cons (ps_if (pt_cmpR op_eq (pv 3) pe_int (nomark _))
  (pss_one (ps_ret (pe_lstG (pa_c pe_str (pa_c pe_str (pa_c pe_str (pa_c pe_bl pa_nil)))))))
  pss_nil)
  (pss_cons (ps_if (pt_cmpR op_lt (pv 3) pe_int (nomark _))
  (pss_one (ps_ret (pe_lstG (pa_c pe_str (pa_c pe_str (pa_c pe_str (pa_c pe_bl pa_nil)))))))
  pss_nil)
  (pss_cons (ps_set (i := 4) sc__law_any_row.nd rfl (Or.inl rfl) (pe_lstG (pa_c pe_str (pa_c pe_str (pa_c pe_str (pa_c pe_str (pa_c pe_str (pa_c pe_str (pa_c pe_str (pa_c pe_str (pa_c pe_str pa_nil)))))))))))
  (pss_one (ps_ret (pe_lstG (pa_c (pe_ix ix_g (pe_op op_catG (pv 4) (pe_lstG (pa_c pe_str pa_nil))) (pe_op op_mod (pv 2) pe_int) (fun _ _ => rfl)) (pa_c pe_str (pa_c pe_str (pa_c pe_bl pa_nil))))))))))))))))), ?_⟩
  walk_at "rz"
  refine ⟨n, 80, rfl, by decide, by decide, fun m m0 m1 => ?_⟩
  walk_at "rz"
  refine ⟨n, 81, rfl, by decide, by decide, fun far f0 f1 => ?_⟩
  walk_at "rz"
  have one : ∀ {t : Str} {r : Rw} {H1 : Hp}, Same H H1 → isB t r = true → nameS r = Str.ofString "" → okB r = true → ∀ p H', H1 p = none → Same H1 H' → H' p = some (.lst [.str t, .str (kindS r), .str (Str.ofString ""), .bl true]) → Q (.ref p) H' := fun g1 h en eo p H' hp g h' => by
    obtain ⟨a, b⟩ := isB_of h
    exact q _ _ p H' a b (by rw [en]; exact fun c hc => absurd hc (by decide +kernel +revert)) (g1.free hp) (g1.trans g) (by rw [h', en, eo])
  refine ite2 (fun c1 => ?_) fun c1 => ?_
  · clear c1
    walk_at "rz"
    exact ⟨m / 16, far, rfl, by omega, by omega, f0, f1, q⟩
  walk_at "rz"
  refine ite2 (fun c2 => ?_) fun c2 => ?_
  · clear c1 c2
    walk_at "rz"
    exact ⟨far, rfl, f0, f1, q⟩
  walk_at "rz"
  refine ite2 (fun c3 => ?_) fun c3 => ?_
  · clear c1 c2 c3
    walk_at "rz"
    intro p1 H1 hp1 g1 h1
    walk_at "rz"
    obtain ⟨x, ex, mx⟩ := pickS (l := ["if a < 2", "if n = 1", "if now < own"]) (i := far % 3) (by omega) (by simp; omega)
    refine ⟨_, ex, ?_⟩
    have ix := if_rows x mx
    clear ex mx h1
    walk_at "rz"
    exact fun p H' hp g h' => one (r := .iff) g1 ix rfl rfl p H' hp g h'
  walk_at "rz"
  refine ite2 (fun c4 => ?_) fun c4 => ?_
  · clear c1 c2 c3 c4
    walk_at "rz"
    intro p1 H1 hp1 g1 h1
    walk_at "rz"
    obtain ⟨x, ex, mx⟩ := pickS (l := ["while a < 2", "while 1 = 1"]) (i := far % 2) (by omega) (by simp; omega)
    refine ⟨_, ex, ?_⟩
    have ix := while_rows x mx
    clear ex mx h1
    walk_at "rz"
    exact fun p H' hp g h' => one (r := .whl) g1 ix rfl rfl p H' hp g h'
  walk_at "rz"
  refine ite2 (fun c5 => ?_) fun c5 => ?_
  · clear c1 c2 c3 c4 c5
    walk_at "rz"
    exact fun p H' hp g h' => one (r := .els) (Same.refl _) else_row rfl rfl p H' hp g h'
  walk_at "rz"
  refine ite2 (fun c6 => ?_) fun c6 => ?_
  · clear c1 c2 c3 c4 c5 c6
    walk_at "rz"
    exact fun p H' hp g h' => one (r := .fin) (Same.refl _) end_row rfl rfl p H' hp g h'
  clear c1 c2 c3 c4 c5 c6
  walk_at "rz"
  refine ⟨by omega, ?_⟩
  intro p1 H1 hp1 g1 h1
  walk_at "rz"
  intro p2 H2 hp2 g2 h2
  have h12 := g2 _ _ h1
  clear h1
  walk_at "rz"
  refine ⟨by omega, fun p3 H3 hp3 g3 h3 => ?_⟩
  have h3' : H3 p3 = some (.lst ((["wait 1", "take a 1", "give ab now", "put s 2", "get s own", "let a a", "draw a r", "say a 1", "start go 1", "stop"] : List Str).map V.str)) := h3
  clear h3 h12 h2
  walk_at "rz"
  obtain ⟨x, ex, mx⟩ := pickS (l := ["wait 1", "take a 1", "give ab now", "put s 2", "get s own", "let a a", "draw a r", "say a 1", "start go 1", "stop"]) (i := far % 10) (by omega) (by simp; omega)
  refine ⟨_, ex, ?_⟩
  have ix := plain_rows x mx
  clear ex mx h3'
  walk_at "rz"
  exact fun p H' hp g h' => one (r := .plain) (g1.trans (g2.trans g3)) ix rfl rfl p H' hp g h'
end
end K09
namespace K09
open PySem L2
structure Lw where
  st : Addr
  op : Addr
  dn : Addr
  t : Addr
  s : Addr
  r : Addr
  h : Addr
def Lw.all (c : Lw) : List Addr := [c.st, c.op, c.t, c.s, c.r, c.h]
def Lw.dict (c : Lw) : List (Key × V) := [(.inr "tool", .ref c.t), (.inr "store", .ref c.s), (.inr "row", .ref c.r), (.inr "hand", .ref c.h)]
structure LSt (H0 : Hp) (c : Lw) (z : Rs) (H : Hp) : Prop where
  same : Same H0 H
  st : H c.st = some (.lst [.ref c.op, .ref c.dn])
  dn : H c.dn = some (.dK c.dict)
  op : H c.op = some (.lst (z.fr.map V.str))
  t : H c.t = some (.lst (z.tn.map V.str))
  s : H c.s = some (.lst (z.sn.map V.str))
  r : H c.r = some (.lst (z.rn.map V.str))
  h : H c.h = some (.lst (z.hn.map V.str))
  nd : c.all.Nodup
  new : ∀ a ∈ c.all, H0 a = none
theorem Lw.ne {c : Lw} (n : c.all.Nodup) : (c.st ≠ c.op ∧ c.st ≠ c.t ∧ c.st ≠ c.s ∧ c.st ≠ c.r ∧ c.st ≠ c.h) ∧ (c.op ≠ c.t ∧ c.op ≠ c.s ∧ c.op ≠ c.r ∧ c.op ≠ c.h) ∧ (c.t ≠ c.s ∧ c.t ≠ c.r ∧ c.t ≠ c.h) ∧ (c.s ≠ c.r ∧ c.s ≠ c.h) ∧ c.r ≠ c.h := by
  simpa [Lw.all] using n
section
variable {H0 H H' : Hp} {c : Lw} {z : Rs}
theorem LSt.up (i : LSt H0 c z H) (g : Same H H') : LSt H0 c z H' := ⟨i.same.trans g, g _ _ i.st, g _ _ i.dn, g _ _ i.op, g _ _ i.t, g _ _ i.s, g _ _ i.r, g _ _ i.h, i.nd, i.new⟩
theorem dn_ne (i : LSt H0 c z H) {a : Addr} {xs : List V} (h : H a = some (.lst xs)) : c.dn ≠ a := fun e => by have := i.dn; rw [e, h] at this; cases this
theorem LSt.putO (i : LSt H0 c z H) {l : List Str} (m : Mu H c.op (.lst (l.map V.str)) H') : LSt H0 c { z with fr := l } H' := by
  obtain ⟨⟨a1, a2, a3, a4, a5⟩, ⟨b1, b2, b3, b4⟩, ⟨c1, c2, c3⟩, ⟨d1, d2⟩, e1⟩ := Lw.ne i.nd
  exact ⟨m.same i.same (i.new _ (by simp [Lw.all])), m.old i.st a1, m.old i.dn (dn_ne i i.op), m.at_, m.old i.t b1.symm, m.old i.s b2.symm, m.old i.r b3.symm, m.old i.h b4.symm, i.nd, i.new⟩
theorem LSt.putT (i : LSt H0 c z H) {l : List Str} (m : Mu H c.t (.lst (l.map V.str)) H') : LSt H0 c { z with tn := l } H' := by
  obtain ⟨⟨a1, a2, a3, a4, a5⟩, ⟨b1, b2, b3, b4⟩, ⟨c1, c2, c3⟩, ⟨d1, d2⟩, e1⟩ := Lw.ne i.nd
  exact ⟨m.same i.same (i.new _ (by simp [Lw.all])), m.old i.st a2, m.old i.dn (dn_ne i i.t), m.old i.op b1, m.at_, m.old i.s c1.symm, m.old i.r c2.symm, m.old i.h c3.symm, i.nd, i.new⟩
theorem LSt.putS (i : LSt H0 c z H) {l : List Str} (m : Mu H c.s (.lst (l.map V.str)) H') : LSt H0 c { z with sn := l } H' := by
  obtain ⟨⟨a1, a2, a3, a4, a5⟩, ⟨b1, b2, b3, b4⟩, ⟨c1, c2, c3⟩, ⟨d1, d2⟩, e1⟩ := Lw.ne i.nd
  exact ⟨m.same i.same (i.new _ (by simp [Lw.all])), m.old i.st a3, m.old i.dn (dn_ne i i.s), m.old i.op b2, m.old i.t c1, m.at_, m.old i.r d1.symm, m.old i.h d2.symm, i.nd, i.new⟩
theorem LSt.putR (i : LSt H0 c z H) {l : List Str} (m : Mu H c.r (.lst (l.map V.str)) H') : LSt H0 c { z with rn := l } H' := by
  obtain ⟨⟨a1, a2, a3, a4, a5⟩, ⟨b1, b2, b3, b4⟩, ⟨c1, c2, c3⟩, ⟨d1, d2⟩, e1⟩ := Lw.ne i.nd
  exact ⟨m.same i.same (i.new _ (by simp [Lw.all])), m.old i.st a4, m.old i.dn (dn_ne i i.r), m.old i.op b3, m.old i.t c2, m.old i.s d1, m.at_, m.old i.h e1.symm, i.nd, i.new⟩
theorem LSt.putH (i : LSt H0 c z H) {l : List Str} (m : Mu H c.h (.lst (l.map V.str)) H') : LSt H0 c { z with hn := l } H' := by
  obtain ⟨⟨a1, a2, a3, a4, a5⟩, ⟨b1, b2, b3, b4⟩, ⟨c1, c2, c3⟩, ⟨d1, d2⟩, e1⟩ := Lw.ne i.nd
  exact ⟨m.same i.same (i.new _ (by simp [Lw.all])), m.old i.st a5, m.old i.dn (dn_ne i i.h), m.old i.op b4, m.old i.t c3, m.old i.s d2, m.old i.r e1, m.at_, i.nd, i.new⟩
end
structure Zok (z : Rs) : Prop where
  hh : z.fr ≠ [] → z.hn ≠ []
  l6 : z.fr.length ≤ 6
  ak : ∀ x ∈ z.fr, asc x
  ah : ∀ x ∈ z.hn, asc x
  l1 : z.tn.length ≤ 200
  l2 : z.sn.length ≤ 200
  l3 : z.rn.length ≤ 200
  l4 : z.hn.length ≤ 200
theorem inV_strs {x : Str} (l : List Str) : inV (.str x) (l.map V.str) = decide (x ∈ l) := by
  induction l with
  | nil => rfl
  | cons y l ih =>
    rw [List.map_cons, inV_cons, ih, eqV_ss]
    by_cases e : y = x
    · simp [e]
    · have : ¬ x = y := fun z => e z.symm
      simp [e, this]
theorem flat_strs (l : List Str) : (l.map V.str).all flatV = true := by
  induction l with
  | nil => rfl
  | cons y l ih => rw [List.map_cons, List.all_cons, ih]; rfl
theorem in_strs {x : Str} {l : List Str} {p : Addr} {H : Hp} {Q : VK} (h : H p = some (.lst (l.map V.str))) (q : Q (.bl (decide (x ∈ l))) H) : rInG false (.str x) (.ref p) H Q :=
  ⟨p, _, rfl, .inr h, rfl, flat_strs l, by rw [if_neg (by decide), inV_strs]; exact q⟩
theorem dict_t (c : Lw) : valV c.dict (.inr "tool") = some (.ref c.t) := by with_unfolding_all rfl
theorem dict_s (c : Lw) : valV c.dict (.inr "store") = some (.ref c.s) := by with_unfolding_all rfl
theorem dict_r (c : Lw) : valV c.dict (.inr "row") = some (.ref c.r) := by with_unfolding_all rfl
theorem dict_h (c : Lw) : valV c.dict (.inr "hand") = some (.ref c.h) := by with_unfolding_all rfl
theorem lastD_snoc (l : List Str) (x : Str) : (l ++ [x]).getLastD "" = x := by simp
theorem at_lastD {l : List Str} (h : l.isEmpty = false) : atI (l.map V.str) (-1) = some (.str (l.getLastD "")) := by
  have ne : l ≠ [] := fun z => by rw [z] at h; cases h
  rw [← List.dropLast_concat_getLast ne, lastD_snoc, List.map_append]
  exact atI_last _ _
def outK (z : Rs) (k : Str) : Bool := if k ∈ (["tool", "store", "row"] : List Str) then (!z.fr.isEmpty || !z.hn.isEmpty) else if k = "hand" then !z.fr.isEmpty else if k = "else" then (z.fr.isEmpty || !decide (z.fr.getLastD "" = "if")) else z.fr.isEmpty
theorem outK_eq {z : Rs} (o : Zok z) (r : Rw) : outK z (kindS r) = outP z r := by
  have e : (!z.fr.isEmpty || !z.hn.isEmpty) = !z.hn.isEmpty := by
    cases h : z.hn.isEmpty with
    | false => simp
    | true =>
      have : z.fr = [] := by
        by_cases f : z.fr = []
        · exact f
        · exact absurd (List.isEmpty_iff.mp h) (o.hh f)
      rw [this]; rfl
  cases r with
  | tool nm n => exact (if_pos (show Str.ofString "tool" ∈ ([Str.ofString "tool", Str.ofString "store", Str.ofString "row"] : List Str) by decide +kernel)).trans e
  | store nm n m => exact (if_pos (show Str.ofString "store" ∈ ([Str.ofString "tool", Str.ofString "store", Str.ofString "row"] : List Str) by decide +kernel)).trans e
  | row nm ns => exact (if_pos (show Str.ofString "row" ∈ ([Str.ofString "tool", Str.ofString "store", Str.ofString "row"] : List Str) by decide +kernel)).trans e
  | hand nm ns => exact (if_neg (show ¬ Str.ofString "hand" ∈ ([Str.ofString "tool", Str.ofString "store", Str.ofString "row"] : List Str) by decide +kernel)).trans (if_pos rfl)
  | els => exact (if_neg (by decide +kernel)).trans ((if_neg (by decide +kernel)).trans (if_pos rfl))
  | _ => exact (if_neg (by decide +kernel)).trans ((if_neg (by decide +kernel)).trans (if_neg (by decide +kernel)))
section
variable {P : Program} {w : World} {K : PySem.W.Frag} {mg : Str → Option Value} {base : Heap}
def spOut : Sp := fun vs H Q _ => ∃ (H0 : Hp) (c : Lw) (z : Rs) (p : Addr) (t k nm : Str) (b : Bool), vs = [.ref c.st, .ref p] ∧ LSt H0 c z H ∧ Zok z ∧ H p = some (.lst [.str t, .str k, .str nm, .bl b]) ∧ ∀ H', Same H H' → Q (.bl (outK z k)) H'
theorem ok_out (D : DefAt K mg "_law_out_of_place" s__law_out_of_place ["state", "row"]) : OkD P w K mg base 1 "_law_out_of_place" ["state", "row"] spOut := by
  refine D.ok sc__law_out_of_place (fun vs H Q E h => ?_) (fun f cdv A outer s H vs Q E hr h => ?_)
  · obtain ⟨_, _, _, _, _, _, _, _, rfl, _⟩ := h; rfl
  obtain ⟨H0, c, z, p, t, k, nm, b, rfl, i, o, hp, q⟩ := h
  have big : 2000000 ≤ sizeLine := by unfold sizeLine; decide
  have hu64 := hr.units
  have hu := hu_of hr
  have hst := i.st
  refine ⟨_, (pss_cons (ps_asg (pv 0) (pg_lstG 2 rfl (pgs_cons (pg_name (i := 2) sc__law_out_of_place.nd rfl (Or.inl rfl)) (pgs_cons (pg_name (i := 3) sc__law_out_of_place.nd rfl (Or.inl rfl)) pgs_nil))))
  (pss_cons (ps_if (pt_cmpR op_inG (pe_ix ix_g (pv 1) pe_int (fun _ _ => rfl)) (pe_lstG (pa_c pe_str (pa_c pe_str (pa_c pe_str pa_nil)))) (by with_unfolding_all rfl))
  (pss_one (ps_ret (pe_or (pe_cmpR (op_neD hu64) (pv 2) (pe_lstG pa_nil) (nomark _)) (pe_one (pe_cmpR (op_neD hu64) (pe_dgetG hu (pv 3) pe_str (fun _ _ => rfl)) (pe_lstG pa_nil) (nomark _))))))
  pss_nil)
  (pss_cons (ps_if (pt_cmpR op_eq (pe_ix ix_g (pv 1) pe_int (fun _ _ => rfl)) pe_str (nomark _))
  (pss_one (ps_ret (pe_cmpR (op_neD hu64) (pv 2) (pe_lstG pa_nil) (nomark _))))
  pss_nil)
  (pss_cons (ps_if (pt_cmpR op_eq (pe_ix ix_g (pv 1) pe_int (fun _ _ => rfl)) pe_str (nomark _))
  (pss_one (ps_ret (pe_or (pe_cmpR (op_eqD hu64) (pv 2) (pe_lstG pa_nil) (nomark _)) (pe_one (pe_cmpR op_ne (pe_ix ix_g (pv 2) (pe_un un_neg pe_int) (fun _ _ => rfl)) pe_str (nomark _))))))
  pss_nil)
  (pss_one (ps_ret (pe_cmpR (op_eqD hu64) (pv 2) (pe_lstG pa_nil) (nomark _)))))))), ?_⟩
  walk_at "rz"
  intro p1 H1 hp1 g1 h1
  have hst1 := g1 _ _ hst
  have hpp1 := g1 _ _ hp
  have i1 := i.up g1
  have h1' := PLift.up h1
  clear hst hp h1
  walk_at "rz"
  have hop := PLift.up i1.op
  have hdn := PLift.up i1.dn
  have hhh := PLift.up i1.h
  refine ⟨_, .inr h1'.down, rfl, rfl, decide (k ∈ ([Str.ofString "tool", Str.ofString "store", Str.ofString "row"] : List Str)), congrArg V.bl (by rw [if_neg (by decide)]; exact inV_strs ["tool", "store", "row"]), ?_⟩
  by_cases c1 : k ∈ ([Str.ofString "tool", Str.ofString "store", Str.ofString "row"] : List Str)
  · rw [decide_eq_true c1]
    refine iteT ?_
    have ek : outK z k = (!z.fr.isEmpty || !z.hn.isEmpty) := if_pos c1
    rw [ek] at q
    clear c1 ek
    walk_at "rz"
    intro p2 H2 hp2 g2 h2
    refine str_ne (g2 _ _ hop.down) o.ak h2 ?_
    cases ee : z.fr.isEmpty with
    | false =>
      have q := q _ (g1.trans g2)
      rw [ee] at q
      clear h2
      walk_at "rz"
      exact q
    | true =>
      rw [ee, Bool.not_true, Bool.false_or] at q
      have hdn2 := g2 _ _ hdn.down
      have hh2 := PLift.up (g2 _ _ hhh.down)
      clear h2
      walk_at "rz"
      refine ⟨_, dict_h c, ?_⟩
      walk_at "rz"
      intro p3 H3 hp3 g3 h3
      refine str_ne (g3 _ _ hh2.down) o.ah h3 ?_
      exact q _ (g1.trans (g2.trans g3))
  · rw [decide_eq_false c1]
    refine iteF ?_
    walk_at "rz"
    refine ite2 (fun c2 => ?_) fun c2 => ?_
    · have ek : outK z k = !z.fr.isEmpty := (if_neg c1).trans (if_pos c2)
      rw [ek] at q
      clear c1 c2 ek
      walk_at "rz"
      intro p2 H2 hp2 g2 h2
      refine str_ne (g2 _ _ hop.down) o.ak h2 ?_
      exact q _ (g1.trans g2)
    · walk_at "rz"
      refine ite2 (fun c3 => ?_) fun c3 => ?_
      · have ek : outK z k = (z.fr.isEmpty || !decide (z.fr.getLastD "" = "if")) := (if_neg c1).trans ((if_neg c2).trans (if_pos c3))
        rw [ek] at q
        clear c1 c2 c3 ek
        walk_at "rz"
        intro p2 H2 hp2 g2 h2
        refine str_eq (g2 _ _ hop.down) o.ak h2 ?_
        cases ee : z.fr.isEmpty with
        | true =>
          have q := q _ (g1.trans g2)
          rw [ee] at q
          clear h2
          walk_at "rz"
          exact q
        | false =>
          have hop2 := g2 _ _ hop.down
          rw [ee, Bool.false_or] at q
          clear h2
          walk_at "rz"
          refine ⟨_, at_lastD ee, ?_⟩
          have q := q _ (g1.trans g2)
          walk_at "rz"
      · have ek : outK z k = z.fr.isEmpty := (if_neg c1).trans ((if_neg c2).trans (if_neg c3))
        rw [ek] at q
        clear c1 c2 c3 ek
        walk_at "rz"
        intro p2 H2 hp2 g2 h2
        refine str_eq (g2 _ _ hop.down) o.ak h2 ?_
        exact q _ (g1.trans g2)
end
end K09
namespace K09
open PySem L2
theorem dueP {z : Rs} (o : Zok z) {r : Rw} (h : outP z r = false) : dueR z r = if deepR z r then 3 else if !fitR r then 4 else if twiceR z r then 5 else 0 := by
  unfold dueR
  rw [if_neg (by rw [h]; exact Bool.false_ne_true)]
theorem v3 {z : Rs} {r : Rw} (h1 : deepR z r = true) : (if deepR z r then 3 else if !fitR r then 4 else if twiceR z r then 5 else 0) = 3 := if_pos h1
theorem v4 {z : Rs} {r : Rw} (h1 : deepR z r = false) (h2 : fitR r = false) : (if deepR z r then 3 else if !fitR r then 4 else if twiceR z r then 5 else 0) = 4 := by rw [h1, h2]; rfl
theorem v5 {z : Rs} {r : Rw} (h1 : deepR z r = false) (h2 : fitR r = true) (h3 : twiceR z r = true) : (if deepR z r then 3 else if !fitR r then 4 else if twiceR z r then 5 else 0) = 5 := by rw [h1, h2, h3]; rfl
theorem v0 {z : Rs} {r : Rw} (h1 : deepR z r = false) (h2 : fitR r = true) (h3 : twiceR z r = false) : (if deepR z r then 3 else if !fitR r then 4 else if twiceR z r then 5 else 0) = 0 := by rw [h1, h2, h3]; rfl
section
variable {P : Program} {w : World} {K : PySem.W.Frag} {mg : Str → Option Value} {base : Heap}
def spDue : Sp := fun vs H Q _ => ∃ (H0 : Hp) (c : Lw) (z : Rs) (p : Addr) (t : Str) (r : Rw), vs = [.ref c.st, .ref p] ∧ LSt H0 c z H ∧ Zok z ∧ H p = some (.lst [.str t, .str (kindS r), .str (nameS r), .bl (okB r)]) ∧ ∀ H', Same H H' → Q (.int (dueR z r : Nat)) H'
theorem ok_due (D : DefAt K mg "_law_due" s__law_due ["state", "row"]) (G__law_out_of_place : OkD P w K mg base 1 "_law_out_of_place" ["state", "row"] spOut) (hlen : mg "len" = none) (hint : mg "int" = none) : OkD P w K mg base 2 "_law_due" ["state", "row"] spDue := by
  refine D.ok sc__law_due (fun vs H Q E h => ?_) (fun f cdv A outer s H vs Q E hr h => ?_)
  · obtain ⟨_, _, _, _, _, _, rfl, _⟩ := h; rfl
  obtain ⟨H0, c, z, p, t, r, rfl, i, o, hp, q⟩ := h
  have big : 2000000 ≤ sizeLine := by unfold sizeLine; decide
  have hu := hu_of hr
  have hst := i.st
  have l6 := o.l6
  refine ⟨_, (pss_cons (ps_asg (pv 0) (pg_lstG 2 rfl (pgs_cons (pg_name (i := 2) sc__law_due.nd rfl (Or.inl rfl)) (pgs_cons (pg_name (i := 3) sc__law_due.nd rfl (Or.inl rfl)) pgs_nil))))
  (pss_cons (ps_if (pt_val (pe_def G__law_out_of_place hr rfl (pa_c (pv 0) (pa_c (pv 1) pa_nil))))
  (pss_one (ps_ret pe_int))
  pss_nil)
  (pss_cons (ps_if (PW.pt (pw_and (pt_cmpR op_inG (pe_ix ix_g (pv 1) pe_int (fun _ _ => rfl)) (pe_lstG (pa_c pe_str (pa_c pe_str pa_nil))) (by with_unfolding_all rfl)) (pw_and1 (pt_cmpR op_gt (pe_cB call_lenG rfl hlen PySem.boot_len (pa_c (pv 2) pa_nil)) pe_int (nomark _)))))
  (pss_one (ps_ret pe_int))
  pss_nil)
  (pss_cons (ps_if (PW.pt (pw_and (pt_cmpR op_inG (pe_ix ix_g (pv 1) pe_int (fun _ _ => rfl)) (pe_lstG (pa_c pe_str (pa_c pe_str (pa_c pe_str pa_nil)))) (by with_unfolding_all rfl)) (pw_and1 (pt_not (pt_val (pe_ix ix_g (pv 1) pe_int (fun _ _ => rfl)))))))
  (pss_one (ps_ret pe_int))
  pss_nil)
  (pss_cons (ps_if (pt_cmpR op_inG (pe_ix ix_g (pv 1) pe_int (fun _ _ => rfl)) (pe_lstG (pa_c pe_str (pa_c pe_str pa_nil))) (by with_unfolding_all rfl))
  (pss_one (ps_ret (pe_ix ix_g (pe_lstG (pa_c pe_int (pa_c pe_int pa_nil))) (pe_cTy call_intB rfl hint (by decide +kernel) (pa_c (pe_cmpR op_inG (pe_ix ix_g (pv 1) pe_int (fun _ _ => rfl)) (pe_op op_catG (pe_dgetG hu (pv 3) pe_str (fun _ _ => rfl)) (pe_dgetG hu (pv 3) pe_str (fun _ _ => rfl))) (by with_unfolding_all rfl)) pa_nil)) (fun _ _ => rfl))))
  pss_nil)
  (pss_cons (ps_if (pt_cmpR op_inG (pe_ix ix_g (pv 1) pe_int (fun _ _ => rfl)) (pe_lstG (pa_c pe_str (pa_c pe_str pa_nil))) (by with_unfolding_all rfl))
  (pss_one (ps_ret (pe_ix ix_g (pe_lstG (pa_c pe_int (pa_c pe_int pa_nil))) (pe_cTy call_intB rfl hint (by decide +kernel) (pa_c (pe_or (pe_cmpR op_inG (pe_ix ix_g (pv 1) pe_int (fun _ _ => rfl)) (pe_dgetG hu (pv 3) (pe_ix ix_g (pv 1) pe_int (fun _ _ => rfl)) (fun _ _ => rfl)) (by with_unfolding_all rfl)) (pe_one (pe_and (pe_cmpR op_eq (pe_ix ix_g (pv 1) pe_int (fun _ _ => rfl)) pe_str (nomark _)) (pe_one (pe_not (pe_ix ix_g (pv 1) pe_int (fun _ _ => rfl))))))) pa_nil)) (fun _ _ => rfl))))
  pss_nil)
  (pss_one (ps_ret pe_int)))))))), ?_⟩
  walk_at "rz"
  refine ⟨H0, c, z, p, t, kindS r, nameS r, okB r, rfl, i, o, hp, fun H1 g1 => ?_⟩
  have i1 := i.up g1
  have k1 := g1 _ _ hp
  rw [outK_eq o r]
  clear hst hp
  cases co : outP z r with
  | true =>
    have q := q _ g1
    rw [show dueR z r = 1 from if_pos co] at q
    clear k1
    walk_at "rz"
    exact q
  | false =>
  have q := fun H' g => dueP o co ▸ q H' g
  clear co
  have hop1 := i1.op
  have hdn1 := i1.dn
  cases r with
  | tool nm m =>
    replace k1 : H1 p = some (.lst [.str t, .str (Str.ofString "tool"), .str nm, .bl (okB (.tool nm m))]) := k1
    have gg1 := g1
    obtain ⟨b, eb'⟩ : ∃ b, okB (.tool nm m) = b := ⟨_, rfl⟩
    rw [eb'] at k1
    have eb := PLift.up eb'
    clear eb'
    walk_at "rz"
    intro a1 H2 ha1 g2 h2
    have hop2 := g2 _ _ hop1
    have hdn2 := g2 _ _ hdn1
    have k2 := g2 _ _ k1
    have i2 := i1.up g2
    have gg2 := gg1.trans g2
    clear hop1 hdn1 k1
    walk_at "rz"
    clear h2
    intro a2 H3 ha2 g3 h3
    have hop3 := g3 _ _ hop2
    have hdn3 := g3 _ _ hdn2
    have k3 := g3 _ _ k2
    have i3 := i2.up g3
    have gg3 := gg2.trans g3
    clear hop2 hdn2 k2
    walk_at "rz"
    clear h3
    cases b with
    | false =>
      have q := q _ gg3
      rw [v4 (z := z) (r := (.tool nm m)) rfl eb.down] at q
      clear eb
      walk_at "rz"
      exact q
    | true =>
      walk_at "rz"
      intro a3 H4 ha3 g4 h4
      have hop4 := g4 _ _ hop3
      have hdn4 := g4 _ _ hdn3
      have k4 := g4 _ _ k3
      have i4 := i3.up g4
      have gg4 := gg3.trans g4
      clear hop3 hdn3 k3
      walk_at "rz"
      clear h4
      intro a4 H5 ha4 g5 h5
      have hop5 := g5 _ _ hop4
      have hdn5 := g5 _ _ hdn4
      have k5 := g5 _ _ k4
      have i5 := i4.up g5
      have gg5 := gg4.trans g5
      clear hop4 hdn4 k4
      walk_at "rz"
      have ht5 := i5.t
      have hs5 := i5.s
      have l1 := o.l1
      have l2 := o.l2
      refine ⟨_, dict_t c, ?_⟩
      walk_at "rz"
      refine ⟨_, dict_s c, ?_⟩
      walk_at "rz"
      refine ⟨by rw [List.length_map, List.length_map]; omega, fun a5 H6 ha5 g6 h6 => ?_⟩
      rw [← List.map_append] at h6
      have gg6 := gg5.trans g6
      have h5v := g6 _ _ h5
      clear h5 hop5 hdn5 ht5 hs5 k5
      refine in_strs h6 ?_
      clear h6
      cases cb : decide (nm ∈ z.tn ++ z.sn) with
      | true =>
        have q := q _ gg6
        rw [v5 (z := z) (r := (.tool nm m)) rfl eb.down cb] at q
        clear cb
        walk_at "rz"
        exact q
      | false =>
        have q := q _ gg6
        rw [v0 (z := z) (r := (.tool nm m)) rfl eb.down cb] at q
        clear cb
        walk_at "rz"
        exact q
  | store nm m m2 =>
    replace k1 : H1 p = some (.lst [.str t, .str (Str.ofString "store"), .str nm, .bl (okB (.store nm m m2))]) := k1
    have gg1 := g1
    obtain ⟨b, eb'⟩ : ∃ b, okB (.store nm m m2) = b := ⟨_, rfl⟩
    rw [eb'] at k1
    have eb := PLift.up eb'
    clear eb'
    walk_at "rz"
    intro a1 H2 ha1 g2 h2
    have hop2 := g2 _ _ hop1
    have hdn2 := g2 _ _ hdn1
    have k2 := g2 _ _ k1
    have i2 := i1.up g2
    have gg2 := gg1.trans g2
    clear hop1 hdn1 k1
    walk_at "rz"
    clear h2
    intro a2 H3 ha2 g3 h3
    have hop3 := g3 _ _ hop2
    have hdn3 := g3 _ _ hdn2
    have k3 := g3 _ _ k2
    have i3 := i2.up g3
    have gg3 := gg2.trans g3
    clear hop2 hdn2 k2
    walk_at "rz"
    clear h3
    cases b with
    | false =>
      have q := q _ gg3
      rw [v4 (z := z) (r := (.store nm m m2)) rfl eb.down] at q
      clear eb
      walk_at "rz"
      exact q
    | true =>
      walk_at "rz"
      intro a3 H4 ha3 g4 h4
      have hop4 := g4 _ _ hop3
      have hdn4 := g4 _ _ hdn3
      have k4 := g4 _ _ k3
      have i4 := i3.up g4
      have gg4 := gg3.trans g4
      clear hop3 hdn3 k3
      walk_at "rz"
      clear h4
      intro a4 H5 ha4 g5 h5
      have hop5 := g5 _ _ hop4
      have hdn5 := g5 _ _ hdn4
      have k5 := g5 _ _ k4
      have i5 := i4.up g5
      have gg5 := gg4.trans g5
      clear hop4 hdn4 k4
      walk_at "rz"
      have ht5 := i5.t
      have hs5 := i5.s
      have l1 := o.l1
      have l2 := o.l2
      refine ⟨_, dict_t c, ?_⟩
      walk_at "rz"
      refine ⟨_, dict_s c, ?_⟩
      walk_at "rz"
      refine ⟨by rw [List.length_map, List.length_map]; omega, fun a5 H6 ha5 g6 h6 => ?_⟩
      rw [← List.map_append] at h6
      have gg6 := gg5.trans g6
      have h5v := g6 _ _ h5
      clear h5 hop5 hdn5 ht5 hs5 k5
      refine in_strs h6 ?_
      clear h6
      cases cb : decide (nm ∈ z.tn ++ z.sn) with
      | true =>
        have q := q _ gg6
        rw [v5 (z := z) (r := (.store nm m m2)) rfl eb.down cb] at q
        clear cb
        walk_at "rz"
        exact q
      | false =>
        have q := q _ gg6
        rw [v0 (z := z) (r := (.store nm m m2)) rfl eb.down cb] at q
        clear cb
        walk_at "rz"
        exact q
  | row nm ns =>
    replace k1 : H1 p = some (.lst [.str t, .str (Str.ofString "row"), .str nm, .bl (okB (.row nm ns))]) := k1
    have gg1 := g1
    obtain ⟨b, eb'⟩ : ∃ b, okB (.row nm ns) = b := ⟨_, rfl⟩
    rw [eb'] at k1
    have eb := PLift.up eb'
    clear eb'
    walk_at "rz"
    intro a1 H2 ha1 g2 h2
    have hop2 := g2 _ _ hop1
    have hdn2 := g2 _ _ hdn1
    have k2 := g2 _ _ k1
    have i2 := i1.up g2
    have gg2 := gg1.trans g2
    clear hop1 hdn1 k1
    walk_at "rz"
    clear h2
    intro a2 H3 ha2 g3 h3
    have hop3 := g3 _ _ hop2
    have hdn3 := g3 _ _ hdn2
    have k3 := g3 _ _ k2
    have i3 := i2.up g3
    have gg3 := gg2.trans g3
    clear hop2 hdn2 k2
    walk_at "rz"
    clear h3
    cases b with
    | false =>
      have q := q _ gg3
      rw [v4 (z := z) (r := (.row nm ns)) rfl eb.down] at q
      clear eb
      walk_at "rz"
      exact q
    | true =>
      walk_at "rz"
      intro a3 H4 ha3 g4 h4
      have hop4 := g4 _ _ hop3
      have hdn4 := g4 _ _ hdn3
      have k4 := g4 _ _ k3
      have i4 := i3.up g4
      have gg4 := gg3.trans g4
      clear hop3 hdn3 k3
      walk_at "rz"
      clear h4
      intro a4 H5 ha4 g5 h5
      have hop5 := g5 _ _ hop4
      have hdn5 := g5 _ _ hdn4
      have k5 := g5 _ _ k4
      have i5 := i4.up g5
      have gg5 := gg4.trans g5
      clear hop4 hdn4 k4
      walk_at "rz"
      clear h5
      intro a5 H6 ha5 g6 h6
      have hop6 := g6 _ _ hop5
      have hdn6 := g6 _ _ hdn5
      have k6 := g6 _ _ k5
      have i6 := i5.up g6
      have gg6 := gg5.trans g6
      clear hop5 hdn5 k5
      walk_at "rz"
      refine ⟨_, dict_r c, ?_⟩
      have hr6 := i6.r
      have l3 := o.l3
      clear hop6 hdn6
      refine in_strs hr6 ?_
      clear hr6
      cases cb : decide (nm ∈ z.rn) with
      | true =>
        have q := q _ gg6
        rw [v5 (z := z) (r := (.row nm ns)) rfl eb.down cb] at q
        clear cb
        walk_at "rz"
        exact q
      | false =>
        have q := q _ gg6
        rw [v0 (z := z) (r := (.row nm ns)) rfl eb.down cb] at q
        clear cb
        walk_at "rz"
        exact q
  | hand nm ns =>
    replace k1 : H1 p = some (.lst [.str t, .str (Str.ofString "hand"), .str nm, .bl (okB (.hand nm ns))]) := k1
    have gg1 := g1
    obtain ⟨b, eb'⟩ : ∃ b, okB (.hand nm ns) = b := ⟨_, rfl⟩
    rw [eb'] at k1
    have eb := PLift.up eb'
    clear eb'
    walk_at "rz"
    intro a1 H2 ha1 g2 h2
    have hop2 := g2 _ _ hop1
    have hdn2 := g2 _ _ hdn1
    have k2 := g2 _ _ k1
    have i2 := i1.up g2
    have gg2 := gg1.trans g2
    clear hop1 hdn1 k1
    walk_at "rz"
    clear h2
    intro a2 H3 ha2 g3 h3
    have hop3 := g3 _ _ hop2
    have hdn3 := g3 _ _ hdn2
    have k3 := g3 _ _ k2
    have i3 := i2.up g3
    have gg3 := gg2.trans g3
    clear hop2 hdn2 k2
    walk_at "rz"
    clear h3
    intro a3 H4 ha3 g4 h4
    have hop4 := g4 _ _ hop3
    have hdn4 := g4 _ _ hdn3
    have k4 := g4 _ _ k3
    have i4 := i3.up g4
    have gg4 := gg3.trans g4
    clear hop3 hdn3 k3
    walk_at "rz"
    clear h4
    intro a4 H5 ha4 g5 h5
    have hop5 := g5 _ _ hop4
    have hdn5 := g5 _ _ hdn4
    have k5 := g5 _ _ k4
    have i5 := i4.up g5
    have gg5 := gg4.trans g5
    clear hop4 hdn4 k4
    walk_at "rz"
    clear h5
    intro a5 H6 ha5 g6 h6
    have hop6 := g6 _ _ hop5
    have hdn6 := g6 _ _ hdn5
    have k6 := g6 _ _ k5
    have i6 := i5.up g6
    have gg6 := gg5.trans g6
    clear hop5 hdn5 k5
    walk_at "rz"
    refine ⟨_, dict_h c, ?_⟩
    have hr6 := i6.h
    have l4 := o.l4
    clear hop6 hdn6
    refine in_strs hr6 ?_
    clear hr6
    have tw : ∀ d : Bool, decide (nm ∈ z.hn) = d → twiceR z (.hand nm ns) = (d || !b) := fun d hd => by rw [← hd, ← eb.down]; rfl
    cases cb : decide (nm ∈ z.hn) with
    | true =>
      have q := q _ gg6
      rw [v5 (z := z) (r := (.hand nm ns)) rfl rfl (tw _ cb)] at q
      clear cb tw
      walk_at "rz"
      exact q
    | false =>
      have tw := tw _ cb
      clear cb
      cases b with
      | true =>
        have q := q _ gg6
        rw [v0 (z := z) (r := (.hand nm ns)) rfl rfl tw] at q
        clear tw eb
        walk_at "rz"
        exact q
      | false =>
        have q := q _ gg6
        rw [v5 (z := z) (r := (.hand nm ns)) rfl rfl tw] at q
        clear tw eb
        walk_at "rz"
        exact q
  | iff =>
    replace k1 : H1 p = some (.lst [.str t, .str (Str.ofString "if"), .str (Str.ofString ""), .bl (okB (.iff))]) := k1
    have gg1 := g1
    obtain ⟨b, eb'⟩ : ∃ b, okB (.iff) = b := ⟨_, rfl⟩
    rw [eb'] at k1
    have eb := PLift.up eb'
    clear eb'
    walk_at "rz"
    intro a1 H2 ha1 g2 h2
    have hop2 := g2 _ _ hop1
    have hdn2 := g2 _ _ hdn1
    have k2 := g2 _ _ k1
    have i2 := i1.up g2
    have gg2 := gg1.trans g2
    clear hop1 hdn1 k1
    walk_at "rz"
    clear h2
    rw [List.length_map]
    refine ite2 (fun cd => ?_) fun cd => ?_
    · have q := q _ gg2
      rw [v3 (z := z) (r := (.iff)) (decide_eq_true (by omega : z.fr.length = 6))] at q
      clear cd eb
      walk_at "rz"
      exact q
    have q : ∀ H', Same H H' → Q (.int (0 : Nat)) H' := fun H' g => by
      have := q H' g
      rw [v0 (z := z) (r := (.iff)) (decide_eq_false (by omega : ¬ z.fr.length = 6)) rfl rfl] at this
      exact this
    clear cd
    walk_at "rz"
    intro a2 H3 ha2 g3 h3
    have hop3 := g3 _ _ hop2
    have hdn3 := g3 _ _ hdn2
    have k3 := g3 _ _ k2
    have i3 := i2.up g3
    have gg3 := gg2.trans g3
    clear hop2 hdn2 k2
    walk_at "rz"
    clear h3
    intro a3 H4 ha3 g4 h4
    have hop4 := g4 _ _ hop3
    have hdn4 := g4 _ _ hdn3
    have k4 := g4 _ _ k3
    have i4 := i3.up g4
    have gg4 := gg3.trans g4
    clear hop3 hdn3 k3
    walk_at "rz"
    clear h4
    intro a4 H5 ha4 g5 h5
    have hop5 := g5 _ _ hop4
    have hdn5 := g5 _ _ hdn4
    have k5 := g5 _ _ k4
    have i5 := i4.up g5
    have gg5 := gg4.trans g5
    clear hop4 hdn4 k4
    walk_at "rz"
    clear h5
    exact q _ gg5
  | whl =>
    replace k1 : H1 p = some (.lst [.str t, .str (Str.ofString "while"), .str (Str.ofString ""), .bl (okB (.whl))]) := k1
    have gg1 := g1
    obtain ⟨b, eb'⟩ : ∃ b, okB (.whl) = b := ⟨_, rfl⟩
    rw [eb'] at k1
    have eb := PLift.up eb'
    clear eb'
    walk_at "rz"
    intro a1 H2 ha1 g2 h2
    have hop2 := g2 _ _ hop1
    have hdn2 := g2 _ _ hdn1
    have k2 := g2 _ _ k1
    have i2 := i1.up g2
    have gg2 := gg1.trans g2
    clear hop1 hdn1 k1
    walk_at "rz"
    clear h2
    rw [List.length_map]
    refine ite2 (fun cd => ?_) fun cd => ?_
    · have q := q _ gg2
      rw [v3 (z := z) (r := (.whl)) (decide_eq_true (by omega : z.fr.length = 6))] at q
      clear cd eb
      walk_at "rz"
      exact q
    have q : ∀ H', Same H H' → Q (.int (0 : Nat)) H' := fun H' g => by
      have := q H' g
      rw [v0 (z := z) (r := (.whl)) (decide_eq_false (by omega : ¬ z.fr.length = 6)) rfl rfl] at this
      exact this
    clear cd
    walk_at "rz"
    intro a2 H3 ha2 g3 h3
    have hop3 := g3 _ _ hop2
    have hdn3 := g3 _ _ hdn2
    have k3 := g3 _ _ k2
    have i3 := i2.up g3
    have gg3 := gg2.trans g3
    clear hop2 hdn2 k2
    walk_at "rz"
    clear h3
    intro a3 H4 ha3 g4 h4
    have hop4 := g4 _ _ hop3
    have hdn4 := g4 _ _ hdn3
    have k4 := g4 _ _ k3
    have i4 := i3.up g4
    have gg4 := gg3.trans g4
    clear hop3 hdn3 k3
    walk_at "rz"
    clear h4
    intro a4 H5 ha4 g5 h5
    have hop5 := g5 _ _ hop4
    have hdn5 := g5 _ _ hdn4
    have k5 := g5 _ _ k4
    have i5 := i4.up g5
    have gg5 := gg4.trans g5
    clear hop4 hdn4 k4
    walk_at "rz"
    clear h5
    exact q _ gg5
  | els =>
    replace k1 : H1 p = some (.lst [.str t, .str (Str.ofString "else"), .str (Str.ofString ""), .bl (okB (.els))]) := k1
    have gg1 := g1
    obtain ⟨b, eb'⟩ : ∃ b, okB (.els) = b := ⟨_, rfl⟩
    rw [eb'] at k1
    have eb := PLift.up eb'
    clear eb'
    walk_at "rz"
    intro a1 H2 ha1 g2 h2
    have hop2 := g2 _ _ hop1
    have hdn2 := g2 _ _ hdn1
    have k2 := g2 _ _ k1
    have i2 := i1.up g2
    have gg2 := gg1.trans g2
    clear hop1 hdn1 k1
    walk_at "rz"
    clear h2
    intro a2 H3 ha2 g3 h3
    have hop3 := g3 _ _ hop2
    have hdn3 := g3 _ _ hdn2
    have k3 := g3 _ _ k2
    have i3 := i2.up g3
    have gg3 := gg2.trans g3
    clear hop2 hdn2 k2
    walk_at "rz"
    clear h3
    intro a3 H4 ha3 g4 h4
    have hop4 := g4 _ _ hop3
    have hdn4 := g4 _ _ hdn3
    have k4 := g4 _ _ k3
    have i4 := i3.up g4
    have gg4 := gg3.trans g4
    clear hop3 hdn3 k3
    walk_at "rz"
    clear h4
    intro a4 H5 ha4 g5 h5
    have hop5 := g5 _ _ hop4
    have hdn5 := g5 _ _ hdn4
    have k5 := g5 _ _ k4
    have i5 := i4.up g5
    have gg5 := gg4.trans g5
    clear hop4 hdn4 k4
    walk_at "rz"
    clear h5
    exact q _ gg5
  | fin =>
    replace k1 : H1 p = some (.lst [.str t, .str (Str.ofString "end"), .str (Str.ofString ""), .bl (okB (.fin))]) := k1
    have gg1 := g1
    obtain ⟨b, eb'⟩ : ∃ b, okB (.fin) = b := ⟨_, rfl⟩
    rw [eb'] at k1
    have eb := PLift.up eb'
    clear eb'
    walk_at "rz"
    intro a1 H2 ha1 g2 h2
    have hop2 := g2 _ _ hop1
    have hdn2 := g2 _ _ hdn1
    have k2 := g2 _ _ k1
    have i2 := i1.up g2
    have gg2 := gg1.trans g2
    clear hop1 hdn1 k1
    walk_at "rz"
    clear h2
    intro a2 H3 ha2 g3 h3
    have hop3 := g3 _ _ hop2
    have hdn3 := g3 _ _ hdn2
    have k3 := g3 _ _ k2
    have i3 := i2.up g3
    have gg3 := gg2.trans g3
    clear hop2 hdn2 k2
    walk_at "rz"
    clear h3
    intro a3 H4 ha3 g4 h4
    have hop4 := g4 _ _ hop3
    have hdn4 := g4 _ _ hdn3
    have k4 := g4 _ _ k3
    have i4 := i3.up g4
    have gg4 := gg3.trans g4
    clear hop3 hdn3 k3
    walk_at "rz"
    clear h4
    intro a4 H5 ha4 g5 h5
    have hop5 := g5 _ _ hop4
    have hdn5 := g5 _ _ hdn4
    have k5 := g5 _ _ k4
    have i5 := i4.up g5
    have gg5 := gg4.trans g5
    clear hop4 hdn4 k4
    walk_at "rz"
    clear h5
    exact q _ gg5
  | plain =>
    replace k1 : H1 p = some (.lst [.str t, .str (Str.ofString "plain"), .str (Str.ofString ""), .bl (okB (.plain))]) := k1
    have gg1 := g1
    obtain ⟨b, eb'⟩ : ∃ b, okB (.plain) = b := ⟨_, rfl⟩
    rw [eb'] at k1
    have eb := PLift.up eb'
    clear eb'
    walk_at "rz"
    intro a1 H2 ha1 g2 h2
    have hop2 := g2 _ _ hop1
    have hdn2 := g2 _ _ hdn1
    have k2 := g2 _ _ k1
    have i2 := i1.up g2
    have gg2 := gg1.trans g2
    clear hop1 hdn1 k1
    walk_at "rz"
    clear h2
    intro a2 H3 ha2 g3 h3
    have hop3 := g3 _ _ hop2
    have hdn3 := g3 _ _ hdn2
    have k3 := g3 _ _ k2
    have i3 := i2.up g3
    have gg3 := gg2.trans g3
    clear hop2 hdn2 k2
    walk_at "rz"
    clear h3
    intro a3 H4 ha3 g4 h4
    have hop4 := g4 _ _ hop3
    have hdn4 := g4 _ _ hdn3
    have k4 := g4 _ _ k3
    have i4 := i3.up g4
    have gg4 := gg3.trans g4
    clear hop3 hdn3 k3
    walk_at "rz"
    clear h4
    intro a4 H5 ha4 g5 h5
    have hop5 := g5 _ _ hop4
    have hdn5 := g5 _ _ hdn4
    have k5 := g5 _ _ k4
    have i5 := i4.up g5
    have gg5 := gg4.trans g5
    clear hop4 hdn4 k4
    walk_at "rz"
    clear h5
    exact q _ gg5
end
end K09
namespace K09
open PySem L2
def Oth (c : Lw) (H H' : Hp) : Prop := ∀ a o, a ∉ c.all → H a = some o → H' a = some o
theorem Oth.refl (c : Lw) (H : Hp) : Oth c H H := fun _ _ _ h => h
theorem Oth.same {c : Lw} {H H1 H2 : Hp} (f : Oth c H H1) (g : Same H1 H2) : Oth c H H2 := fun a o n h => g _ _ (f a o n h)
theorem Oth.mu {c : Lw} {H H1 H2 : Hp} {a : Addr} {o : HO} (f : Oth c H H1) (h : a ∈ c.all) (m : Mu H1 a o H2) : Oth c H H2 := fun b u n q => m.old (f b u n q) fun z => n (z ▸ h)
theorem ix_lst (n : Nat) : ixN (n + 1) (-1) = some n := by
  unfold ixN
  rw [if_neg (by decide), if_pos (by omega)]
  congr 1
  omega
def DoI (H0 : Hp) (c : Lw) (z : Rs) (p : Addr) (o : HO) (H : Hp) (σ : St) (H' : Hp) : Prop := σ = [some (.ref c.st), some (.ref p), some (.ref c.op), some (.ref c.dn)] ∧ LSt H0 c z H' ∧ Oth c H H' ∧ H' p = some o
section
variable {P : Program} {w : World} {K : PySem.W.Frag} {mg : Str → Option Value} {base : Heap}
def spDo : Sp := fun vs H Q _ => ∃ (H0 : Hp) (c : Lw) (z : Rs) (p : Addr) (t : Str) (r : Rw), vs = [.ref c.st, .ref p] ∧ LSt H0 c z H ∧ Zok z ∧ H p = some (.lst [.str t, .str (kindS r), .str (nameS r), .bl (okB r)]) ∧ p ∉ c.all ∧ dueR z r = 0 ∧ ∀ H', LSt H0 c (nxtR z r) H' → Oth c H H' → Q .non H'
theorem ok_do (D : DefAt K mg "_law_do" s__law_do ["state", "row"]) : OkD P w K mg base 1 "_law_do" ["state", "row"] spDo := by
  refine D.ok sc__law_do (fun vs H Q E h => ?_) (fun f cdv A outer s H vs Q E hr h => ?_)
  · obtain ⟨_, _, _, _, _, _, rfl, _⟩ := h; rfl
  obtain ⟨H0, c, z, p, t, r, rfl, i, o, hp, np, du, q⟩ := h
  have big : 2000000 ≤ sizeLine := by unfold sizeLine; decide
  have hu := hu_of hr
  have hst := i.st
  have l1 := o.l1
  have l2 := o.l2
  have l3 := o.l3
  have l4 := o.l4
  have l6 := o.l6
  refine ⟨_, (pss_cons (ps_asg (pv 0) (pg_lstG 2 rfl (pgs_cons (pg_name (i := 2) sc__law_do.nd rfl (Or.inl rfl)) (pgs_cons (pg_name (i := 3) sc__law_do.nd rfl (Or.inl rfl)) pgs_nil))))
  (pss_cons (ps_up (ps_if (pt_cmpR op_inG (pe_ix ix_g (pv 1) pe_int (fun _ _ => rfl)) (pe_lstG (pa_c pe_str (pa_c pe_str (pa_c pe_str (pa_c pe_str pa_nil))))) (by with_unfolding_all rfl))
  (pss_one (ps_expr (pe_appG (pe_dgetG hu (pv 3) (pe_ix ix_g (pv 1) pe_int (fun _ _ => rfl)) (fun _ _ => rfl)) (pe_ix ix_g (pv 1) pe_int (fun _ _ => rfl)))))
  pss_nil))
  (pss_cons (ps_up (ps_if (pt_cmpR op_inG (pe_ix ix_g (pv 1) pe_int (fun _ _ => rfl)) (pe_lstG (pa_c pe_str (pa_c pe_str (pa_c pe_str pa_nil)))) (by with_unfolding_all rfl))
  (pss_one (ps_expr (pe_appG (pv 2) (pe_ix ix_g (pv 1) pe_int (fun _ _ => rfl)))))
  pss_nil))
  (pss_cons (ps_up (ps_if (pt_cmpR op_eq (pe_ix ix_g (pv 1) pe_int (fun _ _ => rfl)) pe_str (nomark _))
  (pss_one (ps_asg pe_str (pg_sub (pv 2) (pe_un un_neg pe_int) set_listG)))
  pss_nil))
  (pss_one (ps_up (ps_if (pt_cmpR op_eq (pe_ix ix_g (pv 1) pe_int (fun _ _ => rfl)) pe_str (nomark _))
  (pss_one (ps_expr (pe_bm0 PySem.F.plainAttrs_list PySem.F.slot_list_pop PySem.F.type_list_pop mt_popG (pv 2))))
  pss_nil))))))), ?_⟩
  cases r with
  | tool nm m =>
    replace hp : H p = some (.lst [.str t, .str (Str.ofString "tool"), .str nm, .bl (okB (.tool nm m))]) := hp
    generalize okB (.tool nm m) = b at hp
    walk_at "rz"
    refine ⟨DoI H0 c { z with tn := z.tn ++ [nm] } p (.lst [.str t, .str (Str.ofString "tool"), .str nm, .bl b]) H, ?_, ?_⟩
    · intro a H1 ha g1 h1
      have i1 := i.up g1
      have hp1 := g1 _ _ hp
      have f1 := (Oth.refl c H).same g1
      clear hst hp
      have hd1 := i1.dn
      have hx1 := i1.t
      walk_at "rz"
      refine ⟨_, dict_t c, ?_⟩
      walk_at "rz"
      refine ⟨by rw [List.length_map]; omega, fun H2 mu => ⟨rfl, i1.putT (l := z.tn ++ [nm]) (by rw [List.map_append]; exact mu), f1.mu (by simp [Lw.all]) mu, mu.old hp1 fun e => np (by rw [e]; simp [Lw.all])⟩⟩
    rintro σ1 K1 ⟨rfl, j1, f1, hp1⟩
    clear hst hp
    walk_at "rz"
    refine ⟨DoI H0 c { z with tn := z.tn ++ [nm] } p (.lst [.str t, .str (Str.ofString "tool"), .str nm, .bl b]) H, ?_, ?_⟩
    · intro a H1 ha g1 h1
      have i1 := j1.up g1
      have hp2 := g1 _ _ hp1
      have f2 := f1.same g1
      clear hp1
      walk_at "rz"
      exact ⟨rfl, i1, f2, hp2⟩
    rintro σ2 K2 ⟨rfl, j2, f2, hp2⟩
    clear hp1
    walk_at "rz"
    refine ⟨DoI H0 c { z with tn := z.tn ++ [nm] } p (.lst [.str t, .str (Str.ofString "tool"), .str nm, .bl b]) H, ?_, ?_⟩
    · exact ⟨rfl, j2, f2, hp2⟩
    rintro σ3 K3 ⟨rfl, j3, f3, hp3⟩
    clear hp2
    walk_at "rz"
    exact ⟨fun _ H' => Q .non H', q _ j3 f3, fun _ _ z => z⟩
  | store nm m m2 =>
    replace hp : H p = some (.lst [.str t, .str (Str.ofString "store"), .str nm, .bl (okB (.store nm m m2))]) := hp
    generalize okB (.store nm m m2) = b at hp
    walk_at "rz"
    refine ⟨DoI H0 c { z with sn := z.sn ++ [nm] } p (.lst [.str t, .str (Str.ofString "store"), .str nm, .bl b]) H, ?_, ?_⟩
    · intro a H1 ha g1 h1
      have i1 := i.up g1
      have hp1 := g1 _ _ hp
      have f1 := (Oth.refl c H).same g1
      clear hst hp
      have hd1 := i1.dn
      have hx1 := i1.s
      walk_at "rz"
      refine ⟨_, dict_s c, ?_⟩
      walk_at "rz"
      refine ⟨by rw [List.length_map]; omega, fun H2 mu => ⟨rfl, i1.putS (l := z.sn ++ [nm]) (by rw [List.map_append]; exact mu), f1.mu (by simp [Lw.all]) mu, mu.old hp1 fun e => np (by rw [e]; simp [Lw.all])⟩⟩
    rintro σ1 K1 ⟨rfl, j1, f1, hp1⟩
    clear hst hp
    walk_at "rz"
    refine ⟨DoI H0 c { z with sn := z.sn ++ [nm] } p (.lst [.str t, .str (Str.ofString "store"), .str nm, .bl b]) H, ?_, ?_⟩
    · intro a H1 ha g1 h1
      have i1 := j1.up g1
      have hp2 := g1 _ _ hp1
      have f2 := f1.same g1
      clear hp1
      walk_at "rz"
      exact ⟨rfl, i1, f2, hp2⟩
    rintro σ2 K2 ⟨rfl, j2, f2, hp2⟩
    clear hp1
    walk_at "rz"
    refine ⟨DoI H0 c { z with sn := z.sn ++ [nm] } p (.lst [.str t, .str (Str.ofString "store"), .str nm, .bl b]) H, ?_, ?_⟩
    · exact ⟨rfl, j2, f2, hp2⟩
    rintro σ3 K3 ⟨rfl, j3, f3, hp3⟩
    clear hp2
    walk_at "rz"
    exact ⟨fun _ H' => Q .non H', q _ j3 f3, fun _ _ z => z⟩
  | row nm ns =>
    replace hp : H p = some (.lst [.str t, .str (Str.ofString "row"), .str nm, .bl (okB (.row nm ns))]) := hp
    generalize okB (.row nm ns) = b at hp
    walk_at "rz"
    refine ⟨DoI H0 c { z with rn := z.rn ++ [nm] } p (.lst [.str t, .str (Str.ofString "row"), .str nm, .bl b]) H, ?_, ?_⟩
    · intro a H1 ha g1 h1
      have i1 := i.up g1
      have hp1 := g1 _ _ hp
      have f1 := (Oth.refl c H).same g1
      clear hst hp
      have hd1 := i1.dn
      have hx1 := i1.r
      walk_at "rz"
      refine ⟨_, dict_r c, ?_⟩
      walk_at "rz"
      refine ⟨by rw [List.length_map]; omega, fun H2 mu => ⟨rfl, i1.putR (l := z.rn ++ [nm]) (by rw [List.map_append]; exact mu), f1.mu (by simp [Lw.all]) mu, mu.old hp1 fun e => np (by rw [e]; simp [Lw.all])⟩⟩
    rintro σ1 K1 ⟨rfl, j1, f1, hp1⟩
    clear hst hp
    walk_at "rz"
    refine ⟨DoI H0 c { z with rn := z.rn ++ [nm] } p (.lst [.str t, .str (Str.ofString "row"), .str nm, .bl b]) H, ?_, ?_⟩
    · intro a H1 ha g1 h1
      have i1 := j1.up g1
      have hp2 := g1 _ _ hp1
      have f2 := f1.same g1
      clear hp1
      walk_at "rz"
      exact ⟨rfl, i1, f2, hp2⟩
    rintro σ2 K2 ⟨rfl, j2, f2, hp2⟩
    clear hp1
    walk_at "rz"
    refine ⟨DoI H0 c { z with rn := z.rn ++ [nm] } p (.lst [.str t, .str (Str.ofString "row"), .str nm, .bl b]) H, ?_, ?_⟩
    · exact ⟨rfl, j2, f2, hp2⟩
    rintro σ3 K3 ⟨rfl, j3, f3, hp3⟩
    clear hp2
    walk_at "rz"
    exact ⟨fun _ H' => Q .non H', q _ j3 f3, fun _ _ z => z⟩
  | hand nm ns =>
    replace hp : H p = some (.lst [.str t, .str (Str.ofString "hand"), .str nm, .bl (okB (.hand nm ns))]) := hp
    generalize okB (.hand nm ns) = b at hp
    walk_at "rz"
    refine ⟨DoI H0 c { z with hn := z.hn ++ [nm] } p (.lst [.str t, .str (Str.ofString "hand"), .str nm, .bl b]) H, ?_, ?_⟩
    · intro a H1 ha g1 h1
      have i1 := i.up g1
      have hp1 := g1 _ _ hp
      have f1 := (Oth.refl c H).same g1
      clear hst hp
      have hd1 := i1.dn
      have hx1 := i1.h
      walk_at "rz"
      refine ⟨_, dict_h c, ?_⟩
      walk_at "rz"
      refine ⟨by rw [List.length_map]; omega, fun H2 mu => ⟨rfl, i1.putH (l := z.hn ++ [nm]) (by rw [List.map_append]; exact mu), f1.mu (by simp [Lw.all]) mu, mu.old hp1 fun e => np (by rw [e]; simp [Lw.all])⟩⟩
    rintro σ1 K1 ⟨rfl, j1, f1, hp1⟩
    clear hst hp
    walk_at "rz"
    refine ⟨DoI H0 c { z with hn := z.hn ++ [nm], fr := z.fr ++ [Str.ofString "hand"] } p (.lst [.str t, .str (Str.ofString "hand"), .str nm, .bl b]) H, ?_, ?_⟩
    · intro a H1 ha g1 h1
      have i1 := j1.up g1
      have hp2 := g1 _ _ hp1
      have f2 := f1.same g1
      clear hp1
      have ho1 := i1.op
      walk_at "rz"
      refine ⟨by rw [List.length_map]; omega, fun H2 mu => ⟨rfl, i1.putO (l := z.fr ++ [Str.ofString "hand"]) (by rw [List.map_append]; exact mu), f2.mu (by simp [Lw.all]) mu, mu.old hp2 fun e => np (by rw [e]; simp [Lw.all])⟩⟩
    rintro σ2 K2 ⟨rfl, j2, f2, hp2⟩
    clear hp1
    walk_at "rz"
    refine ⟨DoI H0 c { z with hn := z.hn ++ [nm], fr := z.fr ++ [Str.ofString "hand"] } p (.lst [.str t, .str (Str.ofString "hand"), .str nm, .bl b]) H, ?_, ?_⟩
    · exact ⟨rfl, j2, f2, hp2⟩
    rintro σ3 K3 ⟨rfl, j3, f3, hp3⟩
    clear hp2
    walk_at "rz"
    exact ⟨fun _ H' => Q .non H', q _ j3 f3, fun _ _ z => z⟩
  | iff =>
    replace hp : H p = some (.lst [.str t, .str (Str.ofString "if"), .str (Str.ofString ""), .bl (okB (.iff))]) := hp
    generalize okB (.iff) = b at hp
    walk_at "rz"
    refine ⟨DoI H0 c z p (.lst [.str t, .str (Str.ofString "if"), .str (Str.ofString ""), .bl b]) H, ?_, ?_⟩
    · intro a H1 ha g1 h1
      have i1 := i.up g1
      have hp1 := g1 _ _ hp
      have f1 := (Oth.refl c H).same g1
      clear hst hp
      walk_at "rz"
      exact ⟨rfl, i1, f1, hp1⟩
    rintro σ1 K1 ⟨rfl, j1, f1, hp1⟩
    clear hst hp
    walk_at "rz"
    refine ⟨DoI H0 c { z with fr := z.fr ++ [Str.ofString "if"] } p (.lst [.str t, .str (Str.ofString "if"), .str (Str.ofString ""), .bl b]) H, ?_, ?_⟩
    · intro a H1 ha g1 h1
      have i1 := j1.up g1
      have hp2 := g1 _ _ hp1
      have f2 := f1.same g1
      clear hp1
      have ho1 := i1.op
      walk_at "rz"
      refine ⟨by rw [List.length_map]; omega, fun H2 mu => ⟨rfl, i1.putO (l := z.fr ++ [Str.ofString "if"]) (by rw [List.map_append]; exact mu), f2.mu (by simp [Lw.all]) mu, mu.old hp2 fun e => np (by rw [e]; simp [Lw.all])⟩⟩
    rintro σ2 K2 ⟨rfl, j2, f2, hp2⟩
    clear hp1
    walk_at "rz"
    refine ⟨DoI H0 c { z with fr := z.fr ++ [Str.ofString "if"] } p (.lst [.str t, .str (Str.ofString "if"), .str (Str.ofString ""), .bl b]) H, ?_, ?_⟩
    · exact ⟨rfl, j2, f2, hp2⟩
    rintro σ3 K3 ⟨rfl, j3, f3, hp3⟩
    clear hp2
    walk_at "rz"
    exact ⟨fun _ H' => Q .non H', q _ j3 f3, fun _ _ z => z⟩
  | whl =>
    replace hp : H p = some (.lst [.str t, .str (Str.ofString "while"), .str (Str.ofString ""), .bl (okB (.whl))]) := hp
    generalize okB (.whl) = b at hp
    walk_at "rz"
    refine ⟨DoI H0 c z p (.lst [.str t, .str (Str.ofString "while"), .str (Str.ofString ""), .bl b]) H, ?_, ?_⟩
    · intro a H1 ha g1 h1
      have i1 := i.up g1
      have hp1 := g1 _ _ hp
      have f1 := (Oth.refl c H).same g1
      clear hst hp
      walk_at "rz"
      exact ⟨rfl, i1, f1, hp1⟩
    rintro σ1 K1 ⟨rfl, j1, f1, hp1⟩
    clear hst hp
    walk_at "rz"
    refine ⟨DoI H0 c { z with fr := z.fr ++ [Str.ofString "while"] } p (.lst [.str t, .str (Str.ofString "while"), .str (Str.ofString ""), .bl b]) H, ?_, ?_⟩
    · intro a H1 ha g1 h1
      have i1 := j1.up g1
      have hp2 := g1 _ _ hp1
      have f2 := f1.same g1
      clear hp1
      have ho1 := i1.op
      walk_at "rz"
      refine ⟨by rw [List.length_map]; omega, fun H2 mu => ⟨rfl, i1.putO (l := z.fr ++ [Str.ofString "while"]) (by rw [List.map_append]; exact mu), f2.mu (by simp [Lw.all]) mu, mu.old hp2 fun e => np (by rw [e]; simp [Lw.all])⟩⟩
    rintro σ2 K2 ⟨rfl, j2, f2, hp2⟩
    clear hp1
    walk_at "rz"
    refine ⟨DoI H0 c { z with fr := z.fr ++ [Str.ofString "while"] } p (.lst [.str t, .str (Str.ofString "while"), .str (Str.ofString ""), .bl b]) H, ?_, ?_⟩
    · exact ⟨rfl, j2, f2, hp2⟩
    rintro σ3 K3 ⟨rfl, j3, f3, hp3⟩
    clear hp2
    walk_at "rz"
    exact ⟨fun _ H' => Q .non H', q _ j3 f3, fun _ _ z => z⟩
  | els =>
    replace hp : H p = some (.lst [.str t, .str (Str.ofString "else"), .str (Str.ofString ""), .bl (okB (.els))]) := hp
    generalize okB (.els) = b at hp
    walk_at "rz"
    refine ⟨DoI H0 c z p (.lst [.str t, .str (Str.ofString "else"), .str (Str.ofString ""), .bl b]) H, ?_, ?_⟩
    · intro a H1 ha g1 h1
      have i1 := i.up g1
      have hp1 := g1 _ _ hp
      have f1 := (Oth.refl c H).same g1
      clear hst hp
      walk_at "rz"
      exact ⟨rfl, i1, f1, hp1⟩
    rintro σ1 K1 ⟨rfl, j1, f1, hp1⟩
    clear hst hp
    walk_at "rz"
    refine ⟨DoI H0 c z p (.lst [.str t, .str (Str.ofString "else"), .str (Str.ofString ""), .bl b]) H, ?_, ?_⟩
    · intro a H1 ha g1 h1
      have i1 := j1.up g1
      have hp2 := g1 _ _ hp1
      have f2 := f1.same g1
      clear hp1
      walk_at "rz"
      exact ⟨rfl, i1, f2, hp2⟩
    rintro σ2 K2 ⟨rfl, j2, f2, hp2⟩
    clear hp1
    walk_at "rz"
    refine ⟨DoI H0 c { z with fr := z.fr.dropLast ++ [Str.ofString "else"] } p (.lst [.str t, .str (Str.ofString "else"), .str (Str.ofString ""), .bl b]) H, ?_, ?_⟩
    · have d1 := (due0 du).1
      have d1' : z.fr.isEmpty = false ∧ z.fr.getLastD "" = "if" := by simpa [outP] using d1
      have ho2 := j2.op
      have ne := ne_last d1'.1
      obtain ⟨l, x, e⟩ : ∃ l x, z.fr = l ++ [x] := ⟨_, _, (List.dropLast_concat_getLast ne).symm⟩
      walk_at "rz"
      refine ⟨l.length, by rw [List.length_map, List.length_append]; exact ix_lst _, fun H4 mu => ⟨rfl, j2.putO ?_, f2.mu (by simp [Lw.all]) mu, mu.old hp2 fun e => np (by rw [e]; simp [Lw.all])⟩⟩
      rw [List.map_append, List.set_append_right _ _ (by rw [List.length_map]; exact Nat.le_refl _), List.length_map, Nat.sub_self] at mu
      rw [e, List.dropLast_concat, List.map_append]
      exact mu
    rintro σ3 K3 ⟨rfl, j3, f3, hp3⟩
    clear hp2
    walk_at "rz"
    exact ⟨fun _ H' => Q .non H', q _ j3 f3, fun _ _ z => z⟩
  | fin =>
    replace hp : H p = some (.lst [.str t, .str (Str.ofString "end"), .str (Str.ofString ""), .bl (okB (.fin))]) := hp
    generalize okB (.fin) = b at hp
    walk_at "rz"
    refine ⟨DoI H0 c z p (.lst [.str t, .str (Str.ofString "end"), .str (Str.ofString ""), .bl b]) H, ?_, ?_⟩
    · intro a H1 ha g1 h1
      have i1 := i.up g1
      have hp1 := g1 _ _ hp
      have f1 := (Oth.refl c H).same g1
      clear hst hp
      walk_at "rz"
      exact ⟨rfl, i1, f1, hp1⟩
    rintro σ1 K1 ⟨rfl, j1, f1, hp1⟩
    clear hst hp
    walk_at "rz"
    refine ⟨DoI H0 c z p (.lst [.str t, .str (Str.ofString "end"), .str (Str.ofString ""), .bl b]) H, ?_, ?_⟩
    · intro a H1 ha g1 h1
      have i1 := j1.up g1
      have hp2 := g1 _ _ hp1
      have f2 := f1.same g1
      clear hp1
      walk_at "rz"
      exact ⟨rfl, i1, f2, hp2⟩
    rintro σ2 K2 ⟨rfl, j2, f2, hp2⟩
    clear hp1
    walk_at "rz"
    refine ⟨DoI H0 c z p (.lst [.str t, .str (Str.ofString "end"), .str (Str.ofString ""), .bl b]) H, ?_, ?_⟩
    · exact ⟨rfl, j2, f2, hp2⟩
    rintro σ3 K3 ⟨rfl, j3, f3, hp3⟩
    clear hp2
    walk_at "rz"
    have d1 : z.fr.isEmpty = false := (due0 du).1
    have ne := ne_last d1
    have ho3 := j3.op
    obtain ⟨l, x, e⟩ : ∃ l x, z.fr = l ++ [x] := ⟨_, _, (List.dropLast_concat_getLast ne).symm⟩
    rw [e, List.map_append] at ho3
    refine ⟨⟨_, SqL.of ho3⟩, fun _ H' => Q .non H', ⟨c.op, _, _, rfl, rfl, ho3, fun H4 mu => q _ (j3.putO (l := z.fr.dropLast) ?_) (f3.mu (by simp [Lw.all]) mu)⟩, fun _ _ z => z⟩
    rw [e, List.dropLast_concat]
    exact mu
  | plain =>
    replace hp : H p = some (.lst [.str t, .str (Str.ofString "plain"), .str (Str.ofString ""), .bl (okB (.plain))]) := hp
    generalize okB (.plain) = b at hp
    walk_at "rz"
    refine ⟨DoI H0 c z p (.lst [.str t, .str (Str.ofString "plain"), .str (Str.ofString ""), .bl b]) H, ?_, ?_⟩
    · intro a H1 ha g1 h1
      have i1 := i.up g1
      have hp1 := g1 _ _ hp
      have f1 := (Oth.refl c H).same g1
      clear hst hp
      walk_at "rz"
      exact ⟨rfl, i1, f1, hp1⟩
    rintro σ1 K1 ⟨rfl, j1, f1, hp1⟩
    clear hst hp
    walk_at "rz"
    refine ⟨DoI H0 c z p (.lst [.str t, .str (Str.ofString "plain"), .str (Str.ofString ""), .bl b]) H, ?_, ?_⟩
    · intro a H1 ha g1 h1
      have i1 := j1.up g1
      have hp2 := g1 _ _ hp1
      have f2 := f1.same g1
      clear hp1
      walk_at "rz"
      exact ⟨rfl, i1, f2, hp2⟩
    rintro σ2 K2 ⟨rfl, j2, f2, hp2⟩
    clear hp1
    walk_at "rz"
    refine ⟨DoI H0 c z p (.lst [.str t, .str (Str.ofString "plain"), .str (Str.ofString ""), .bl b]) H, ?_, ?_⟩
    · exact ⟨rfl, j2, f2, hp2⟩
    rintro σ3 K3 ⟨rfl, j3, f3, hp3⟩
    clear hp2
    walk_at "rz"
    exact ⟨fun _ H' => Q .non H', q _ j3 f3, fun _ _ z => z⟩
end
end K09
namespace K09
open PySem L2
def badB (t : Str) : Bool := (partsV t).isNone && (decide (t.length ≤ 2000) && (!(t.cps.toList.contains 10) && t.cps.toList.all fun c => decide (c < 128)))
theorem badB_of {t : Str} (h : badB t = true) : RowIs t none ∧ Rt t := by
  unfold badB at h
  rw [Bool.and_eq_true, Bool.and_eq_true, Bool.and_eq_true] at h
  obtain ⟨a, b, c, d⟩ := h
  exact ⟨Option.isNone_iff_eq_none.mp a, by simpa using b, by simpa using c, fun x hx => by simpa using List.all_eq_true.mp d x hx⟩
theorem bad_app {l m : List Str} (h : ∀ x ∈ l, badB x = true) (h2 : ∀ x ∈ m, badB x = true) : ∀ x ∈ l ++ m, badB x = true := fun x hx => by
  rcases List.mem_append.mp hx with z | z
  · exact h x z
  · exact h2 x z
section
variable {P : Program} {w : World} {K : PySem.W.Frag} {mg : Str → Option Value} {base : Heap}
def spBad : Sp := fun vs H Q _ => ∃ c : Int, vs = [.int c] ∧ ∀ t H', badB t = true → Same H H' → Q (.str t) H'
theorem ok_bad (D : DefAt K mg "_law_bad" s__law_bad ["cell"]) (G__law_stir : OkD P w K mg base 1 "_law_stir" ["cell", "k"] spStir) (hlen : mg "len" = none) : OkD P w K mg base 2 "_law_bad" ["cell"] spBad := by
  refine D.ok sc__law_bad (fun vs H Q E h => ?_) (fun f cdv A outer s H vs Q E hr h => ?_)
  · obtain ⟨_, rfl, _⟩ := h; rfl
  obtain ⟨cc, rfl, q⟩ := h
  have big : 2000000 ≤ sizeLine := by unfold sizeLine; decide
  have lz : ∀ l : List Str, (l.map V.str).length = l.length := fun l => List.length_map ..
  refine ⟨_, (pss_cons (ps_set (i := 1) sc__law_bad.nd rfl (Or.inl rfl) (pe_lstG (pa_c pe_str (pa_c pe_str (pa_c pe_str (pa_c pe_str (pa_c pe_str (pa_c pe_str (pa_c pe_str (pa_c pe_str (pa_c pe_str (pa_c pe_str (pa_c pe_str pa_nil)))))))))))))
  (pss_cons (ps_set (i := 1) sc__law_bad.nd rfl (Or.inl rfl) (pe_op op_catG (pv 1) (pe_lstG (pa_c pe_str (pa_c pe_str (pa_c pe_str (pa_c pe_str (pa_c pe_str (pa_c pe_str (pa_c pe_str (pa_c pe_str (pa_c pe_str (pa_c pe_str pa_nil)))))))))))))
  (pss_cons (ps_set (i := 1) sc__law_bad.nd rfl (Or.inl rfl) (pe_op op_catG (pv 1) (pe_lstG (pa_c pe_str (pa_c pe_str (pa_c pe_str (pa_c pe_str (pa_c pe_str (pa_c pe_str (pa_c pe_str (pa_c pe_str (pa_c pe_str pa_nil))))))))))))
  (pss_cons (ps_set (i := 1) sc__law_bad.nd rfl (Or.inl rfl) (pe_op op_catG (pv 1) (pe_lstG (pa_c pe_str (pa_c pe_str (pa_c pe_str (pa_c pe_str (pa_c pe_str (pa_c pe_str (pa_c pe_str (pa_c pe_str pa_nil)))))))))))
  (pss_cons (ps_set (i := 1) sc__law_bad.nd rfl (Or.inl rfl) (pe_op op_catG (pv 1) (pe_lstG (pa_c pe_str (pa_c pe_str (pa_c pe_str (pa_c pe_str (pa_c pe_str (pa_c pe_str (pa_c pe_str (pa_c pe_str pa_nil)))))))))))
  (pss_cons (ps_set (i := 1) sc__law_bad.nd rfl (Or.inl rfl) (pe_op op_catG (pv 1) (pe_lstG (pa_c pe_str (pa_c pe_str (pa_c pe_str (pa_c pe_str (pa_c pe_str (pa_c pe_str (pa_c pe_str (pa_c pe_str pa_nil)))))))))))
  (pss_cons (ps_set (i := 1) sc__law_bad.nd rfl (Or.inl rfl) (pe_op op_catG (pv 1) (pe_lstG (pa_c pe_str (pa_c pe_str (pa_c pe_str (pa_c pe_str (pa_c pe_str (pa_c pe_str (pa_c pe_str (pa_c pe_str (pa_c pe_str (pa_c pe_str pa_nil)))))))))))))
  (pss_cons (ps_set (i := 1) sc__law_bad.nd rfl (Or.inl rfl) (pe_op op_catG (pv 1) (pe_lstG (pa_c pe_str (pa_c pe_str (pa_c pe_str (pa_c pe_str (pa_c pe_str (pa_c pe_str (pa_c pe_str (pa_c pe_str pa_nil)))))))))))
  (pss_cons (ps_set (i := 1) sc__law_bad.nd rfl (Or.inl rfl) (pe_op op_catG (pv 1) (pe_lstG (pa_c pe_str (pa_c pe_str (pa_c pe_str (pa_c pe_str (pa_c pe_str (pa_c pe_str (pa_c pe_str pa_nil))))))))))
  (pss_cons (ps_set (i := 1) sc__law_bad.nd rfl (Or.inl rfl) (pe_op op_catG (pv 1) (pe_lstG (pa_c pe_str (pa_c pe_str (pa_c (pe_op op_add_str pe_str (pe_op op_mul_str pe_str pe_int)) (pa_c pe_str (pa_c pe_str (pa_c pe_str (pa_c pe_str pa_nil))))))))))
  (pss_cons (ps_set (i := 1) sc__law_bad.nd rfl (Or.inl rfl) (pe_op op_catG (pv 1) (pe_lstG (pa_c pe_str (pa_c pe_str (pa_c pe_str (pa_c pe_str (pa_c pe_str (pa_c pe_str (pa_c pe_str (pa_c pe_str (pa_c pe_str pa_nil))))))))))))
  (pss_cons (ps_set (i := 1) sc__law_bad.nd rfl (Or.inl rfl) (pe_op op_catG (pv 1) (pe_lstG (pa_c pe_str (pa_c pe_str (pa_c pe_str (pa_c pe_str (pa_c pe_str (pa_c pe_str (pa_c pe_str (pa_c (pe_op op_mul_str pe_str pe_int) pa_nil)))))))))))
  (pss_cons (ps_set (i := 1) sc__law_bad.nd rfl (Or.inl rfl) (pe_op op_catG (pv 1) (pe_lstG (pa_c (pe_op op_add_str (pe_op op_add_str pe_str (pe_op op_mul_str pe_str pe_int)) pe_str) (pa_c (pe_op op_add_str (pe_op op_add_str (pe_op op_add_str pe_str (pe_op op_mul_str pe_str pe_int)) pe_str) (pe_op op_mul_str pe_str pe_int)) (pa_c pe_str (pa_c pe_str pa_nil)))))))
  (pss_cons (ps_set (i := 1) sc__law_bad.nd rfl (Or.inl rfl) (pe_op op_catG (pv 1) (pe_lstG (pa_c pe_str (pa_c pe_str (pa_c pe_str (pa_c pe_str (pa_c pe_str (pa_c pe_str pa_nil)))))))))
  (pss_cons (ps_set (i := 1) sc__law_bad.nd rfl (Or.inl rfl) (pe_op op_catG (pv 1) (pe_lstG (pa_c pe_str (pa_c pe_str (pa_c pe_str (pa_c pe_str (pa_c pe_str (pa_c pe_str pa_nil)))))))))
  (pss_cons (ps_set (i := 1) sc__law_bad.nd rfl (Or.inl rfl) (pe_op op_catG (pv 1) (pe_lstG (pa_c pe_str (pa_c pe_str (pa_c pe_str (pa_c pe_str (pa_c pe_str (pa_c pe_str pa_nil)))))))))
  (pss_one (ps_ret (pe_ix ix_g (pv 1) (pe_op op_mod (pe_def G__law_stir hr rfl (pa_c (pv 0) (pa_c pe_int pa_nil))) (pe_cB call_lenG rfl hlen PySem.boot_len (pa_c (pv 1) pa_nil))) (fun _ _ => rfl)))))))))))))))))))), ?_⟩
  walk_at "rz"
  refine ⟨by omega, fun b0 B0 hb0 gb0 kb0 => ?_⟩
  obtain ⟨Y0, e0, d0, c0⟩ : ∃ Ls : List Str, B0 b0 = some (.lst (Ls.map V.str)) ∧ (∀ x ∈ Ls, badB x = true) ∧ Ls.length = 11 := ⟨[_, _, _, _, _, _, _, _, _, _, _], kb0, by decide +kernel, rfl⟩
  have g0 := gb0
  clear kb0
  walk_at "rz"
  refine ⟨by omega, fun a1 A1 ha1 ga1 ka1 => ?_⟩
  have f1 := ga1 _ _ e0
  have z1 := lz Y0
  walk_at "rz"
  refine ⟨by omega, fun b1 B1 hb1 gb1 kb1 => ?_⟩
  obtain ⟨Y1, e1, d1, c1⟩ : ∃ Ls : List Str, B1 b1 = some (.lst (Ls.map V.str)) ∧ (∀ x ∈ Ls, badB x = true) ∧ Ls.length = 21 := ⟨Y0 ++ [_, _, _, _, _, _, _, _, _, _], by rw [kb1, List.map_append]; rfl, bad_app d0 (by decide +kernel), by rw [List.length_append, c0]; rfl⟩
  have g1 := g0.trans (ga1.trans gb1)
  clear kb1 ka1 f1 e0 d0 c0 z1
  walk_at "rz"
  simp only [L2.start, List.map_cons, List.map_nil, List.length_cons, List.length_nil, List.replicate, List.cons_append, List.nil_append, List.set_cons_zero, List.set_cons_succ]
  refine ⟨by omega, fun a2 A2 ha2 ga2 ka2 => ?_⟩
  have f2 := ga2 _ _ e1
  have z1 := lz Y1
  walk_at "rz"
  refine ⟨by omega, fun b2 B2 hb2 gb2 kb2 => ?_⟩
  obtain ⟨Y2, e2, d2, c2⟩ : ∃ Ls : List Str, B2 b2 = some (.lst (Ls.map V.str)) ∧ (∀ x ∈ Ls, badB x = true) ∧ Ls.length = 30 := ⟨Y1 ++ [_, _, _, _, _, _, _, _, _], by rw [kb2, List.map_append]; rfl, bad_app d1 (by decide +kernel), by rw [List.length_append, c1]; rfl⟩
  have g2 := g1.trans (ga2.trans gb2)
  clear kb2 ka2 f2 e1 d1 c1 z1
  walk_at "rz"
  simp only [L2.start, List.map_cons, List.map_nil, List.length_cons, List.length_nil, List.replicate, List.cons_append, List.nil_append, List.set_cons_zero, List.set_cons_succ]
  refine ⟨by omega, fun a3 A3 ha3 ga3 ka3 => ?_⟩
  have f3 := ga3 _ _ e2
  have z1 := lz Y2
  walk_at "rz"
  refine ⟨by omega, fun b3 B3 hb3 gb3 kb3 => ?_⟩
  obtain ⟨Y3, e3, d3, c3⟩ : ∃ Ls : List Str, B3 b3 = some (.lst (Ls.map V.str)) ∧ (∀ x ∈ Ls, badB x = true) ∧ Ls.length = 38 := ⟨Y2 ++ [_, _, _, _, _, _, _, _], by rw [kb3, List.map_append]; rfl, bad_app d2 (by decide +kernel), by rw [List.length_append, c2]; rfl⟩
  have g3 := g2.trans (ga3.trans gb3)
  clear kb3 ka3 f3 e2 d2 c2 z1
  walk_at "rz"
  simp only [L2.start, List.map_cons, List.map_nil, List.length_cons, List.length_nil, List.replicate, List.cons_append, List.nil_append, List.set_cons_zero, List.set_cons_succ]
  refine ⟨by omega, fun a4 A4 ha4 ga4 ka4 => ?_⟩
  have f4 := ga4 _ _ e3
  have z1 := lz Y3
  walk_at "rz"
  refine ⟨by omega, fun b4 B4 hb4 gb4 kb4 => ?_⟩
  obtain ⟨Y4, e4, d4, c4⟩ : ∃ Ls : List Str, B4 b4 = some (.lst (Ls.map V.str)) ∧ (∀ x ∈ Ls, badB x = true) ∧ Ls.length = 46 := ⟨Y3 ++ [_, _, _, _, _, _, _, _], by rw [kb4, List.map_append]; rfl, bad_app d3 (by decide +kernel), by rw [List.length_append, c3]; rfl⟩
  have g4 := g3.trans (ga4.trans gb4)
  clear kb4 ka4 f4 e3 d3 c3 z1
  walk_at "rz"
  simp only [L2.start, List.map_cons, List.map_nil, List.length_cons, List.length_nil, List.replicate, List.cons_append, List.nil_append, List.set_cons_zero, List.set_cons_succ]
  refine ⟨by omega, fun a5 A5 ha5 ga5 ka5 => ?_⟩
  have f5 := ga5 _ _ e4
  have z1 := lz Y4
  walk_at "rz"
  refine ⟨by omega, fun b5 B5 hb5 gb5 kb5 => ?_⟩
  obtain ⟨Y5, e5, d5, c5⟩ : ∃ Ls : List Str, B5 b5 = some (.lst (Ls.map V.str)) ∧ (∀ x ∈ Ls, badB x = true) ∧ Ls.length = 54 := ⟨Y4 ++ [_, _, _, _, _, _, _, _], by rw [kb5, List.map_append]; rfl, bad_app d4 (by decide +kernel), by rw [List.length_append, c4]; rfl⟩
  have g5 := g4.trans (ga5.trans gb5)
  clear kb5 ka5 f5 e4 d4 c4 z1
  walk_at "rz"
  simp only [L2.start, List.map_cons, List.map_nil, List.length_cons, List.length_nil, List.replicate, List.cons_append, List.nil_append, List.set_cons_zero, List.set_cons_succ]
  refine ⟨by omega, fun a6 A6 ha6 ga6 ka6 => ?_⟩
  have f6 := ga6 _ _ e5
  have z1 := lz Y5
  walk_at "rz"
  refine ⟨by omega, fun b6 B6 hb6 gb6 kb6 => ?_⟩
  obtain ⟨Y6, e6, d6, c6⟩ : ∃ Ls : List Str, B6 b6 = some (.lst (Ls.map V.str)) ∧ (∀ x ∈ Ls, badB x = true) ∧ Ls.length = 64 := ⟨Y5 ++ [_, _, _, _, _, _, _, _, _, _], by rw [kb6, List.map_append]; rfl, bad_app d5 (by decide +kernel), by rw [List.length_append, c5]; rfl⟩
  have g6 := g5.trans (ga6.trans gb6)
  clear kb6 ka6 f6 e5 d5 c5 z1
  walk_at "rz"
  simp only [L2.start, List.map_cons, List.map_nil, List.length_cons, List.length_nil, List.replicate, List.cons_append, List.nil_append, List.set_cons_zero, List.set_cons_succ]
  refine ⟨by omega, fun a7 A7 ha7 ga7 ka7 => ?_⟩
  have f7 := ga7 _ _ e6
  have z1 := lz Y6
  walk_at "rz"
  refine ⟨by omega, fun b7 B7 hb7 gb7 kb7 => ?_⟩
  obtain ⟨Y7, e7, d7, c7⟩ : ∃ Ls : List Str, B7 b7 = some (.lst (Ls.map V.str)) ∧ (∀ x ∈ Ls, badB x = true) ∧ Ls.length = 72 := ⟨Y6 ++ [_, _, _, _, _, _, _, _], by rw [kb7, List.map_append]; rfl, bad_app d6 (by decide +kernel), by rw [List.length_append, c6]; rfl⟩
  have g7 := g6.trans (ga7.trans gb7)
  clear kb7 ka7 f7 e6 d6 c6 z1
  walk_at "rz"
  simp only [L2.start, List.map_cons, List.map_nil, List.length_cons, List.length_nil, List.replicate, List.cons_append, List.nil_append, List.set_cons_zero, List.set_cons_succ]
  refine ⟨by omega, fun a8 A8 ha8 ga8 ka8 => ?_⟩
  have f8 := ga8 _ _ e7
  have z1 := lz Y7
  walk_at "rz"
  refine ⟨by omega, fun b8 B8 hb8 gb8 kb8 => ?_⟩
  obtain ⟨Y8, e8, d8, c8⟩ : ∃ Ls : List Str, B8 b8 = some (.lst (Ls.map V.str)) ∧ (∀ x ∈ Ls, badB x = true) ∧ Ls.length = 79 := ⟨Y7 ++ [_, _, _, _, _, _, _], by rw [kb8, List.map_append]; rfl, bad_app d7 (by decide +kernel), by rw [List.length_append, c7]; rfl⟩
  have g8 := g7.trans (ga8.trans gb8)
  clear kb8 ka8 f8 e7 d7 c7 z1
  walk_at "rz"
  simp only [L2.start, List.map_cons, List.map_nil, List.length_cons, List.length_nil, List.replicate, List.cons_append, List.nil_append, List.set_cons_zero, List.set_cons_succ]
  repeat (refine ⟨by first | (unfold MulOk; decide +kernel) | decide +kernel, ?_⟩; try walk_at "rz")
  intro a9 A9 ha9 ga9 ka9
  have f9 := ga9 _ _ e8
  have z1 := lz Y8
  walk_at "rz"
  refine ⟨by omega, fun b9 B9 hb9 gb9 kb9 => ?_⟩
  obtain ⟨Y9, e9, d9, c9⟩ : ∃ Ls : List Str, B9 b9 = some (.lst (Ls.map V.str)) ∧ (∀ x ∈ Ls, badB x = true) ∧ Ls.length = 86 := ⟨Y8 ++ [_, _, _, _, _, _, _], by rw [kb9, List.map_append]; rfl, bad_app d8 (by decide +kernel), by rw [List.length_append, c8]; rfl⟩
  have g9 := g8.trans (ga9.trans gb9)
  clear kb9 ka9 f9 e8 d8 c8 z1
  walk_at "rz"
  simp only [L2.start, List.map_cons, List.map_nil, List.length_cons, List.length_nil, List.replicate, List.cons_append, List.nil_append, List.set_cons_zero, List.set_cons_succ]
  refine ⟨by omega, fun a10 A10 ha10 ga10 ka10 => ?_⟩
  have f10 := ga10 _ _ e9
  have z1 := lz Y9
  walk_at "rz"
  refine ⟨by omega, fun b10 B10 hb10 gb10 kb10 => ?_⟩
  obtain ⟨Y10, e10, d10, c10⟩ : ∃ Ls : List Str, B10 b10 = some (.lst (Ls.map V.str)) ∧ (∀ x ∈ Ls, badB x = true) ∧ Ls.length = 95 := ⟨Y9 ++ [_, _, _, _, _, _, _, _, _], by rw [kb10, List.map_append]; rfl, bad_app d9 (by decide +kernel), by rw [List.length_append, c9]; rfl⟩
  have g10 := g9.trans (ga10.trans gb10)
  clear kb10 ka10 f10 e9 d9 c9 z1
  walk_at "rz"
  simp only [L2.start, List.map_cons, List.map_nil, List.length_cons, List.length_nil, List.replicate, List.cons_append, List.nil_append, List.set_cons_zero, List.set_cons_succ]
  repeat (refine ⟨by first | (unfold MulOk; decide +kernel) | decide +kernel, ?_⟩; try walk_at "rz")
  intro a11 A11 ha11 ga11 ka11
  have f11 := ga11 _ _ e10
  have z1 := lz Y10
  walk_at "rz"
  refine ⟨by omega, fun b11 B11 hb11 gb11 kb11 => ?_⟩
  obtain ⟨Y11, e11, d11, c11⟩ : ∃ Ls : List Str, B11 b11 = some (.lst (Ls.map V.str)) ∧ (∀ x ∈ Ls, badB x = true) ∧ Ls.length = 103 := ⟨Y10 ++ [_, _, _, _, _, _, _, _], by rw [kb11, List.map_append]; rfl, bad_app d10 (by decide +kernel), by rw [List.length_append, c10]; rfl⟩
  have g11 := g10.trans (ga11.trans gb11)
  clear kb11 ka11 f11 e10 d10 c10 z1
  walk_at "rz"
  simp only [L2.start, List.map_cons, List.map_nil, List.length_cons, List.length_nil, List.replicate, List.cons_append, List.nil_append, List.set_cons_zero, List.set_cons_succ]
  repeat (refine ⟨by first | (unfold MulOk; decide +kernel) | decide +kernel, ?_⟩; try walk_at "rz")
  intro a12 A12 ha12 ga12 ka12
  have f12 := ga12 _ _ e11
  have z1 := lz Y11
  walk_at "rz"
  refine ⟨by omega, fun b12 B12 hb12 gb12 kb12 => ?_⟩
  obtain ⟨Y12, e12, d12, c12⟩ : ∃ Ls : List Str, B12 b12 = some (.lst (Ls.map V.str)) ∧ (∀ x ∈ Ls, badB x = true) ∧ Ls.length = 107 := ⟨Y11 ++ [_, _, _, _], by rw [kb12, List.map_append]; rfl, bad_app d11 (by decide +kernel), by rw [List.length_append, c11]; rfl⟩
  have g12 := g11.trans (ga12.trans gb12)
  clear kb12 ka12 f12 e11 d11 c11 z1
  walk_at "rz"
  simp only [L2.start, List.map_cons, List.map_nil, List.length_cons, List.length_nil, List.replicate, List.cons_append, List.nil_append, List.set_cons_zero, List.set_cons_succ]
  intro a13 A13 ha13 ga13 ka13
  have f13 := ga13 _ _ e12
  have z1 := lz Y12
  walk_at "rz"
  refine ⟨by omega, fun b13 B13 hb13 gb13 kb13 => ?_⟩
  obtain ⟨Y13, e13, d13, c13⟩ : ∃ Ls : List Str, B13 b13 = some (.lst (Ls.map V.str)) ∧ (∀ x ∈ Ls, badB x = true) ∧ Ls.length = 113 := ⟨Y12 ++ [_, _, _, _, _, _], by rw [kb13, List.map_append]; rfl, bad_app d12 (by decide +kernel), by rw [List.length_append, c12]; rfl⟩
  have g13 := g12.trans (ga13.trans gb13)
  clear kb13 ka13 f13 e12 d12 c12 z1
  walk_at "rz"
  simp only [L2.start, List.map_cons, List.map_nil, List.length_cons, List.length_nil, List.replicate, List.cons_append, List.nil_append, List.set_cons_zero, List.set_cons_succ]
  intro a14 A14 ha14 ga14 ka14
  have f14 := ga14 _ _ e13
  have z1 := lz Y13
  walk_at "rz"
  refine ⟨by omega, fun b14 B14 hb14 gb14 kb14 => ?_⟩
  obtain ⟨Y14, e14, d14, c14⟩ : ∃ Ls : List Str, B14 b14 = some (.lst (Ls.map V.str)) ∧ (∀ x ∈ Ls, badB x = true) ∧ Ls.length = 119 := ⟨Y13 ++ [_, _, _, _, _, _], by rw [kb14, List.map_append]; rfl, bad_app d13 (by decide +kernel), by rw [List.length_append, c13]; rfl⟩
  have g14 := g13.trans (ga14.trans gb14)
  clear kb14 ka14 f14 e13 d13 c13 z1
  walk_at "rz"
  simp only [L2.start, List.map_cons, List.map_nil, List.length_cons, List.length_nil, List.replicate, List.cons_append, List.nil_append, List.set_cons_zero, List.set_cons_succ]
  intro a15 A15 ha15 ga15 ka15
  have f15 := ga15 _ _ e14
  have z1 := lz Y14
  walk_at "rz"
  refine ⟨by omega, fun b15 B15 hb15 gb15 kb15 => ?_⟩
  obtain ⟨Y15, e15, d15, c15⟩ : ∃ Ls : List Str, B15 b15 = some (.lst (Ls.map V.str)) ∧ (∀ x ∈ Ls, badB x = true) ∧ Ls.length = 125 := ⟨Y14 ++ [_, _, _, _, _, _], by rw [kb15, List.map_append]; rfl, bad_app d14 (by decide +kernel), by rw [List.length_append, c14]; rfl⟩
  have g15 := g14.trans (ga15.trans gb15)
  clear kb15 ka15 f15 e14 d14 c14 z1
  walk_at "rz"
  simp only [L2.start, List.map_cons, List.map_nil, List.length_cons, List.length_nil, List.replicate, List.cons_append, List.nil_append, List.set_cons_zero, List.set_cons_succ]
  have z1 := lz Y15
  refine ⟨cc, 70, rfl, by decide, by decide, fun m m0 m1 => ?_⟩
  walk_at "rz"
  refine ⟨by decide, ?_⟩
  rw [z1, c15]
  obtain ⟨x, ex, mx⟩ := pickS (l := Y15) (i := m % 125) (by omega) (by omega)
  have dx := d15 x mx
  clear c15 d15 z1 mx
  walk_at "rz"
  exact ⟨_, ex, q x _ dx g15⟩
end
end K09
namespace K09
open PySem L2
structure ZokN (n : Nat) (z : Rs) : Prop where
  hh : z.fr ≠ [] → z.hn ≠ []
  l6 : z.fr.length ≤ 6
  ak : ∀ x ∈ z.fr, asc x
  ah : ∀ x ∈ z.hn, asc x
  l1 : z.tn.length ≤ n
  l2 : z.sn.length ≤ n
  l3 : z.rn.length ≤ n
  l4 : z.hn.length ≤ n
theorem ZokN.ok {n : Nat} {z : Rs} (h : ZokN n z) (l : n ≤ 200) : Zok z := ⟨h.hh, h.l6, h.ak, h.ah, Nat.le_trans h.l1 l, Nat.le_trans h.l2 l, Nat.le_trans h.l3 l, Nat.le_trans h.l4 l⟩
theorem ZokN.up {n : Nat} {z : Rs} (h : ZokN n z) : ZokN (n + 1) z := ⟨h.hh, h.l6, h.ak, h.ah, Nat.le_succ_of_le h.l1, Nat.le_succ_of_le h.l2, Nat.le_succ_of_le h.l3, Nat.le_succ_of_le h.l4⟩
theorem asc_snoc {l : List Str} {x : Str} (h : ∀ y ∈ l, asc y) (hx : asc x) : ∀ y ∈ l ++ [x], asc y := fun y hy => by
  rcases List.mem_append.mp hy with z | z
  · exact h y z
  · rw [List.mem_singleton.mp z]; exact hx
theorem asc_k : asc "hand" ∧ asc "if" ∧ asc "while" ∧ asc "else" := by
  have : ∀ x ∈ ([Str.ofString "hand", Str.ofString "if", Str.ofString "while", Str.ofString "else"] : List Str), ∀ c ∈ x.cps.toList, c < 128 := by decide +kernel
  exact ⟨this _ (by simp), this _ (by simp), this _ (by simp), this _ (by simp)⟩
theorem ZokN.next {n : Nat} {z : Rs} {r : Rw} (h : ZokN n z) (d : dueR z r = 0) (a : asc (nameS r)) : ZokN (n + 1) (nxtR z r) := by
  obtain ⟨d1, d2, d3, d4⟩ := due0 d
  have u := h.up
  cases r with
  | tool nm m => exact { u with l1 := by simp [nxtR]; exact h.l1 }
  | store nm m m2 => exact { u with l2 := by simp [nxtR]; exact h.l2 }
  | row nm ns => exact { u with l3 := by simp [nxtR]; exact h.l3 }
  | hand nm ns =>
    have e : z.fr = [] := by simpa [outP] using d1
    exact { u with hh := fun _ => by simp [nxtR], l6 := by simp [nxtR, e], ak := asc_snoc h.ak asc_k.1, ah := asc_snoc h.ah a, l4 := by simp [nxtR]; exact h.l4 }
  | els =>
    have e : z.fr.isEmpty = false ∧ z.fr.getLastD "" = "if" := by simpa [outP] using d1
    have e1 := h.l6
    have e2 := List.length_pos_iff.mpr (ne_last e.1)
    exact { u with hh := fun _ => h.hh (ne_last e.1), l6 := (by simp [nxtR]; omega), ak := asc_snoc (fun y hy => h.ak y (List.dropLast_subset _ hy)) asc_k.2.2.2 }
  | fin =>
    have e : z.fr.isEmpty = false := d1
    have e1 := h.l6
    exact { u with hh := fun _ => h.hh (ne_last e), l6 := (by simp [nxtR]; omega), ak := fun y hy => h.ak y (List.dropLast_subset _ hy) }
  | iff =>
    have e : z.fr.isEmpty = false := d1
    have f : ¬ z.fr.length = 6 := of_decide_eq_false d2
    have e1 := h.l6
    exact { u with hh := fun _ => h.hh (ne_last e), l6 := (by simp [nxtR]; omega), ak := asc_snoc h.ak asc_k.2.1 }
  | whl =>
    have e : z.fr.isEmpty = false := d1
    have f : ¬ z.fr.length = 6 := of_decide_eq_false d2
    have e1 := h.l6
    exact { u with hh := fun _ => h.hh (ne_last e), l6 := (by simp [nxtR]; omega), ak := asc_snoc h.ak asc_k.2.2.1 }
  | plain => exact u
def Tot (H0 : Hp) (σ : St) (t : TT) : Prop := ∀ H, Same H0 H → ∀ Q : Bool → Hp → Prop, (∀ b H', Same H H' → Q b H') → t σ H Q
theorem seq_ms {t u : TS} {D : L2.Ends} {σ : St} {H : Hp} (Z : St → Hp → Prop) (h1 : ∀ D' : L2.Ends, D'.nx = Z → t D' σ H) (h2 : ∀ σ' H', Z σ' H' → u D σ' H') : tSeq (tMs t) u D σ H := ⟨Z, h1 _ rfl, h2⟩
def rowV (t : Str) : Option Rw → List V
  | none => [.str t, .str "bad", .str "", .bl true]
  | some r => [.str t, .str (kindS r), .str (nameS r), .bl (okB r)]
def ascO : Option Rw → Prop
  | none => True
  | some r => asc (nameS r)
def IsRow (H : Hp) (v : V) (t : Str) (o : Option Rw) : Prop := ∃ p, v = .ref p ∧ H p = some (.lst (rowV t o)) ∧ RowIs t o ∧ Rt t ∧ ascO o
inductive RwL (H : Hp) : List V → List Str → List (Option Rw) → Prop
  | nil : RwL H [] [] []
  | cons {v : V} {t : Str} {o : Option Rw} {vs : List V} {ts : List Str} {os : List (Option Rw)} : IsRow H v t o → RwL H vs ts os → RwL H (v :: vs) (t :: ts) (o :: os)
def AllR (H : Hp) (vs : List V) : Prop := ∀ v ∈ vs, ∃ t o, IsRow H v t o
theorem IsRow.up {H H' : Hp} (g : ∀ a xs, H a = some (.lst xs) → H' a = some (.lst xs)) {v : V} {t : Str} {o : Option Rw} (h : IsRow H v t o) : IsRow H' v t o := by
  obtain ⟨p, e, hp, r⟩ := h
  exact ⟨p, e, g _ _ hp, r⟩
theorem AllR.up {H H' : Hp} (g : ∀ a xs, H a = some (.lst xs) → H' a = some (.lst xs)) {vs : List V} (h : AllR H vs) : AllR H' vs := fun v hv => by
  obtain ⟨t, o, r⟩ := h v hv
  exact ⟨t, o, r.up g⟩
theorem AllR.app {H : Hp} {vs ws : List V} (h : AllR H vs) (h2 : AllR H ws) : AllR H (vs ++ ws) := fun v hv => by
  rcases List.mem_append.mp hv with z | z
  · exact h v z
  · exact h2 v z
theorem AllR.one {H : Hp} {v : V} {t : Str} {o : Option Rw} (h : IsRow H v t o) : AllR H [v] := fun w hw => by rw [List.mem_singleton.mp hw]; exact ⟨t, o, h⟩
theorem AllR.rw {H : Hp} {vs : List V} (h : AllR H vs) : ∃ ts os, RwL H vs ts os := by
  induction vs with
  | nil => exact ⟨[], [], .nil⟩
  | cons v vs ih =>
    obtain ⟨t, o, r⟩ := h v List.mem_cons_self
    obtain ⟨ts, os, q⟩ := ih fun w hw => h w (List.mem_cons_of_mem _ hw)
    exact ⟨t :: ts, o :: os, .cons r q⟩
theorem RwL.up {H H' : Hp} (g : ∀ a xs, H a = some (.lst xs) → H' a = some (.lst xs)) {vs : List V} {ts : List Str} {os : List (Option Rw)} (h : RwL H vs ts os) : RwL H' vs ts os := by
  induction h with
  | nil => exact .nil
  | cons r _ ih => exact .cons (r.up g) ih
theorem RwL.len {H : Hp} {vs : List V} {ts : List Str} {os : List (Option Rw)} (h : RwL H vs ts os) : vs.length = ts.length ∧ os.length = ts.length := by
  induction h with
  | nil => exact ⟨rfl, rfl⟩
  | cons _ _ ih => simp [ih.1, ih.2]
theorem RwL.get {H : Hp} {vs : List V} {ts : List Str} {os : List (Option Rw)} (h : RwL H vs ts os) : ∀ {i : Nat} {v : V}, vs[i]? = some v → ∃ t o, IsRow H v t o ∧ ts[i]? = some t ∧ os.drop i = o :: os.drop (i + 1) := by
  induction h with
  | nil => intro i v e; simp at e
  | @cons v t o vs ts os r _ ih =>
    intro i w e
    cases i with
    | zero => simp at e; subst e; exact ⟨t, o, r, rfl, rfl⟩
    | succ i =>
      obtain ⟨t', o', a, b, c⟩ := ih (i := i) (v := w) (by simpa using e)
      exact ⟨t', o', a, by simpa using b, by simpa using c⟩
theorem RwL.rows {H : Hp} {vs : List V} {ts : List Str} {os : List (Option Rw)} (h : RwL H vs ts os) : Rows ts os ∧ ∀ x ∈ ts, Rt x := by
  induction h with
  | nil => exact ⟨.nil, fun _ z => absurd z List.not_mem_nil⟩
  | cons r _ ih =>
    obtain ⟨p, _, _, a, b, _⟩ := r
    refine ⟨.cons a ih.1, fun x hx => ?_⟩
    rcases List.mem_cons.mp hx with rfl | z
    · exact b
    · exact ih.2 x z
theorem kind_bad (r : Rw) : ¬ kindS r = Str.ofString "bad" := by cases r <;> simp only [kindS] <;> decide +kernel
def judO : Option Nat → Int
  | none => -1
  | some c => c
section
variable {P : Program} {w : World} {K : PySem.W.Frag} {mg : Str → Option Value} {base : Heap}
def spJu : Sp := fun vs H Q _ => ∃ (l : Addr) (xs : List V) (ts : List Str) (os : List (Option Rw)), vs = [.ref l] ∧ H l = some (.lst xs) ∧ RwL H xs ts os ∧ xs.length ≤ 1000 ∧ ∀ H', Same H H' → Q (.int (judO (if 120 < xs.length then some 2 else runF s0 os))) H'
def JuI (l : Addr) (c : Lw) (os : List (Option Rw)) (Hb : Hp) (i : Nat) (σ : St) (H' : Hp) : Prop := ∃ (z : Rs) (v2 v3 : Option V), σ = [some (.ref l), some (.ref c.st), v2, v3] ∧ LSt Hb c z H' ∧ ZokN i z ∧ runF z (os.drop i) = runF s0 os
theorem ok_ju (D : DefAt K mg "_law_judged" s__law_judged ["rows"]) (G__law_due : OkD P w K mg base 2 "_law_due" ["state", "row"] spDue) (G__law_do : OkD P w K mg base 1 "_law_do" ["state", "row"] spDo) (hlen : mg "len" = none) (hint : mg "int" = none) : OkD P w K mg base 3 "_law_judged" ["rows"] spJu := by
  refine D.ok sc__law_judged (fun vs H Q E h => ?_) (fun f cdv A outer s H vs Q E hr h => ?_)
  · obtain ⟨_, _, _, _, rfl, _⟩ := h; rfl
  obtain ⟨l, xs, ts, os, rfl, hl, rw', lx, q⟩ := h
  have big : 3000000 ≤ sizeLine := by unfold sizeLine; decide
  have hu64 := hr.units
  have hl' := PLift.up hl
  clear hl
  refine ⟨_, (pss_cons (ps_set (i := 1) sc__law_judged.nd rfl (Or.inl rfl) (pe_lstG (pa_c (pe_lstG pa_nil) (pa_c (pe_dispG (pps_cons pe_str (pe_lstG pa_nil) (pps_cons pe_str (pe_lstG pa_nil) (pps_cons pe_str (pe_lstG pa_nil) (pps_cons pe_str (pe_lstG pa_nil) pps_nil)))) rfl rfl (by simp) (by decide)) pa_nil))))
  (pss_cons (ps_if (pt_cmpR op_gt (pe_cB call_lenG rfl hlen PySem.boot_len (pa_c (pv 0) pa_nil)) pe_int (nomark _))
  (pss_one (ps_ret pe_int))
  pss_nil)
  (pss_cons (ps_for PassesOwn.never rfl (pi_list (pv 0)) (pg_name (i := 2) sc__law_judged.nd rfl (Or.inl rfl))
  (pss_cons (ps_if (pt_cmpR op_eq (pe_ix ix_g (pv 2) pe_int (fun _ _ => rfl)) pe_str (nomark _))
  (pss_one (ps_ret pe_int))
  pss_nil)
  (pss_cons (ps_set (i := 3) sc__law_judged.nd rfl (Or.inl rfl) (pe_def G__law_due hr rfl (pa_c (pv 1) (pa_c (pv 2) pa_nil))))
  (pss_cons (ps_if (pt_cmpR op_gt (pv 3) pe_int (nomark _))
  (pss_one (ps_ret (pv 3)))
  pss_nil)
  (pss_one (ps_expr (pe_def G__law_do hr rfl (pa_c (pv 1) (pa_c (pv 2) pa_nil)))))))))
  (pss_one (ps_ret (pe_ix ix_g (pe_lstG (pa_c (pe_un un_neg pe_int) (pa_c pe_int pa_nil))) (pe_cTy call_intB rfl hint (by decide +kernel) (pa_c (pe_cmpR (op_neD hu64) (pe_ix ix_g (pv 1) pe_int (fun _ _ => rfl)) (pe_lstG pa_nil) (nomark _)) pa_nil)) (fun _ _ => rfl))))))), ?_⟩
  walk_at "rz"
  intro op H1 hop g1 h1
  have h1' := PLift.up h1
  clear h1
  walk_at "rz"
  intro dn H2 hdn g2 h2
  have h2' := PLift.up h2
  clear h2
  walk_at "rz"
  intro at_ H3 hat g3 h3
  have h3' := PLift.up h3
  clear h3
  walk_at "rz"
  intro as_ H4 has g4 h4
  have h4' := PLift.up h4
  clear h4
  walk_at "rz"
  intro ar H5 har g5 h5
  have h5' := PLift.up h5
  clear h5
  walk_at "rz"
  intro ah H6 hah g6 h6
  have h6' := PLift.up h6
  clear h6
  walk_at "rz"
  have g26 := g3.trans (g4.trans (g5.trans g6))
  refine ⟨g26 _ _ h2'.down, _, rfl, by simp, fun H7 mu => ?_⟩
  walk_at "rz"
  intro st H8 hst g8 h8
  obtain ⟨c, ec⟩ : ∃ c : Lw, c = ⟨st, op, dn, at_, as_, ar, ah⟩ := ⟨_, rfl⟩
  have i8 : LSt H c s0 H8 := by
    subst ec
    have m : ∀ {x y : Addr} {A B : Hp} {o : HO}, A x = some o → Same A B → B y = none → x ≠ y := fun h g hn z => by rw [← z, g _ _ h] at hn; cases hn
    have ld : ∀ {x : Addr}, H6 x = some (.lst []) → x ≠ dn := fun h z => by have := g26 _ _ h2'.down; rw [← z, h] at this; cases this
    have k1 : H6 op = some (.lst []) := g26 _ _ (g2 _ _ h1'.down)
    have k3 : H6 at_ = some (.lst []) := g6 _ _ (g5 _ _ (g4 _ _ h3'.down))
    have k4 : H6 as_ = some (.lst []) := g6 _ _ (g5 _ _ h4'.down)
    have k5 : H6 ar = some (.lst []) := g6 _ _ h5'.down
    have k6 : H6 ah = some (.lst []) := h6'.down
    have e1 := mu.old k1 (ld k1)
    have e3 := mu.old k3 (ld k3)
    have e4 := mu.old k4 (ld k4)
    have e5 := mu.old k5 (ld k5)
    have e6 := mu.old k6 (ld k6)
    have sd : st ≠ dn := fun z => by rw [z, mu.at_] at hst; cases hst
    have hst6 : H6 st = none := by rw [← mu.else_ st sd]; exact hst
    have g06 : Same H H6 := g1.trans (g2.trans g26)
    have n1 := hop
    have n3 : H at_ = none := g1.free (g2.free hat)
    have n4 : H as_ = none := g1.free (g2.free (g3.free has))
    have n5 : H ar = none := g1.free (g2.free (g3.free (g4.free har)))
    have n6 : H ah = none := g1.free (g2.free (g3.free (g4.free (g5.free hah))))
    have n0 : H st = none := g06.free hst6
    have q12 := m h1'.down g2 hat
    have q13 := m h1'.down (g2.trans g3) has
    have q14 := m h1'.down (g2.trans (g3.trans g4)) har
    have q15 := m h1'.down (g2.trans (g3.trans (g4.trans g5))) hah
    have q23 := m h3'.down (Same.refl _) has
    have q24 := m h3'.down g4 har
    have q25 := m h3'.down (g4.trans g5) hah
    have q34 := m h4'.down (Same.refl _) har
    have q35 := m h4'.down g5 hah
    have q45 := m h5'.down (Same.refl _) hah
    have s1 := (m k1 (Same.refl _) hst6).symm
    have s3 := (m k3 (Same.refl _) hst6).symm
    have s4 := (m k4 (Same.refl _) hst6).symm
    have s5 := (m k5 (Same.refl _) hst6).symm
    have s6 := (m k6 (Same.refl _) hst6).symm
    refine ⟨(mu.same g06 (g1.free hdn)).trans g8, h8, g8 _ _ mu.at_, g8 _ _ e1, g8 _ _ e3, g8 _ _ e4, g8 _ _ e5, g8 _ _ e6, ?_, ?_⟩
    · simp [Lw.all, q12, q13, q14, q15, q23, q24, q25, q34, q35, q45, s1, s3, s4, s5, s6]
    · intro x hx
      simp only [Lw.all, List.mem_cons, List.not_mem_nil, or_false] at hx
      rcases hx with rfl | rfl | rfl | rfl | rfl | rfl
      · exact n0
      · exact n1
      · exact n3
      · exact n4
      · exact n5
      · exact n6
  have es : st = c.st := by rw [ec]
  subst es
  clear ec h8 h1' h2' h3' h4' h5' h6' mu g8 g26 g1 g2 g3 g4 g5 g6 hop hdn hat has har hah hst
  have hl8 := i8.same _ _ hl'.down
  walk_at "rz"
  refine ite2 (fun c1 => ?_) fun c1 => ?_
  · have c1' : PLift (120 < xs.length) := ⟨by omega⟩
    clear c1
    have q := q _ i8.same
    rw [if_pos c1'.down] at q
    clear hl8
    walk_at "rz"
    exact q
  have c1' : PLift (¬ 120 < xs.length) := ⟨by omega⟩
  clear c1 hl8
  rw [if_neg c1'.down] at q
  walk_at "rz"
  refine tfor_in ?_
  simp only [iList]
  walk_at "rz"
  refine ⟨⟨_, SqL.of (i8.same _ _ hl'.down)⟩, for_list (xs := xs) (JuI l c os H) ⟨s0, none, none, rfl, i8, ⟨fun z => absurd rfl z, Nat.zero_le _, fun _ z => absurd z List.not_mem_nil, fun _ z => absurd z List.not_mem_nil, Nat.le_refl _, Nat.le_refl _, Nat.le_refl _, Nat.le_refl _⟩, rfl⟩ (fun i σ H2 _ z => ?_) (fun i x σ H2 hx zz => ?_) fun σ H2 zz => ?_⟩
  · obtain ⟨_, _, _, _, i2, _⟩ := z
    exact SqL.of (i2.same _ _ hl'.down)
  · obtain ⟨z, v2, v3, rfl, i2, zo, er⟩ := zz
    obtain ⟨t, o, ⟨p, rfl, hp, ri, rt, ao⟩, _, ed⟩ := rw'.get hx
    have hi : i < xs.length := (List.getElem?_eq_some_iff.mp hx).1
    have hp2 := i2.same _ _ hp
    have np : p ∉ c.all := fun z => by have := i2.new p z; rw [hp] at this; cases this
    have l120 := c1'.down
    have zk := zo.ok (by omega)
    rw [ed] at er
    cases o with
    | none =>
      have q := q _ i2.same
      rw [← er] at q
      replace hp2 : H2 p = some (.lst [.str t, .str (Str.ofString "bad"), .str (Str.ofString ""), .bl true]) := hp2
      walk_at "rz"
      exact q
    | some r =>
      replace hp2 : H2 p = some (.lst [.str t, .str (kindS r), .str (nameS r), .bl (okB r)]) := hp2
      walk_at "rz"
      refine ite2 (fun cb => absurd cb (kind_bad r)) fun cb => ?_
      clear cb
      have hp2' := PLift.up hp2
      walk_at "rz"
      refine ⟨H, c, z, p, t, r, rfl, i2, zk, hp2'.down, fun H3 g3 => ?_⟩
      have i3 := i2.up g3
      have hp3 := PLift.up (g3 _ _ hp2)
      clear hp2
      walk_at "rz"
      refine ite2 (fun cd => ?_) fun cd => ?_
      · have cd' : PLift (dueR z r ≠ 0) := ⟨by omega⟩
        clear cd
        have q := q _ i3.same
        rw [← er, run_bad rfl cd'.down] at q
        walk_at "rz"
        exact q
      · have cd' : PLift (dueR z r = 0) := ⟨by omega⟩
        clear cd
        walk_at "rz"
        refine ⟨H, c, z, p, t, r, rfl, i3, zk, hp3.down, np, cd'.down, fun H4 i4 oth => ?_⟩
        exact ⟨nxtR z r, _, _, rfl, i4, zo.next cd'.down ao, by rw [← er, run_ok cd'.down]⟩
  · obtain ⟨z, v2, v3, rfl, i2, zo, er⟩ := zz
    rw [List.drop_of_length_le (by have := rw'.len; omega)] at er
    have er' : (if z.fr.isEmpty then none else some 6) = runF s0 os := er
    have op2 := PLift.up i2.op
    walk_at "rz"
    intro e1 H3 he1 g3 h3
    have h3' : PLift (H3 e1 = some (.lst [.int (-1), .int 6])) := ⟨h3⟩
    have st3 := (i2.up g3).st
    clear h3
    walk_at "rz"
    intro e2 H4 he2 g4 h4
    refine str_ne (g4 _ _ (g3 _ _ op2.down)) zo.ak h4 ?_
    have h4' := g4 _ _ h3'.down
    have q := q _ (i2.same.trans (g3.trans g4))
    rw [← er'] at q
    clear h4 st3 er er'
    cases ee : z.fr.isEmpty with
    | true =>
      rw [ee] at q
      clear ee
      walk_at "rz"
      exact q
    | false =>
      rw [ee] at q
      clear ee
      walk_at "rz"
      exact q
end
end K09
namespace K09
open PySem L2
theorem kind_asc (r : Rw) : asc (kindS r) := by
  have : ∀ x ∈ ([Str.ofString "tool", Str.ofString "store", Str.ofString "row", Str.ofString "hand", Str.ofString "else", Str.ofString "end", Str.ofString "if", Str.ofString "while", Str.ofString "plain"] : List Str), ∀ c ∈ x.cps.toList, c < 128 := by decide +kernel
  cases r <;> exact this _ (by simp [kindS])
def rowD (t : Str) : Option Rw → PyData
  | none => .list [.str t, .str "bad", .str "", .bool true]
  | some r => .list [.str t, .str (kindS r), .str (nameS r), .bool (okB r)]
theorem bad_asc : asc "bad" ∧ asc "" := by
  have : ∀ x ∈ ([Str.ofString "bad", Str.ofString ""] : List Str), ∀ c ∈ x.cps.toList, c < 128 := by decide +kernel
  exact ⟨this _ (by simp), this _ (by simp)⟩
theorem row_rp {K : PySem.W.Frag} {H : Hp} {v : V} {t : Str} {o : Option Rw} (h : IsRow H v t o) : Rp K H v (rowD t o) ∧ (rowD t o).canLay0 = true ∧ (rowD t o).depth ≤ 3 := by
  obtain ⟨p, rfl, hp, _, rt, ao⟩ := h
  cases o with
  | none =>
    refine ⟨.lst hp (.cons (.str _) (.cons (.str _) (.cons (.str _) (.cons (.bl _) .nil)))), ?_, ?_⟩
    · simp [rowD, PyData.canLay0, PyData.canLayAll0, asc_ok rt.2.2, asc_ok bad_asc.1, asc_ok bad_asc.2]
    · simp [rowD, PyData.depth, PyData.depthAll]
  | some r =>
    refine ⟨.lst hp (.cons (.str _) (.cons (.str _) (.cons (.str _) (.cons (.bl _) .nil)))), ?_, ?_⟩
    · have a2 : asc (nameS r) := ao
      simp [rowD, PyData.canLay0, PyData.canLayAll0, asc_ok rt.2.2, asc_ok (kind_asc r), asc_ok a2]
    · simp [rowD, PyData.depth, PyData.depthAll]
theorem rows_rp {K : PySem.W.Frag} {H : Hp} {vs : List V} (h : AllR H vs) : ∃ ds, RpL K H vs ds ∧ PyData.canLayAll0 ds = true ∧ PyData.depthAll ds ≤ 3 := by
  induction vs with
  | nil => exact ⟨[], .nil, rfl, Nat.zero_le _⟩
  | cons v vs ih =>
    obtain ⟨t, o, r⟩ := h v List.mem_cons_self
    obtain ⟨ds, a, b, c⟩ := ih fun w hw => h w (List.mem_cons_of_mem _ hw)
    obtain ⟨a1, b1, c1⟩ := row_rp (K := K) r
    exact ⟨rowD t o :: ds, .cons a1 a, by rw [PyData.canLayAll0, b1, b]; rfl, by rw [PyData.depthAll]; omega⟩
theorem eqv_nilD {ds : List PyData} : PyData.eqv (.list ds) (.list []) = ds.isEmpty := by
  cases ds with
  | nil => decide
  | cons d ds => simp [PyData.eqv, PyData.eqvAll]
theorem rows_eq {K : PySem.W.Frag} {H : Hp} {a p : Addr} {vs : List V} {Kx : VK} (ha : H a = some (.lst vs)) (r : AllR H vs) (hp : H p = some (.lst [])) (k : Kx (.bl vs.isEmpty) H) : rEqD K (.ref a) (.ref p) H Kx := by
  obtain ⟨ds, x, y, z⟩ := rows_rp (K := K) r
  refine ⟨.list ds, .list [], .lst ha x, .lst hp .nil, ?_, by decide, ?_⟩
  · unfold SeqAt.shaped
    rw [show PyData.canLay0 (.list ds) = true from y, Bool.true_and, decide_eq_true_eq]
    simp only [PyData.depth]
    omega
  · rw [eqv_nilD, show ds.isEmpty = vs.isEmpty by cases x <;> rfl]
    exact k
theorem same_lst {H H' : Hp} (g : Same H H') : ∀ a xs, H a = some (.lst xs) → H' a = some (.lst xs) := fun a xs h => g _ _ h
theorem hide_lst {H : Hp} {D : Addr} : ∀ a xs, hide D H a = some (.lst xs) → H a = some (.lst xs) := fun a xs h => (hide_inv h).2
section
variable {P : Program} {w : World} {K : PySem.W.Frag} {mg : Str → Option Value} {base : Heap}
def spLaw (K : PySem.W.Frag) : Sp := fun vs H Q _ => ∃ (a : Addr) (ns : List Int), vs = [.ref a] ∧ SqL K H a (ns.map V.int) ∧ ns.length ≤ 63 ∧ ∀ H', Q (.bl true) H'
def LwI (a : Addr) (hd : Int) (r sc : Addr) (L : List V) (Hb : Hp) (i : Nat) (σ : St) (H' : Hp) : Prop := ∃ (vs : List V) (v3 : Option V), σ = [some (.ref a), some (.int hd), some (.ref r), v3, none, none, none, none, none] ∧ Same Hb H' ∧ H' r = some (.lst vs) ∧ AllR (hide r H') vs ∧ vs.length ≤ i ∧ H' sc = some (.lst L)
theorem tool_a1 : RowIs "tool a 1" (some (.tool "a" 1)) ∧ Rt "tool a 1" := by
  have h := tool_row (nm := "a") (n := 1) (by decide +kernel) (by decide)
  rw [show rowT [Str.ofString "tool", Str.ofString "a", numS 1] = Str.ofString "tool a 1" by decide +kernel] at h
  exact h
theorem hand_go : RowIs "hand go" (some (.hand "go" [])) ∧ Rt "hand go" := by
  have h := hand_row (nm := "go") (ns := []) (by decide +kernel) (by simp) (by simp)
  rw [show rowT [Str.ofString "hand", Str.ofString "go"] = Str.ofString "hand go" by decide +kernel] at h
  exact h
def RoI (a : Addr) (hd : Int) (Hb : Hp) (n : Nat) (σ : St) (H' : Hp) : Prop := ∃ (r : Addr) (vs : List V) (v3 : Option V), σ = [some (.ref a), some (.int hd), some (.ref r), v3, none, none, none, none, none] ∧ Same Hb H' ∧ H' r = some (.lst vs) ∧ AllR H' vs ∧ vs ≠ [] ∧ vs.length ≤ n
def RpI (a : Addr) (hd : Int) (Hb : Hp) (n : Nat) (σ : St) (H' : Hp) : Prop := ∃ (r : Addr) (vs : List V) (v3 v4 v5 v6 : Option V), σ = [some (.ref a), some (.int hd), some (.ref r), v3, v4, v5, v6, none, none] ∧ Same Hb H' ∧ H' r = some (.lst vs) ∧ AllR H' vs ∧ vs ≠ [] ∧ vs.length ≤ n
def CdP (d : Nat) (i : Nat) (ys : List V) (σ1 : St) (H' : Hp) : Prop := ys = (List.range i).map (fun (k : Nat) => V.bl (decide (k = d))) ∧ ∃ v0, σ1 = [v0, some (.int d)]
theorem code_sh : ∀ d ≤ 6, SeqAt.shaped (.list ((codeL (some d)).map PyData.bool)) = true := by decide +kernel
theorem rpl_bls {K : PySem.W.Frag} {H : Hp} : ∀ bs : List Bool, RpL K H (bs.map V.bl) (bs.map PyData.bool)
  | [] => .nil
  | b :: bs => .cons (.bl b) (rpl_bls bs)
theorem eq_same {K : PySem.W.Frag} {H : Hp} {x y : V} {d : PyData} {Kx : VK} (hx : Rp K H x d) (hy : Rp K H y d) (sh : SeqAt.shaped d = true) (k : Kx (.bl true) H) : rEqD K x y H Kx := by
  have h := sh
  unfold SeqAt.shaped at h
  rw [Bool.and_eq_true] at h
  refine ⟨d, d, hx, hy, sh, sh, ?_⟩
  rw [PySem.SeqAt.eqv_refl d h.1]
  exact k
theorem flat_len (n : Nat) (vs : List V) : (List.replicate n vs).flatten.length = n * vs.length := by
  induction n with
  | zero => simp
  | succ n ih => rw [List.replicate_succ, List.flatten_cons, List.length_append, ih, Nat.succ_mul]; omega
theorem allR_rep {H : Hp} {vs : List V} (n : Nat) (h : AllR H vs) : AllR H (List.replicate n vs).flatten := fun v hv => by
  obtain ⟨l, hl, m⟩ := List.mem_flatten.mp hv
  rw [(List.mem_replicate.mp hl).2] at m
  exact h v m
theorem cut_mem {xs : List V} {lo hi : Option Int} {v : V} (h : v ∈ cutV xs lo hi) : v ∈ xs := List.mem_of_mem_drop (List.mem_of_mem_take h)
theorem cut_len {xs : List V} {j : Int} (h : 0 ≤ j) : (cutV xs none (some j)).length ≤ j.toNat := by
  unfold cutV
  rw [HT.sIx_none, List.drop_zero, Nat.sub_zero, List.length_take]
  obtain ⟨k, rfl⟩ := Int.eq_ofNat_of_zero_le h
  rw [HT.sIx_nat]
  show _ ≤ k
  omega
def CmP (vs : List V) (e : Addr) (i : Nat) (ys : List V) (σ1 : St) (H' : Hp) : Prop := (∀ v ∈ ys, v ∈ vs) ∧ ∃ v0, σ1 = [v0, some (.ref e)]
def TxP (ts : List Str) (i : Nat) (ys : List V) (σ1 : St) (H' : Hp) : Prop := ys = (ts.take i).map V.str ∧ ∃ v0, σ1 = [v0]
theorem ok_law {fa : Addr} {fd : FuncData} (F : Fun K "law" "law" s_law fa fd) (G__law_cell_at : OkD P w K mg base 1 "_law_cell_at" ["script", "k"] (spCell K)) (G__law_stir : OkD P w K mg base 1 "_law_stir" ["cell", "k"] spStir) (G__law_bad : OkD P w K mg base 2 "_law_bad" ["cell"] spBad) (G__law_any_row : OkD P w K mg base 2 "_law_any_row" ["cell"] spAny) (G__law_judged : OkD P w K mg base 3 "_law_judged" ["rows"] spJu) (G__law_refused : OkD P w K mg base 26 "_law_refused" ["rows"] spRef) (hrange : mg "range" = none) : FnOk P w K mg base CX0 27 fa fd ["script"] (spLaw K) := by
  refine F.ok sc_law (fun vs H Q E h => ?_) (fun cdv A outer s H vs Q E hr h => ?_)
  · obtain ⟨a, ns, rfl, _⟩ := h; rfl
  obtain ⟨a, ns, rfl, hS, h63, q⟩ := h
  have big : 3000000 ≤ sizeLine := by unfold sizeLine; decide
  have hu64 := hr.units
  refine ⟨_, (pss_cons (ps_set (i := 1) sc_law.nd rfl (Or.inl rfl) (pe_def G__law_cell_at hr rfl (pa_c (pv 0) (pa_c pe_int pa_nil))))
  (pss_cons (ps_set (i := 2) sc_law.nd rfl (Or.inl rfl) (pe_lstG pa_nil))
  (pss_cons (ps_for PassesOwn.never rfl (pi_list (pe_slice sl_k (pv 0) po_none (po_some pe_int))) (pg_name (i := 3) sc_law.nd rfl (Or.inl rfl))
  (pss_one (ps_up (ps_if (pt_cmpR op_eq (pe_op op_mod (pe_def G__law_stir hr rfl (pa_c (pv 3) (pa_c pe_int pa_nil))) pe_int) pe_int (nomark _))
  (pss_one (ps_expr (pe_appG (pv 2) (pe_lstG (pa_c (pe_def G__law_bad hr rfl (pa_c (pv 3) pa_nil)) (pa_c pe_str (pa_c pe_str (pa_c pe_bl pa_nil))))))))
  (pss_one (ps_expr (pe_appG (pv 2) (pe_def G__law_any_row hr rfl (pa_c (pv 3) pa_nil)))))))))
  (pss_cons (ps_up (ps_if (pt_cmpR (op_eqD hu64) (pv 2) (pe_lstG pa_nil) (nomark _))
  (pss_one (ps_set (i := 2) sc_law.nd rfl (Or.inl rfl) (pe_lstG (pa_c (pe_lstG (pa_c pe_str (pa_c pe_str (pa_c pe_str (pa_c pe_bl pa_nil))))) pa_nil))))
  pss_nil))
  (pss_cons (ps_up (ps_if (pt_cmpR op_eq (pe_op op_mod (pe_def G__law_stir hr rfl (pa_c (pv 1) (pa_c pe_int pa_nil))) pe_int) pe_int (nomark _))
  (pss_cons (ps_set (i := 4) sc_law.nd rfl (Or.inr rfl) (pe_lstG (pa_c pe_str (pa_c pe_str (pa_c pe_str (pa_c pe_str (pa_c pe_str pa_nil)))))))
  (pss_cons (ps_set (i := 5) sc_law.nd rfl (Or.inl rfl) (pe_op op_catG (pe_compN (comp_scopeN 1 (N := ["row", "some"]) (cap := [4]) rfl rfl rfl rfl (by decide +kernel) rfl rfl rfl) rfl (pi_list (pv 2)) (fun _ _ _ _ => (pg_name (i := 0) (show List.Nodup (α := Str) ["row", "some"] by decide +kernel) rfl (Or.inl (lookup_relabel_local rfl)) (Or.inr (lookup_relabel_local rfl)))) (fun _ _ _ _ => (pts_one (pt_cmpR op_inG (pe_ix ix_g (pv 0) pe_int (fun _ _ => rfl)) (pv 1) (by with_unfolding_all rfl)))) (fun _ _ _ _ => (pv 0))) (pe_lstG (pa_c (pe_lstG (pa_c pe_str (pa_c pe_str (pa_c pe_str (pa_c pe_bl pa_nil))))) pa_nil))))
  (pss_cons (ps_set (i := 6) sc_law.nd rfl (Or.inl rfl) (pe_ix ix_g (pe_lstG (pa_c pe_int (pa_c pe_int (pa_c pe_int (pa_c pe_int (pa_c (pe_op op_add pe_int (pe_op op_mod (pe_def G__law_stir hr rfl (pa_c (pv 1) (pa_c pe_int pa_nil))) pe_int)) pa_nil)))))) (pe_op op_mod (pe_def G__law_stir hr rfl (pa_c (pv 1) (pa_c pe_int pa_nil))) pe_int) (fun _ _ => rfl)))
  (pss_one (ps_set (i := 2) sc_law.nd rfl (Or.inl rfl) (pe_op op_catG (pe_slice sl_g (pe_op op_catG (pe_lstG (pa_c (pe_lstG (pa_c pe_str (pa_c pe_str (pa_c pe_str (pa_c pe_bl pa_nil))))) pa_nil)) (pe_op op_repG (pv 5) pe_int)) po_none (po_some (pe_op op_sub (pv 6) pe_int))) (pe_lstG (pa_c (pe_lstG (pa_c pe_str (pa_c pe_str (pa_c pe_str (pa_c pe_bl pa_nil))))) pa_nil))))))))
  (pss_one (ps_up (ps_if (pt_cmpR op_eq (pe_op op_mod (pe_def G__law_stir hr rfl (pa_c (pv 1) (pa_c pe_int pa_nil))) pe_int) pe_int (nomark _))
  (pss_cons (ps_set (i := 2) sc_law.nd rfl (Or.inl rfl) (pe_op op_catG (pe_lstG (pa_c (pe_lstG (pa_c pe_str (pa_c pe_str (pa_c pe_str (pa_c pe_bl pa_nil))))) pa_nil)) (pe_op op_repG (pe_lstG (pa_c (pe_lstG (pa_c pe_str (pa_c pe_str (pa_c pe_str (pa_c pe_bl pa_nil))))) pa_nil)) (pe_ix ix_g (pe_lstG (pa_c pe_int (pa_c pe_int (pa_c pe_int (pa_c pe_int pa_nil))))) (pe_op op_mod (pv 1) pe_int) (fun _ _ => rfl)))))
  (pss_one (ps_set (i := 2) sc_law.nd rfl (Or.inl rfl) (pe_op op_catG (pv 2) (pe_lstG (pa_c (pe_lstG (pa_c pe_str (pa_c pe_str (pa_c pe_str (pa_c pe_bl pa_nil))))) pa_nil))))))
  pss_nil)))))
  (pss_cons (ps_set (i := 7) sc_law.nd rfl (Or.inr rfl) (pe_def G__law_judged hr rfl (pa_c (pv 2) pa_nil)))
  (pss_cons (ps_set (i := 8) sc_law.nd rfl (Or.inl rfl) (pe_def G__law_refused hr rfl (pa_c (pe_compN (comp_scopeN 1 (N := ["row"]) (cap := []) rfl rfl rfl rfl (by decide +kernel) rfl rfl rfl) rfl (pi_list (pv 2)) (fun _ _ _ _ => (pg_name (i := 0) (show List.Nodup (α := Str) ["row"] by decide +kernel) rfl (Or.inl (lookup_relabel_local rfl)) (Or.inr (lookup_relabel_local rfl)))) (fun _ _ _ _ => pts_nil) (fun _ _ _ _ => (pe_ix ix_g (pv 0) pe_int (fun _ _ => rfl)))) pa_nil)))
  (pss_cons (ps_if (pt_cmpR op_lt (pv 7) pe_int (nomark _))
  (pss_one (ps_ret (pe_cmpR (op_eqD hu64) (pv 8) (pe_lstG pa_nil) (nomark _))))
  pss_nil)
  (pss_one (ps_ret (pe_cmpR (op_eqD hu64) (pv 8) (pe_compN (comp_scopeN 1 (N := ["k", "due"]) (cap := [7]) rfl rfl rfl rfl (by decide +kernel) rfl rfl rfl) rfl (pi_range1 rfl hrange (pa_c pe_int pa_nil)) (fun _ _ _ _ => (pg_name (i := 0) (show List.Nodup (α := Str) ["k", "due"] by decide +kernel) rfl (Or.inl (lookup_relabel_local rfl)) (Or.inr (lookup_relabel_local rfl)))) (fun _ _ _ _ => pts_nil) (fun _ _ _ _ => (pe_cmpR op_eq (pv 0) (pv 1) (nomark _)))) (nomark _)))))))))))), ?_⟩
  walk_at "rz"
  refine ⟨a, ns, 0, rfl, hS, fun hd => ?_⟩
  walk_at "rz"
  intro r H1 hr1 g1 h1
  have h1' := PLift.up h1
  clear h1
  walk_at "rz"
  refine tfor_in ?_
  simp only [iList]
  walk_at "rz"
  refine ⟨a, _, rfl, g1.seq hS, fun sc H2 hsc g2 h2 => ?_⟩
  have ex : cutV (ns.map V.int) none (some 63) = ns.map V.int := by
    unfold cutV
    rw [HT.sIx_none, List.drop_zero, Nat.sub_zero, show HT.sIx (ns.map V.int).length (ns.map V.int).length (some 63) = min 63 (ns.map V.int).length from HT.sIx_nat _ _ 63]
    exact List.take_of_length_le (by rw [List.length_map]; omega)
  rw [ex] at h2
  clear ex
  have nsr : sc ≠ r := fun z => by rw [z, h1'.down] at hsc; cases hsc
  have lm : (ns.map V.int).length = ns.length := List.length_map ..
  refine ⟨sc, rfl, ⟨_, SqL.of h2⟩, for_list (xs := ns.map V.int) (LwI a hd r sc (ns.map V.int) H) ⟨[], none, rfl, g1.trans g2, g2 _ _ h1'.down, fun _ z => absurd z List.not_mem_nil, Nat.le_refl _, h2⟩ (fun i σ H3 _ z => ?_) (fun i x σ H3 hx zz => ?_) fun σ H3 zz => ?_⟩
  · obtain ⟨_, _, _, _, _, _, _, hs⟩ := z
    exact SqL.of hs
  · obtain ⟨vs, v3, rfl, g3, r3, al, lv, s3⟩ := zz
    rw [List.getElem?_map] at hx
    obtain ⟨n, hn, rfl⟩ := Option.map_eq_some_iff.mp hx
    have hi : i < ns.length := (List.getElem?_eq_some_iff.mp hn).1
    clear h2 h1'
    have lv' : vs.length < 100 := by omega
    have put : ∀ (p : Addr) (t : Str) (o : Option Rw) (H5 H6 : Hp), Same H3 H5 → H5 p = some (.lst (rowV t o)) → H3 p = none → RowIs t o → Rt t → ascO o → Mu H5 r (.lst (vs ++ [.ref p])) H6 → LwI a hd r sc (ns.map V.int) H (i + 1) [some (.ref a), some (.int hd), some (.ref r), some (.int n), none, none, none, none, none] H6 := fun p t o H5 H6 g5 hp np ri rt ao mu => by
      have npr : p ≠ r := fun z => by rw [z, r3] at np; cases np
      refine ⟨vs ++ [.ref p], _, rfl, mu.same (g3.trans g5) hr1, mu.at_, (al.up fun b xs hb => ?_).app (.one ⟨p, rfl, hide_of npr (mu.old hp npr), ri, rt, ao⟩), by rw [List.length_append]; simp; omega, mu.old (g5 _ _ s3) nsr⟩
      obtain ⟨nb, hb⟩ := hide_inv hb
      exact hide_of nb (mu.old (g5 _ _ hb) nb)
    walk_at "rz"
    refine ⟨LwI a hd r sc (ns.map V.int) H (i + 1), ⟨n, 83, rfl, by decide, by decide, fun m _ _ => ?_⟩, fun _ _ z => z⟩
    walk_at "rz"
    refine ite2 (fun c1 => ?_) fun c1 => ?_
    · clear c1
      walk_at "rz"
      refine ⟨n, rfl, fun t H4 hb g4 => ?_⟩
      have r4 := g4 _ _ r3
      walk_at "rz"
      intro p H5 hp g5 h5
      have r5 := g5 _ _ r4
      have h5' := PLift.up h5
      clear r3 r4 h5
      walk_at "rz"
      refine ⟨by omega, fun H6 mu => ?_⟩
      obtain ⟨x, y⟩ := badB_of hb
      exact put p t none H5 H6 (g4.trans g5) h5'.down (g4.free hp) x y trivial mu
    · clear c1
      walk_at "rz"
      refine ⟨n, rfl, fun t rr p H4 ris rt an hp g4 h4 => ?_⟩
      have r4 := g4 _ _ r3
      have h4' := PLift.up h4
      clear r3 h4
      walk_at "rz"
      refine ⟨by omega, fun H6 mu => ?_⟩
      exact put p t (some rr) H4 H6 g4 h4'.down hp ris rt an mu
  · obtain ⟨vs, v3, rfl, g3, r3, al, lv, s3⟩ := zz
    have al3 := al.up (H' := H3) hide_lst
    rw [lm] at lv
    clear h2 h1' s3 al
    refine seq_ms (RoI a hd H 64) (fun D' eD => ?_) ?_
    · walk_at "rz"
      intro e1 H4 he1 g4 h4
      refine rows_eq (g4 _ _ r3) (al3.up (same_lst g4)) h4 ?_
      have r4 := PLift.up (g4 _ _ r3)
      have al4 := al3.up (same_lst g4)
      clear h4 r3
      cases vs with
      | nil =>
        walk_at "rz"
        rw [show ([] : List V).isEmpty = true from rfl]
        refine iteT ?_
        walk_at "rz"
        intro p5 H5 hp5 g5 h5
        have h5' := PLift.up h5
        clear h5
        walk_at "rz"
        intro r6 H6 hr6 g6 h6
        have h6' := PLift.up h6
        clear h6
        walk_at "rz"
        exact ⟨r6, _, _, rfl, g3.trans (g4.trans (g5.trans g6)), h6'.down, .one (t := "tool a 1") (o := some (.tool "a" 1)) ⟨p5, rfl, g6 _ _ h5'.down, tool_a1.1, tool_a1.2, name_asc (by decide +kernel)⟩, by simp, by simp⟩
      | cons t1 ts =>
        walk_at "rz"
        rw [show (t1 :: ts).isEmpty = false from rfl]
        refine iteF ?_
        walk_at "rz"
        exact ⟨r, _, _, rfl, g3.trans g4, r4.down, al4, by simp, by omega⟩
    clear al3 r3 lv g3
    rintro σ' H4 ⟨r, vs, v3, rfl, g4, r4, al4, ne4, lv4⟩
    refine seq_ms (RpI a hd H 440) (fun D' eD => ?_) ?_
    · walk_at "rz"
      refine ⟨hd, 91, rfl, by decide, by decide, fun m _ _ => ?_⟩
      walk_at "rz"
      refine ite2 (fun c1 => ?_) fun c1 => ?_
      · clear c1
        walk_at "rz"
        intro e1 H5 he1 g5 h5
        have h5' : PLift (H5 e1 = some (.lst ((["plain", "if", "while", "end", "else"] : List Str).map V.str))) := ⟨h5⟩
        have r5 := PLift.up (g5 _ _ r4)
        have al5 := al4.up (same_lst g5)
        clear h5
        walk_at "rz"
        refine tcomp_in ?_
        simp only [iList]
        walk_at "rz"
        refine ⟨⟨_, SqL.of r5.down⟩, compJ_list r5.down (by omega) (CmP vs e1) (fun H' _ => ⟨fun _ z => absurd z List.not_mem_nil, _, rfl⟩) ?_ ?_⟩
        · rintro D i v ys' σ1 H6 hx at1 ⟨sub, v0, rfl⟩
          have mv := List.mem_of_getElem? hx
          obtain ⟨t, o, p, rfl, hp, _⟩ := al5 v mv
          obtain ⟨k, nm, b, eo⟩ : ∃ k nm b, rowV t o = [.str t, .str k, .str nm, .bl b] := by cases o <;> exact ⟨_, _, _, rfl⟩
          rw [eo] at hp
          have hp6 := at1.same _ _ hp
          have h56 := at1.same _ _ h5'.down
          walk_at "rz"
          refine ite2 (fun c => ?_) fun c => ?_
          · clear c
            walk_at "rz"
            refine at1.put (Same.refl _) fun H7 mu => ⟨fun v hv => ?_, _, rfl⟩
            rcases List.mem_append.mp hv with z | z
            · exact sub v z
            · rw [List.mem_singleton.mp z]; exact mv
          · exact at1.skip (Same.refl _) ⟨sub, _, rfl⟩
        · rintro D ys' σ1 H6 hD g6 hy hle ⟨sub, v0, rfl⟩
          have al6 : AllR H6 ys' := fun v hv => by
            obtain ⟨t, o, q⟩ := al5 v (sub v hv)
            exact ⟨t, o, q.up (same_lst g6)⟩
          clear r5 h5' al5 al4 r4
          intro p1 H7 hp1 g7 h7
          have h7' := PLift.up h7
          have hy7 := PLift.up (g7 _ _ hy)
          clear h7 hy
          walk_at "rz"
          intro l1 H8 hl1 g8 h8
          have hy8 := g8 _ _ hy7.down
          clear hy7
          walk_at "rz"
          refine ⟨by omega, fun mo H9 hmo g9 h9 => ?_⟩
          have al9 : AllR H9 (ys' ++ [.ref p1]) := (al6.up (same_lst (g7.trans (g8.trans g9)))).app (.one (t := "wait 1") (o := some .plain) ⟨p1, rfl, g9 _ _ (g8 _ _ h7'.down), (isB_of (plain_rows "wait 1" (by simp))).1, (isB_of (plain_rows "wait 1" (by simp))).2, bad_asc.2⟩)
          have lmo : (ys' ++ [V.ref p1]).length ≤ 65 := by rw [List.length_append]; simp; omega
          have g49 := g4.trans (g5.trans (g6.trans (g7.trans (g8.trans g9))))
          have h9' := PLift.up h9
          generalize ys' ++ [V.ref p1] = ms at h9' al9 lmo
          clear h9 h8 hy8 h7' al6
          walk_at "rz"
          refine ⟨hd, 92, rfl, by decide, by decide, fun m2 m20 m21 => ?_⟩
          walk_at "rz"
          intro l2 H10 hl2 g10 h10
          walk_at "rz"
          refine ⟨hd, 93, rfl, by decide, by decide, fun m3 m30 m31 => ?_⟩
          walk_at "rz"
          obtain ⟨k, ek, mk⟩ := pickI (l := [119, 120, 121, 122, 121 + m2 % 300]) (i := m3 % 5) (by omega) (by simp; omega)
          refine ⟨_, ek, ?_⟩
          have kb : 119 ≤ k ∧ k ≤ 420 := by
            simp only [List.mem_cons, List.not_mem_nil, or_false] at mk
            omega
          have mo10 := PLift.up (g10 _ _ h9'.down)
          have al10 := al9.up (same_lst g10)
          clear ek mk h10 h9' al9
          walk_at "rz"
          intro p2 H11 hp2 g11 h11
          have h11' := PLift.up h11
          clear h11
          walk_at "rz"
          intro l3 H12 hl3 g12 h12
          have h12' := PLift.up h12
          have mo12 := g12 _ _ (g11 _ _ mo10.down)
          clear h12 mo10
          walk_at "rz"
          refine ⟨by omega, fun r1 H13 hr1' g13 h13 => ?_⟩
          have h13' : H13 r1 = some (.lst (List.replicate 420 ms).flatten) := h13
          have l13 := g13 _ _ h12'.down
          have lfl : (List.replicate 420 ms).flatten.length ≤ 27300 := by
            have e := flat_len 420 ms
            omega
          have al13 : AllR H13 (List.replicate 420 ms).flatten := allR_rep 420 (al10.up (same_lst (g11.trans (g12.trans g13))))
          generalize (List.replicate 420 ms).flatten = fl at h13' lfl al13
          clear h13 mo12 h12' al10
          walk_at "rz"
          refine ⟨by omega, fun r2 H14 hr2 g14 h14 => ?_⟩
          have al14 : AllR H14 ([V.ref p2] ++ fl) := (AllR.one (t := "hand go") (o := some (.hand "go" [])) ⟨p2, rfl, g14 _ _ (g13 _ _ (g12 _ _ h11'.down)), hand_go.1, hand_go.2, name_asc (by decide +kernel)⟩).app (al13.up (same_lst g14))
          generalize [V.ref p2] ++ fl = xl at h14 al14
          clear h13' l13 h11' al13
          walk_at "rz"
          intro r3 H15 hr3 g15 h15
          have al15 : AllR H15 (cutV xl none (some (k - 1))) := fun v hv => by
            obtain ⟨t, o, q⟩ := al14 v (cut_mem hv)
            exact ⟨t, o, q.up (same_lst g15)⟩
          have lc : (cutV xl none (some (k - 1))).length ≤ 420 := Nat.le_trans (cut_len (by omega)) (by omega)
          generalize cutV xl none (some (k - 1)) = cl at h15 al15 lc
          have h15' := PLift.up h15
          clear h14 al14 h15
          walk_at "rz"
          intro p3 H16 hp3 g16 h16
          have h16' := PLift.up h16
          clear h16
          walk_at "rz"
          intro l4 H17 hl4 g17 h17
          have h15v := g17 _ _ (g16 _ _ h15'.down)
          walk_at "rz"
          refine ⟨by omega, fun r4' H18 hr4 g18 h18 => ?_⟩
          have h18' := PLift.up h18
          clear h18 h17 h15v
          walk_at "rz"
          refine ⟨r4', _, _, _, _, _, rfl, g49.trans (g10.trans (g11.trans (g12.trans (g13.trans (g14.trans (g15.trans (g16.trans (g17.trans g18)))))))), h18'.down, (al15.up (same_lst (g16.trans (g17.trans g18)))).app (.one (t := "end") (o := some .fin) ⟨p3, rfl, g18 _ _ (g17 _ _ h16'.down), (isB_of end_row).1, (isB_of end_row).2, bad_asc.2⟩), by simp, by rw [List.length_append]; simp; omega⟩
      · clear c1
        walk_at "rz"
        refine ⟨RpI a hd H 440, ⟨hd, 94, rfl, by decide, by decide, fun m _ _ => ?_⟩, fun _ _ z => by rw [eD]; exact z⟩
        walk_at "rz"
        refine ite2 (fun c1 => ?_) fun c1 => ?_
        · clear c1 r4
          walk_at "rz"
          intro p1 H5 hp1 g5 h5
          have h5' := PLift.up h5
          clear h5
          walk_at "rz"
          intro l1 H6 hl1 g6 h6
          have h6' := PLift.up h6
          clear h6
          walk_at "rz"
          intro p2 H7 hp2 g7 h7
          have h7' := PLift.up h7
          clear h7
          walk_at "rz"
          intro l2 H8 hl2 g8 h8
          have h8' := PLift.up h8
          clear h8
          walk_at "rz"
          intro l3 H9 hl3 g9 h9
          walk_at "rz"
          obtain ⟨k, ek, mk⟩ := pickI (l := [117, 118, 119, 120]) (i := hd % 4) (by omega) (by simp; omega)
          refine ⟨_, ek, ?_⟩
          have kb : 117 ≤ k ∧ k ≤ 120 := by
            simp only [List.mem_cons, List.not_mem_nil, or_false] at mk
            omega
          have l29 := g9 _ _ h8'.down
          clear ek mk h9 h8'
          walk_at "rz"
          refine ⟨by omega, by omega, by rw [List.length_singleton]; omega, fun r1 H10 hr1' g10 h10 => ?_⟩
          have l110 := g10 _ _ (g9 _ _ (g8 _ _ (g7 _ _ h6'.down)))
          have al10 : AllR H10 (List.replicate k.toNat [V.ref p2]).flatten := allR_rep _ (.one (t := "wait 1") (o := some .plain) ⟨p2, rfl, g10 _ _ (g9 _ _ (g8 _ _ h7'.down)), (isB_of (plain_rows "wait 1" (by simp))).1, (isB_of (plain_rows "wait 1" (by simp))).2, bad_asc.2⟩)
          have lfl : (List.replicate k.toNat [V.ref p2]).flatten.length ≤ 120 := by
            have e := flat_len k.toNat [V.ref p2]
            rw [List.length_singleton] at e
            omega
          generalize (List.replicate k.toNat [V.ref p2]).flatten = fl at h10 lfl al10
          clear l29 h7' h6'
          walk_at "rz"
          refine ⟨by omega, fun r2 H11 hr2 g11 h11 => ?_⟩
          have al11 : AllR H11 ([V.ref p1] ++ fl) := (AllR.one (t := "hand go") (o := some (.hand "go" [])) ⟨p1, rfl, g11 _ _ (g10 _ _ (g9 _ _ (g8 _ _ (g7 _ _ (g6 _ _ h5'.down))))), hand_go.1, hand_go.2, name_asc (by decide +kernel)⟩).app (al10.up (same_lst g11))
          have lxl : ([V.ref p1] ++ fl).length ≤ 121 := by rw [List.length_append]; simp; omega
          generalize [V.ref p1] ++ fl = xl at h11 al11 lxl
          have h11' := PLift.up h11
          clear h10 l110 h5' al10 h11
          walk_at "rz"
          intro p3 H12 hp3 g12 h12
          have h12' := PLift.up h12
          clear h12
          walk_at "rz"
          intro l4 H13 hl4 g13 h13
          have h11v := g13 _ _ (g12 _ _ h11'.down)
          walk_at "rz"
          refine ⟨by omega, fun r4' H14 hr4 g14 h14 => ?_⟩
          have h14' := PLift.up h14
          clear h14 h13 h11v
          walk_at "rz"
          refine ⟨r4', _, _, _, _, _, rfl, g4.trans (g5.trans (g6.trans (g7.trans (g8.trans (g9.trans (g10.trans (g11.trans (g12.trans (g13.trans g14))))))))), h14'.down, (al11.up (same_lst (g12.trans (g13.trans g14)))).app (.one (t := "end") (o := some .fin) ⟨p3, rfl, g14 _ _ (g13 _ _ h12'.down), (isB_of end_row).1, (isB_of end_row).2, bad_asc.2⟩), by simp, by rw [List.length_append]; simp; omega⟩
        · clear c1
          have r4' := PLift.up r4
          clear r4
          walk_at "rz"
          exact ⟨r, vs, _, _, _, _, rfl, g4, r4'.down, al4, ne4, by omega⟩
    rintro σ' H5 ⟨r5, vs5, v3', v4, v5, v6, rfl, g5, h5, al5, ne5, lv5⟩
    obtain ⟨ts, os, rl⟩ := al5.rw
    have h5' := PLift.up h5
    clear h5
    walk_at "rz"
    refine ⟨r5, vs5, ts, os, rfl, h5'.down, rl, by omega, fun H6 g6 => ?_⟩
    have h6 := PLift.up (g6 _ _ h5'.down)
    have rl6 := rl.up (same_lst g6)
    clear h5' al5 rl
    walk_at "rz"
    refine tcomp_in ?_
    simp only [iList]
    walk_at "rz"
    refine ⟨⟨_, SqL.of h6.down⟩, compJ_list h6.down (by omega) (TxP ts) (fun H' _ => ⟨rfl, _, rfl⟩) ?_ ?_⟩
    · rintro D i v ys' σ1 H7 hx at1 ⟨rfl, v0, rfl⟩
      obtain ⟨t, o, ⟨p, rfl, hp, _⟩, ht, _⟩ := rl6.get hx
      obtain ⟨k, nm, b, eo⟩ : ∃ k nm b, rowV t o = [.str t, .str k, .str nm, .bl b] := by cases o <;> exact ⟨_, _, _, rfl⟩
      rw [eo] at hp
      have hp7 := at1.same _ _ hp
      walk_at "rz"
      refine at1.put (Same.refl _) fun H8 mu => ⟨?_, _, rfl⟩
      rw [take_snoc ht, List.map_append]
      rfl
    rintro D ys' σ1 H7 hD g7 hy hle ⟨rfl, v0, rfl⟩
    have lts := rl6.len
    rw [List.take_of_length_le (by omega)] at hy
    obtain ⟨ro, rt⟩ := rl6.rows
    have rm : room ts ≤ 900000 := by
      have := room_le (n := 2000) (ws := ts) fun y hy => (rt y hy).1
      have : ts.length * 2001 ≤ 440 * 2001 := Nat.mul_le_mul_right _ (by omega)
      omega
    refine ⟨D, ts, os, rfl, hy, fun z => ne5 (by rw [z] at lts; exact List.eq_nil_of_length_eq_zero lts.1), rm, rt, ro, fun p8 H8 hp8 g8 h8 => ?_⟩
    rw [lts.1]
    obtain ⟨oc, eoc⟩ : ∃ oc, oc = (if 120 < ts.length then some 2 else runF s0 os) := ⟨_, rfl⟩
    rw [← eoc] at h8 ⊢
    have oc6 : ∀ c, oc = some c → c ≤ 6 := fun c e => by
      rw [e] at eoc
      split at eoc
      · cases eoc; decide
      · exact run_le eoc.symm
    have h8' := PLift.up h8
    clear h8 eoc hy
    cases oc with
    | none =>
      rw [show judO none = -1 from rfl]
      refine (if_pos (by decide)).mpr ?_
      walk_at "rz"
      intro p9 H9 hp9 g9 h9
      exact ⟨.list [], .list [], .lst (g9 _ _ h8'.down) .nil, .lst h9 .nil, by decide, by decide, q _⟩
    | some d =>
      have d6 := oc6 d rfl
      rw [show judO (some d) = ((d : Nat) : Int) from rfl]
      refine (if_neg (by omega)).mpr ?_
      walk_at "rz"
      refine tcomp_in ?_
      simp only [iRng1]
      walk_at "rz"
      refine compJ_range (n := 12) (by decide) (CdP d) (fun H' _ => ⟨rfl, _, rfl⟩) ?_ ?_
      · rintro D i ys σ1 H9 hi at1 ⟨rfl, v0, rfl⟩
        walk_at "rz"
        refine at1.put (Same.refl _) fun H10 mu => ⟨?_, _, rfl⟩
        rw [List.range_succ, List.map_append]
        congr 1
        show [V.bl _] = [V.bl _]
        congr 2
        exact decide_eq_decide.mpr ⟨fun z => by injection z with z, fun z => by rw [z]⟩
      · rintro D ys σ1 H9 hD g9 hy hle ⟨rfl, v0, rfl⟩
        have hy' : H9 D = some (.lst ((codeL (some d)).map V.bl)) := by rw [hy]; unfold codeL; rw [List.map_map]; rfl
        exact eq_same (.lst (g9 _ _ h8'.down) (rpl_bls _)) (.lst hy' (rpl_bls _)) (code_sh d d6) (q _)
end
end K09
namespace K09
open PySem L2
inductive FEs (w : World) : List DictEntry → List (Str × Addr) → Prop
  | nil : FEs w [] []
  | cons {x : Str} {t : Addr} {u : Tok} {es : List DictEntry} {l : List (Str × Addr)} : FEs w es l → FEs w (⟨keyH w (.inr x), .str x u, .ref t⟩ :: es) ((x, t) :: l)
inductive FTs (K : PySem.W.Frag) : List (Str × List V) → List (Str × Addr) → Prop
  | nil : FTs K [] []
  | cons {x : Str} {t : Addr} {fs : List V} {F : List (Str × List V)} {l : List (Str × Addr)} : (∀ H : Hp, SqT K H t fs) → FTs K F l → FTs K ((x, fs) :: F) ((x, t) :: l)
theorem FTs.get {K : PySem.W.Frag} {F : List (Str × List V)} {l : List (Str × Addr)} (t : FTs K F l) : ∀ {x : Str} {fs : List V}, F.lookup x = some fs → ∃ t, valV (l.map fun p => ((.inr p.1 : Key), V.ref p.2)) (.inr x) = some (.ref t) ∧ ∀ H : Hp, SqT K H t fs := by
  induction t with
  | nil => intro x fs e; cases e
  | @cons y t gs F l h r ih =>
    intro x fs e
    rw [List.lookup_cons] at e
    by_cases z : x = y
    · subst z
      rw [show (x == x) = true from by simp] at e
      cases e
      refine ⟨t, ?_, h⟩
      unfold valV
      rw [List.map_cons, List.find?_cons_of_pos (by simp)]
      rfl
    · rw [show (x == y) = false from by simpa using z] at e
      obtain ⟨t', h1, h2⟩ := ih e
      refine ⟨t', ?_, h2⟩
      rw [← h1]
      unfold valV
      rw [List.map_cons, List.find?_cons_of_neg (by simp only [decide_eq_true_eq]; intro q; injection q with q; exact z q.symm)]
theorem FTs.no {K : PySem.W.Frag} {F : List (Str × List V)} {l : List (Str × Addr)} (t : FTs K F l) : ∀ {x : Str}, F.lookup x = none → valV (l.map fun p => ((.inr p.1 : Key), V.ref p.2)) (.inr x) = none := by
  induction t with
  | nil => intro x e; rfl
  | @cons y t gs F l h r ih =>
    intro x e
    rw [List.lookup_cons] at e
    by_cases z : x = y
    · rw [show (x == y) = true from by simpa using z] at e
      cases e
    · rw [show (x == y) = false from by simpa using z] at e
      rw [List.map_cons, valV_neg (fun q => z (Sum.inr.inj q).symm)]
      exact ih e
theorem FTs.keys {K : PySem.W.Frag} {F : List (Str × List V)} {l : List (Str × Addr)} (t : FTs K F l) : l.map (·.1) = F.map (·.1) := by
  induction t with
  | nil => rfl
  | cons _ _ ih => rw [List.map_cons, List.map_cons, ih]
theorem FEs.dict {w : World} (P : Program) {es : List DictEntry} {l : List (Str × Addr)} (t : FEs w es l) : (∀ e ∈ es, ∃ k, (mixKind P w).is k e.key = true ∧ e.hash = (mixKind P w).hash k) ∧ Pairs (mixKind P w) es (l.map fun p => ((.inr p.1 : Key), Value.ref p.2)) := by
  induction t with
  | nil => exact ⟨fun e he => absurd he List.not_mem_nil, .nil⟩
  | @cons x t u es l r ih =>
    obtain ⟨h1, h2⟩ := ih
    have ki : (mixKind P w).is (.inr x) (.str x u) = true := by
      show Value.isStrOf x (.str x u) = true
      simp [Value.isStrOf]
    refine ⟨fun e he => ?_, .cons ki rfl h2⟩
    rcases List.mem_cons.mp he with rfl | he
    · exact ⟨.inr x, ki, rfl⟩
    · exact h1 e he
theorem forms_see {w : World} {K : PySem.W.Frag} {es : List DictEntry} : ∀ {F : List (Str × List V)},
    (es.map fun (e : DictEntry) => (e.hash, (match e.key with | Value.str x _ => some x | _ => none), (match e.val with | Value.ref t => HD.tupLook K t | _ => none))) = (F.map fun p => (keyH w (.inr p.1), some p.1, some (Value.type "tuple", p.2.map some))) →
    (∀ p ∈ F, p.2.length ≤ 1000) → ∃ l, FEs w es l ∧ FTs K F l := by
  induction es with
  | nil =>
    intro F h _
    cases F with
    | nil => exact ⟨[], .nil, .nil⟩
    | cons _ _ => cases h
  | cons e es ih =>
    intro F h hl
    cases F with
    | nil => cases h
    | cons p F =>
      obtain ⟨x, fs⟩ := p
      rw [List.map_cons, List.map_cons] at h
      obtain ⟨h1, h2⟩ := List.cons.inj h
      obtain ⟨l, a, b⟩ := ih h2 fun p hp => hl p (List.mem_cons_of_mem _ hp)
      obtain ⟨hs, ky, vl⟩ := e
      simp only [Prod.mk.injEq] at h1
      obtain ⟨rfl, hk, hv⟩ := h1
      cases ky <;> simp only [reduceCtorEq, Option.some.injEq] at hk
      subst hk
      cases vl <;> simp only [reduceCtorEq] at hv
      rename_i t
      exact ⟨(_, t) :: l, .cons a, .cons (fun H => HD.sqT_of hv (Nat.le_trans (hl _ List.mem_cons_self) (by decide)) H) b⟩
theorem dict_see {P : Program} {w : World} {K : PySem.W.Frag} {a : Addr} {F : List (Str × List V)} (e : HD.dctLook K a = some (Value.type "dict", none, #[], F.map fun p => (keyH w (.inr p.1), some p.1, some (Value.type "tuple", p.2.map some)))) (ns : (a == sysModules) = false) (nd : ((F.map (·.1)).map (Sum.inr : Str → Key)).Nodup) (lf : ∀ p ∈ F, p.2.length ≤ 1000) :
    ∃ kvs, KD P w K a kvs ∧ (∀ x fs, F.lookup x = some fs → ∃ t, valV kvs (.inr x) = some (.ref t) ∧ ∀ H : Hp, SqT K H t fs) ∧ ∀ x, F.lookup x = none → valV kvs (.inr x) = none := by
  unfold HD.dctLook at e
  split at e
  · rename_i c d es n sl hk
    simp only [Option.some.injEq, Prod.mk.injEq] at e
    obtain ⟨rfl, rfl, rfl, e⟩ := e
    obtain ⟨l, fe, ft⟩ := forms_see e lf
    obtain ⟨h1, h2⟩ := fe.dict P
    refine ⟨l.map fun p => ((.inr p.1 : Key), V.ref p.2), ⟨_, l.map fun p => ((.inr p.1 : Key), Value.ref p.2), hk, ns, ?_, fun h hh => ⟨_, es, n, hh, ⟨rfl, rfl, rfl⟩, rfl, fun e he => h1 e (Array.mem_toList_iff.mpr he), h2, ?_⟩⟩, fun x fs e => ft.get e, fun x e => ft.no e⟩
    · clear h1 h2 fe ft hk ns e
      induction l with
      | nil => exact .nil
      | cons p l ih => exact .cons ⟨rfl, rfl⟩ ih
    · have e : ((l.map fun p => ((.inr p.1 : Key), Value.ref p.2)).map (·.1)) = (l.map (·.1)).map (Sum.inr : Str → Key) := by rw [List.map_map, List.map_map]; rfl
      rw [e, ft.keys]
      exact nd
  · cases e
def fixV : List (Str × List V) := fixL.map fun p => (p.1, p.2.map V.str)
def tailV : List (Str × List V) := tailL.map fun p => (p.1, [.str p.2.1, .int p.2.2.1, .int p.2.2.2])
theorem lookup_map {α β : Type} (f : α → β) (x : Str) : ∀ l : List (Str × α), (l.map fun p => (p.1, f p.2)).lookup x = (l.lookup x).map f
  | [] => rfl
  | (y, a) :: l => by
    rw [List.map_cons, List.lookup_cons, List.lookup_cons, lookup_map f x l]
    cases (x == y) <;> rfl
theorem fx_see {P : Program} {w : World} {K : PySem.W.Frag} {a : Addr} (e : HD.dctLook K a = some (Value.type "dict", none, #[], fixV.map fun p => (keyH w (.inr p.1), some p.1, some (Value.type "tuple", p.2.map some)))) (ns : (a == sysModules) = false) : FxA P w K a := by
  obtain ⟨kvs, kd, g, n⟩ := dict_see (P := P) e ns (by decide +kernel) (by decide +kernel)
  refine ⟨kvs, kd, fun x l h => g x _ ?_, fun x h => n x ?_⟩
  · rw [fixV, lookup_map (fun l : List Str => l.map V.str), h]; rfl
  · rw [fixV, lookup_map (fun l : List Str => l.map V.str), h]; rfl
theorem tl_see {P : Program} {w : World} {K : PySem.W.Frag} {a : Addr} (e : HD.dctLook K a = some (Value.type "dict", none, #[], tailV.map fun p => (keyH w (.inr p.1), some p.1, some (Value.type "tuple", p.2.map some)))) (ns : (a == sysModules) = false) : TlA P w K a := by
  obtain ⟨kvs, kd, g, n⟩ := dict_see (P := P) e ns (by decide +kernel) (by decide +kernel)
  refine ⟨kvs, kd, fun x k i j h => g x _ ?_, fun x h => n x ?_⟩
  · rw [tailV, lookup_map (fun l : Str × Nat × Nat => [V.str l.1, .int l.2.1, .int l.2.2]), h]; rfl
  · rw [tailV, lookup_map (fun l : Str × Nat × Nat => [V.str l.1, .int l.2.1, .int l.2.2]), h]; rfl
def clsL : List Str := ["NoRow", "NoPlace", "TooLong", "TooDeep", "NoMeasure", "Twice", "Open", "NoLog", "NoForm", "NoneYet", "NoThing"]
def Cof (K : PySem.W.Frag) (i : Nat) : Addr := HD.adr K (clsL.getD i "")
theorem all_of {n : Nat} {f : Nat → Bool} (h : (List.range n).all f = true) {i : Nat} (hi : i < n) : f i = true := List.all_eq_true.mp h i (List.mem_range.mpr hi)
theorem kcs_see {K : PySem.W.Frag} {B : Addr} (h1 : ((List.range 7).all fun i => HD.excLook K (Cof K i)) = true) (h2 : ((List.range 7).all fun i => PySem.W.exmOne K (.ref (Cof K i)) (.ref B) == some true) = true) (h3 : ((List.range 7).all fun i => PySem.W.kitOne K (.ref (Cof K i)) (.type "ValueError") == some true) = true) (h4 : ((List.range 7).all fun i => (List.range 11).all fun j => PySem.W.kitOne K (.ref (Cof K i)) (.ref (Cof K j)) == some (decide (j = i))) = true) : Kcs K (Cof K) B :=
  ⟨fun i hi => HD.plainX_of (all_of h1 (by omega)), fun i hi => beq_iff_eq.mp (all_of h2 (by omega)), fun i hi => beq_iff_eq.mp (all_of h3 (by omega)), fun i hi j hj => beq_iff_eq.mp (all_of (all_of h4 (i := i) (by omega)) (by omega))⟩
end K09
namespace K09
open PySem L2
def sees : List Nat := [23, 24, 25, 26, 27, 28, 29, 30, 31, 40, 41, 42, 43, 44, 45, 46, 47, 48, 49, 50, 52, 53, 54, 55, 56, 57, 58, 59, 60, 61, 62, 63]
noncomputable def see (p : Program) (K : PySem.W.Frag) := (sees.map fun i => HD.defLook K (p.main.body.getD i (.Pass ⟨0, 0, 0, 0⟩)), HD.All [HD.isNo K "len",
    HD.isNo K "all",
    HD.isNo K "int",
    HD.isNo K "range",
    HD.isNo K "str",
    HD.isNo K "isinstance",
    HD.isNo K "tuple",
    HD.isNo K "zip",
    HD.isNo K "max",
    HD.isNo K "set",
    HD.isNo K "enumerate",
    HD.isNo K "ValueError",
    HD.isInt K "MOST_LETTERS" (8),
    HD.isInt K "MOST_FIGURES" (6),
    HD.isInt K "MOST_SIGNS" (60),
    HD.isInt K "MOST_BRACKETS" (5),
    HD.isInt K "MOST_ROWS" (120),
    HD.isInt K "MOST_DEEP" (6),
    HD.isInt K "MOST_PIECES" (9),
    HD.isInt K "MOST_LEVEL" (999),
    HD.isInt K "MOST_DRAWN" (999),
    HD.isTxt K "LETTERS" "abcdefghijklmnopqrstuvwxyz",
    HD.isTxt K "FIGURES" "0123456789",
    HD.isTxt K "SIGNS" "+-*()",
    HD.isTxt K "LAST" "",
    HD.isRef K "NO_NAMES",
    HD.isRef K "FIXED",
    !(HD.adr K "FIXED" == sysModules),
    HD.isRef K "TAILS",
    !(HD.adr K "TAILS" == sysModules),
    HD.isRef K "NoRow",
    HD.isRef K "NoPlace",
    HD.isRef K "TooLong",
    HD.isRef K "TooDeep",
    HD.isRef K "NoMeasure",
    HD.isRef K "Twice",
    HD.isRef K "Open",
    HD.isRef K "NoLog",
    HD.isRef K "NoForm",
    HD.isRef K "NoneYet",
    HD.isRef K "NoThing",
    HD.isRef K "RunError",
    ((List.range 7).all fun i => PySem.W.excIn K (Cof K i) veM "ValueError.__new__"),
    ((List.range 7).all fun i => HD.excLook K (Cof K i)),
    ((List.range 7).all fun i => PySem.W.exmOne K (.ref (Cof K i)) (.ref (HD.adr K "RunError")) == some true),
    ((List.range 7).all fun i => PySem.W.kitOne K (.ref (Cof K i)) (.type "ValueError") == some true),
    ((List.range 7).all fun i => (List.range 11).all fun j => PySem.W.kitOne K (.ref (Cof K i)) (.ref (Cof K j)) == some (decide (j = i)))],
    HD.tupLook K (HD.adr K "NO_NAMES"),
    HD.dctLook K (HD.adr K "FIXED"),
    HD.dctLook K (HD.adr K "TAILS"))
noncomputable def saw (p : Program) (w : World) := (sees.map fun i => HD.fnSaw (HD.defName (p.main.body.getD i (.Pass ⟨0, 0, 0, 0⟩))) (HD.defName (p.main.body.getD i (.Pass ⟨0, 0, 0, 0⟩))) (p.main.body.getD i (.Pass ⟨0, 0, 0, 0⟩)), true,
    (some (Value.type "tuple", noN.map some) : Option (Value × List (Option V))),
    (some (Value.type "dict", none, #[], fixV.map fun p => (keyH w (.inr p.1), some p.1, some (Value.type "tuple", p.2.map some))) : Option (Value × Option Addr × Array (Option Value) × List (Int × Option Str × Option (Value × List (Option V))))),
    (some (Value.type "dict", none, #[], tailV.map fun p => (keyH w (.inr p.1), some p.1, some (Value.type "tuple", p.2.map some))) : Option (Value × Option Addr × Array (Option Value) × List (Int × Option Str × Option (Value × List (Option V))))))
theorem all_mk {l : PySem.W.OpenLaw} {w : World} {K : PySem.W.Frag} {h : Heap} {mg : Str → Option Value} {fa : Addr} (S : see PySem.Challenge.pw_rerunyard_k09_faults_together K = saw PySem.Challenge.pw_rerunyard_k09_faults_together w) (X : K.In h) (G : h.Ns mainGlobals mg) (hfa : mg "law" = some (.ref fa)) :
    ∃ fd : FuncData, (∀ (s : Shared) (v : Value), BindsTo s fd ⟨[v], []⟩ [("script", v)]) ∧ ∀ base : Heap, K.In base → base.Ns mainGlobals mg → FnOk l.prog w K mg base CX0 27 fa fd ["script"] (spLaw K) := by
  have E := congrArg Prod.fst S
  have B := congrArg (fun x => x.2.1) S
  have C0 := congrArg (fun x => x.2.2.1) S
  have C1 := congrArg (fun x => x.2.2.2.1) S
  have C2 := congrArg (fun x => x.2.2.2.2) S
  clear S
  obtain ⟨e, E⟩ := HD.fst_of E
  have A_is_name : DefAt K mg "is_name" s_is_name ["word"] := HD.defAt_of X G e rfl fun _ _ _ _ _ _ us hl => L2.len1 us hl (fun _ => rfl)
  clear e
  obtain ⟨e, E⟩ := HD.fst_of E
  have A_is_number : DefAt K mg "is_number" s_is_number ["word"] := HD.defAt_of X G e rfl fun _ _ _ _ _ _ us hl => L2.len1 us hl (fun _ => rfl)
  clear e
  obtain ⟨e, E⟩ := HD.fst_of E
  have A_is_whole : DefAt K mg "is_whole" s_is_whole ["word", "most"] := HD.defAt_of X G e rfl fun _ _ _ _ _ _ us hl => L2.len2 us hl (fun _ _ => rfl)
  clear e
  obtain ⟨e, E⟩ := HD.fst_of E
  have A_expression : DefAt K mg "expression" s_expression ["word"] := HD.defAt_of X G e rfl fun _ _ _ _ _ _ us hl => L2.len1 us hl (fun _ => rfl)
  clear e
  obtain ⟨e, E⟩ := HD.fst_of E
  have A_tokens_of : DefAt K mg "tokens_of" s_tokens_of ["word"] := HD.defAt_of X G e rfl fun _ _ _ _ _ _ us hl => L2.len1 us hl (fun _ => rfl)
  clear e
  obtain ⟨e, E⟩ := HD.fst_of E
  have A_read_sum : DefAt K mg "read_sum" s_read_sum ["tokens", "at", "depth"] := HD.defAt_of X G e rfl fun _ _ _ _ _ _ us hl => L2.len3 us hl (fun _ _ _ => rfl)
  clear e
  obtain ⟨e, E⟩ := HD.fst_of E
  have A_read_term : DefAt K mg "read_term" s_read_term ["tokens", "at", "depth"] := HD.defAt_of X G e rfl fun _ _ _ _ _ _ us hl => L2.len3 us hl (fun _ _ _ => rfl)
  clear e
  obtain ⟨e, E⟩ := HD.fst_of E
  have A_read_factor : DefAt K mg "read_factor" s_read_factor ["tokens", "at", "depth"] := HD.defAt_of X G e rfl fun _ _ _ _ _ _ us hl => L2.len3 us hl (fun _ _ _ => rfl)
  clear e
  obtain ⟨e, E⟩ := HD.fst_of E
  have A_leaf : DefAt K mg "leaf" s_leaf ["token"] := HD.defAt_of X G e rfl fun _ _ _ _ _ _ us hl => L2.len1 us hl (fun _ => rfl)
  clear e
  obtain ⟨e, E⟩ := HD.fst_of E
  have A_read : DefAt K mg "read" s_read ["text"] := HD.defAt_of X G e rfl fun _ _ _ _ _ _ us hl => L2.len1 us hl (fun _ => rfl)
  clear e
  obtain ⟨e, E⟩ := HD.fst_of E
  have A_parts_of : DefAt K mg "parts_of" s_parts_of ["row"] := HD.defAt_of X G e rfl fun _ _ _ _ _ _ us hl => L2.len1 us hl (fun _ => rfl)
  clear e
  obtain ⟨e, E⟩ := HD.fst_of E
  have A_kinds_due : DefAt K mg "kinds_due" s_kinds_due ["words"] := HD.defAt_of X G e rfl fun _ _ _ _ _ _ us hl => L2.len1 us hl (fun _ => rfl)
  clear e
  obtain ⟨e, E⟩ := HD.fst_of E
  have A_part : DefAt K mg "part" s_part ["kind", "word"] := HD.defAt_of X G e rfl fun _ _ _ _ _ _ us hl => L2.len2 us hl (fun _ _ => rfl)
  clear e
  obtain ⟨e, E⟩ := HD.fst_of E
  have A_check_place : DefAt K mg "check_place" s_check_place ["k", "word", "program", "bodies"] := HD.defAt_of X G e rfl fun _ _ _ _ _ _ us hl => L2.len4 us hl (fun _ _ _ _ => rfl)
  clear e
  obtain ⟨e, E⟩ := HD.fst_of E
  have A_check_depth : DefAt K mg "check_depth" s_check_depth ["k", "word", "bodies"] := HD.defAt_of X G e rfl fun _ _ _ _ _ _ us hl => L2.len3 us hl (fun _ _ _ => rfl)
  clear e
  obtain ⟨e, E⟩ := HD.fst_of E
  have A_check_measure : DefAt K mg "check_measure" s_check_measure ["k", "parts"] := HD.defAt_of X G e rfl fun _ _ _ _ _ _ us hl => L2.len2 us hl (fun _ _ => rfl)
  clear e
  obtain ⟨e, E⟩ := HD.fst_of E
  have A_check_twice : DefAt K mg "check_twice" s_check_twice ["k", "parts", "program"] := HD.defAt_of X G e rfl fun _ _ _ _ _ _ us hl => L2.len3 us hl (fun _ _ _ => rfl)
  clear e
  obtain ⟨e, E⟩ := HD.fst_of E
  have A_lay_down : DefAt K mg "lay_down" s_lay_down ["k", "parts", "program", "bodies"] := HD.defAt_of X G e rfl fun _ _ _ _ _ _ us hl => L2.len4 us hl (fun _ _ _ _ => rfl)
  clear e
  obtain ⟨e, E⟩ := HD.fst_of E
  have A_statement_of : DefAt K mg "statement_of" s_statement_of ["k", "parts"] := HD.defAt_of X G e rfl fun _ _ _ _ _ _ us hl => L2.len2 us hl (fun _ _ => rfl)
  clear e
  obtain ⟨e, E⟩ := HD.fst_of E
  have A_lay_statement : DefAt K mg "lay_statement" s_lay_statement ["statement", "bodies"] := HD.defAt_of X G e rfl fun _ _ _ _ _ _ us hl => L2.len2 us hl (fun _ _ => rfl)
  clear e
  obtain ⟨e, E⟩ := HD.fst_of E
  have A__law_cell_at : DefAt K mg "_law_cell_at" s__law_cell_at ["script", "k"] := HD.defAt_of X G e rfl fun _ _ _ _ _ _ us hl => L2.len2 us hl (fun _ _ => rfl)
  clear e
  obtain ⟨e, E⟩ := HD.fst_of E
  have A__law_stir : DefAt K mg "_law_stir" s__law_stir ["cell", "k"] := HD.defAt_of X G e rfl fun _ _ _ _ _ _ us hl => L2.len2 us hl (fun _ _ => rfl)
  clear e
  obtain ⟨e, E⟩ := HD.fst_of E
  have A__law_refused : DefAt K mg "_law_refused" s__law_refused ["rows"] := HD.defAt_of X G e rfl fun _ _ _ _ _ _ us hl => L2.len1 us hl (fun _ => rfl)
  clear e
  obtain ⟨e, E⟩ := HD.fst_of E
  have A__law_bad : DefAt K mg "_law_bad" s__law_bad ["cell"] := HD.defAt_of X G e rfl fun _ _ _ _ _ _ us hl => L2.len1 us hl (fun _ => rfl)
  clear e
  obtain ⟨e, E⟩ := HD.fst_of E
  have A__law_any_good : DefAt K mg "_law_any_good" s__law_any_good ["number", "far"] := HD.defAt_of X G e rfl fun _ _ _ _ _ _ us hl => L2.len2 us hl (fun _ _ => rfl)
  clear e
  obtain ⟨e, E⟩ := HD.fst_of E
  have A__law_any_hand : DefAt K mg "_law_any_hand" s__law_any_hand ["number"] := HD.defAt_of X G e rfl fun _ _ _ _ _ _ us hl => L2.len1 us hl (fun _ => rfl)
  clear e
  obtain ⟨e, E⟩ := HD.fst_of E
  have A__law_any_row : DefAt K mg "_law_any_row" s__law_any_row ["cell"] := HD.defAt_of X G e rfl fun _ _ _ _ _ _ us hl => L2.len1 us hl (fun _ => rfl)
  clear e
  obtain ⟨e, E⟩ := HD.fst_of E
  have A__law_out_of_place : DefAt K mg "_law_out_of_place" s__law_out_of_place ["state", "row"] := HD.defAt_of X G e rfl fun _ _ _ _ _ _ us hl => L2.len2 us hl (fun _ _ => rfl)
  clear e
  obtain ⟨e, E⟩ := HD.fst_of E
  have A__law_due : DefAt K mg "_law_due" s__law_due ["state", "row"] := HD.defAt_of X G e rfl fun _ _ _ _ _ _ us hl => L2.len2 us hl (fun _ _ => rfl)
  clear e
  obtain ⟨e, E⟩ := HD.fst_of E
  have A__law_do : DefAt K mg "_law_do" s__law_do ["state", "row"] := HD.defAt_of X G e rfl fun _ _ _ _ _ _ us hl => L2.len2 us hl (fun _ _ => rfl)
  clear e
  obtain ⟨e, E⟩ := HD.fst_of E
  have A__law_judged : DefAt K mg "_law_judged" s__law_judged ["rows"] := HD.defAt_of X G e rfl fun _ _ _ _ _ _ us hl => L2.len1 us hl (fun _ => rfl)
  clear e
  obtain ⟨e, E⟩ := HD.fst_of E
  obtain ⟨fd, FL, hbi⟩ := HD.law_fun (st := s_law) (x := "law") (y := "script") X G e rfl hfa fun _ _ _ _ _ _ s v => .of_eq rfl
  clear e
  clear E
  obtain ⟨b, B⟩ := HD.all_cons B
  have hlen := HD.no_of X G b
  clear b
  obtain ⟨b, B⟩ := HD.all_cons B
  have hall := HD.no_of X G b
  clear b
  obtain ⟨b, B⟩ := HD.all_cons B
  have hint := HD.no_of X G b
  clear b
  obtain ⟨b, B⟩ := HD.all_cons B
  have hrange := HD.no_of X G b
  clear b
  obtain ⟨b, B⟩ := HD.all_cons B
  have hstr := HD.no_of X G b
  clear b
  obtain ⟨b, B⟩ := HD.all_cons B
  have hisinstance := HD.no_of X G b
  clear b
  obtain ⟨b, B⟩ := HD.all_cons B
  have htuple := HD.no_of X G b
  clear b
  obtain ⟨b, B⟩ := HD.all_cons B
  have hzip := HD.no_of X G b
  clear b
  obtain ⟨b, B⟩ := HD.all_cons B
  have hmax := HD.no_of X G b
  clear b
  obtain ⟨b, B⟩ := HD.all_cons B
  have hset := HD.no_of X G b
  clear b
  obtain ⟨b, B⟩ := HD.all_cons B
  have henumerate := HD.no_of X G b
  clear b
  obtain ⟨b, B⟩ := HD.all_cons B
  have hValueError := HD.no_of X G b
  clear b
  obtain ⟨b, B⟩ := HD.all_cons B
  obtain ⟨tk_MOST_LETTERS, g_MOST_LETTERS⟩ := HD.int_of X G b
  clear b
  obtain ⟨b, B⟩ := HD.all_cons B
  obtain ⟨tk_MOST_FIGURES, g_MOST_FIGURES⟩ := HD.int_of X G b
  clear b
  obtain ⟨b, B⟩ := HD.all_cons B
  obtain ⟨tk_MOST_SIGNS, g_MOST_SIGNS⟩ := HD.int_of X G b
  clear b
  obtain ⟨b, B⟩ := HD.all_cons B
  obtain ⟨tk_MOST_BRACKETS, g_MOST_BRACKETS⟩ := HD.int_of X G b
  clear b
  obtain ⟨b, B⟩ := HD.all_cons B
  obtain ⟨tk_MOST_ROWS, g_MOST_ROWS⟩ := HD.int_of X G b
  clear b
  obtain ⟨b, B⟩ := HD.all_cons B
  obtain ⟨tk_MOST_DEEP, g_MOST_DEEP⟩ := HD.int_of X G b
  clear b
  obtain ⟨b, B⟩ := HD.all_cons B
  obtain ⟨tk_MOST_PIECES, g_MOST_PIECES⟩ := HD.int_of X G b
  clear b
  obtain ⟨b, B⟩ := HD.all_cons B
  obtain ⟨tk_MOST_LEVEL, g_MOST_LEVEL⟩ := HD.int_of X G b
  clear b
  obtain ⟨b, B⟩ := HD.all_cons B
  obtain ⟨tk_MOST_DRAWN, g_MOST_DRAWN⟩ := HD.int_of X G b
  clear b
  obtain ⟨b, B⟩ := HD.all_cons B
  obtain ⟨tk_LETTERS, g_LETTERS⟩ := HD.txt_of X G b
  clear b
  obtain ⟨b, B⟩ := HD.all_cons B
  obtain ⟨tk_FIGURES, g_FIGURES⟩ := HD.txt_of X G b
  clear b
  obtain ⟨b, B⟩ := HD.all_cons B
  obtain ⟨tk_SIGNS, g_SIGNS⟩ := HD.txt_of X G b
  clear b
  obtain ⟨b, B⟩ := HD.all_cons B
  obtain ⟨tk_LAST, g_LAST⟩ := HD.txt_of X G b
  clear b
  obtain ⟨b, B⟩ := HD.all_cons B
  have gl_NN := PySem.W.mg_of X G (HD.ref_of b)
  clear b
  obtain ⟨b, B⟩ := HD.all_cons B
  have gl_Fx := PySem.W.mg_of X G (HD.ref_of b)
  clear b
  obtain ⟨b, B⟩ := HD.all_cons B
  have ns_Fx : (HD.adr K "FIXED" == sysModules) = false := by simpa using b
  clear b
  obtain ⟨b, B⟩ := HD.all_cons B
  have gl_Tl := PySem.W.mg_of X G (HD.ref_of b)
  clear b
  obtain ⟨b, B⟩ := HD.all_cons B
  have ns_Tl : (HD.adr K "TAILS" == sysModules) = false := by simpa using b
  clear b
  obtain ⟨b, B⟩ := HD.all_cons B
  have N_NoRow : Nmd mg "NoRow" (Cof K 0) := ⟨PySem.W.mg_of X G (HD.ref_of b)⟩
  clear b
  obtain ⟨b, B⟩ := HD.all_cons B
  have N_NoPlace : Nmd mg "NoPlace" (Cof K 1) := ⟨PySem.W.mg_of X G (HD.ref_of b)⟩
  clear b
  obtain ⟨b, B⟩ := HD.all_cons B
  have N_TooLong : Nmd mg "TooLong" (Cof K 2) := ⟨PySem.W.mg_of X G (HD.ref_of b)⟩
  clear b
  obtain ⟨b, B⟩ := HD.all_cons B
  have N_TooDeep : Nmd mg "TooDeep" (Cof K 3) := ⟨PySem.W.mg_of X G (HD.ref_of b)⟩
  clear b
  obtain ⟨b, B⟩ := HD.all_cons B
  have N_NoMeasure : Nmd mg "NoMeasure" (Cof K 4) := ⟨PySem.W.mg_of X G (HD.ref_of b)⟩
  clear b
  obtain ⟨b, B⟩ := HD.all_cons B
  have N_Twice : Nmd mg "Twice" (Cof K 5) := ⟨PySem.W.mg_of X G (HD.ref_of b)⟩
  clear b
  obtain ⟨b, B⟩ := HD.all_cons B
  have N_Open : Nmd mg "Open" (Cof K 6) := ⟨PySem.W.mg_of X G (HD.ref_of b)⟩
  clear b
  obtain ⟨b, B⟩ := HD.all_cons B
  have N_NoLog : Nmd mg "NoLog" (Cof K 7) := ⟨PySem.W.mg_of X G (HD.ref_of b)⟩
  clear b
  obtain ⟨b, B⟩ := HD.all_cons B
  have N_NoForm : Nmd mg "NoForm" (Cof K 8) := ⟨PySem.W.mg_of X G (HD.ref_of b)⟩
  clear b
  obtain ⟨b, B⟩ := HD.all_cons B
  have N_NoneYet : Nmd mg "NoneYet" (Cof K 9) := ⟨PySem.W.mg_of X G (HD.ref_of b)⟩
  clear b
  obtain ⟨b, B⟩ := HD.all_cons B
  have N_NoThing : Nmd mg "NoThing" (Cof K 10) := ⟨PySem.W.mg_of X G (HD.ref_of b)⟩
  clear b
  obtain ⟨b, B⟩ := HD.all_cons B
  have N_RunError : Nmd mg "RunError" (HD.adr K "RunError") := ⟨PySem.W.mg_of X G (HD.ref_of b)⟩
  clear b
  obtain ⟨b, B⟩ := HD.all_cons B
  have ex0 : ((List.range 7).all fun i => PySem.W.excIn K (Cof K i) veM "ValueError.__new__") = true := b
  clear b
  obtain ⟨b, B⟩ := HD.all_cons B
  have kc1 := b
  clear b
  obtain ⟨b, B⟩ := HD.all_cons B
  have kc2 := b
  clear b
  obtain ⟨b, B⟩ := HD.all_cons B
  have kc3 := b
  clear b
  obtain ⟨b, B⟩ := HD.all_cons B
  have kc := kcs_see kc1 kc2 kc3 b
  clear b
  clear B
  have qNN : ∀ H : Hp, SqT K H (HD.adr K "NO_NAMES") noN := HD.sqT_of C0 (by decide)
  have fx : FxA l.prog w K (HD.adr K "FIXED") := fx_see C1 ns_Fx
  have tl : TlA l.prog w K (HD.adr K "TAILS") := tl_see C2 ns_Tl
  refine ⟨fd, hbi, fun base _ _ => ?_⟩
  exact by
    have O_NoRow : ExcAt K mg "NoRow" (Cof K 0) := ⟨N_NoRow.gl, all_of ex0 (by decide)⟩
    have O_NoPlace : ExcAt K mg "NoPlace" (Cof K 1) := ⟨N_NoPlace.gl, all_of ex0 (by decide)⟩
    have O_TooLong : ExcAt K mg "TooLong" (Cof K 2) := ⟨N_TooLong.gl, all_of ex0 (by decide)⟩
    have O_TooDeep : ExcAt K mg "TooDeep" (Cof K 3) := ⟨N_TooDeep.gl, all_of ex0 (by decide)⟩
    have O_NoMeasure : ExcAt K mg "NoMeasure" (Cof K 4) := ⟨N_NoMeasure.gl, all_of ex0 (by decide)⟩
    have O_Twice : ExcAt K mg "Twice" (Cof K 5) := ⟨N_Twice.gl, all_of ex0 (by decide)⟩
    have O_Open : ExcAt K mg "Open" (Cof K 6) := ⟨N_Open.gl, all_of ex0 (by decide)⟩
    have Gname := ok_is_name (P := l.prog) (w := w) (base := base) A_is_name g_MOST_LETTERS g_LETTERS gl_NN qNN hlen hall
    have Gnum := ok_is_number (P := l.prog) (w := w) (base := base) A_is_number g_MOST_FIGURES (ok_is_whole A_is_whole g_FIGURES hlen hall)
    have Gleaf := ok_leaf A_leaf Gname Gnum O_NoRow hint
    have Gexpr := ok_expression A_expression g_MOST_SIGNS g_LAST hlen O_NoRow (ok_tokens_of A_tokens_of g_SIGNS g_LAST) (ok_sums A_read_factor A_read_term A_read_sum g_MOST_BRACKETS O_NoRow Gleaf 5 (Nat.le_refl _))
    have Gpart := ok_part A_part Gexpr Gname Gnum hint O_NoRow
    have Gkd := ok_kinds (base := base) A_kinds_due gl_Fx gl_Tl fx tl hlen O_NoRow
    have Gpo := ok_parts A_parts_of Gkd Gpart hzip
    have Gpc := ok_place (P := l.prog) (w := w) (base := base) A_check_place hlen O_NoPlace
    have Gdp := ok_depth (P := l.prog) (w := w) (base := base) A_check_depth hlen g_MOST_DEEP O_TooDeep
    have Gms := ok_meas (P := l.prog) (w := w) (base := base) A_check_measure hmax g_MOST_PIECES g_MOST_LEVEL g_MOST_DRAWN O_NoMeasure
    have Gtw := ok_twice (P := l.prog) (w := w) (base := base) A_check_twice hlen hset O_Twice
    have Gso := ok_stat (P := l.prog) (w := w) (base := base) A_statement_of htuple
    have Gls := ok_lst (P := l.prog) (w := w) (base := base) A_lay_statement
    have Gld := ok_down A_lay_down Gls Gso
    have Grd := ok_read (C := Cof K) A_read hlen henumerate g_MOST_ROWS O_TooLong O_Open Gpo Gpc Gdp Gms Gtw Gld
    have Gstir := ok_stir (P := l.prog) (w := w) (base := base) A__law_stir
    have Gca := ok_cell (P := l.prog) (w := w) (base := base) A__law_cell_at hlen
    have Gref := ok_refused A__law_refused hisinstance hValueError kc N_RunError N_NoRow N_NoPlace N_TooLong N_TooDeep N_NoMeasure N_Twice N_Open N_NoLog N_NoForm N_NoneYet N_NoThing Grd
    have Ggo := ok_good (P := l.prog) (w := w) (base := base) A__law_any_good hstr hrange hmax
    have Gha := ok_hand (P := l.prog) (w := w) (base := base) A__law_any_hand hlen hset
    have Gan := ok_any A__law_any_row Gstir Ggo Gha
    have Gou := ok_out (P := l.prog) (w := w) (base := base) A__law_out_of_place
    have Gdu := ok_due A__law_due Gou hlen hint
    have Gdo := ok_do (P := l.prog) (w := w) (base := base) A__law_do
    have Gba := ok_bad A__law_bad Gstir hlen
    have Gju := ok_ju A__law_judged Gdu Gdo hlen hint
    exact ok_law FL Gca Gstir Gba Gan Gju Gref hrange
theorem said_of (h : PySem.Challenge.rw_rerunyard_k09_faults_together.row.wellSaid = true → PySem.Challenge.rw_rerunyard_k09_faults_together.row.Holds) : PySem.Challenge.rw_rerunyard_k09_faults_together.Holds := by
  open PySem.W in o_law
  exact h (by assumption)
abbrev Runs (p : Program) (w : World) : Prop := ∀ os : OsState, HD.runQ p w 200 (HD.lookK p (PySem.W.view p [63]) (HD.ofOthers p "law") (fun _ => true) (see p) w) 40 (HD.begin0 w os) (PySem.W.topStub p) = some (true, PySem.W.openGood (PySem.W.view p [63]) (HD.ofOthers p "law"), saw p w)
theorem run_f (w : World) : Runs PySem.W.Fast.tw15445693936098223070 (w.withFollow "special-get-raises" false) := fun os => by kernel_rfl
theorem run_t (w : World) : Runs PySem.W.Fast.tw15445693936098223070 (w.withFollow "special-get-raises" true) := fun os => by kernel_rfl
theorem runs (w : World) : Runs PySem.Challenge.pw_rerunyard_k09_faults_together w := HD.turn_of (P := fun p => Runs p w) PySem.W.Fast.te15445693936098223070 ((PySem.W.byRow2 "special-get-raises" (P := fun w => Runs PySem.W.Fast.tw15445693936098223070 w) run_f run_t) w)
end K09
open PySem PySem.W PyProof.Rows
set_option maxRecDepth 100000 in
set_option maxHeartbeats 0 in
theorem PySem.Challenge.cw_rerunyard_k09_faults_together_holds : PySem.Challenge.rw_rerunyard_k09_faults_together.Holds := by
  refine K09.said_of fun said => ?_
  refine HD.holds_see (l := PySem.Challenge.rw_rerunyard_k09_faults_together) (i := 63) (N := 8000) (m := 200) (n := 40) (see := K09.see PySem.Challenge.pw_rerunyard_k09_faults_together) (saw := K09.saw PySem.Challenge.pw_rerunyard_k09_faults_together) said rfl (fun _ => rfl) rfl rfl K09.runs (by rfl) (by rfl) (by rfl) (by decide +kernel) ⟨rfl, rfl, rfl, rfl, rfl, by decide +kernel⟩ ?hw ?hc
  case hw => w_witness2
  case hc => exact HD.walk_see (l := PySem.Challenge.rw_rerunyard_k09_faults_together) (n := 63) (k := 27) (x := "script") (CX := L2.CX0) (sp := K09.spLaw) rfl (by decide) rfl ⟨rfl, by decide, by decide⟩ (fun w K mg fa h S X G hfa => K09.all_mk S X G hfa) (fun _ _ a ns hl _ hS => ⟨a, ns, rfl, hS, hl, fun _ => rfl⟩) fun _ _ _ _ z => z
#print axioms PySem.Challenge.cw_rerunyard_k09_faults_together_holds
