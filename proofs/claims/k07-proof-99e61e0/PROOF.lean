import PyProof.Rows.All
import Wide.All
import OpenK.AllK
import Wide.FinOn
import Lean
import PyProof.EqAt
import PyProof.EqKinds
import PyProof.TupleCall
import PyProof.ExcAttrAll.ValueError
import PySem.Challenge.RW_rerunyard_k07_rows_of_no_form
open List (all_eq_true any_cons append_assoc append_nil cons_append cons_ne_nil count_append count_cons drop_eq_getElem_cons drop_eq_nil_of_le drop_zero filterMap_cons filter_append find?_cons flatMap_append flatMap_cons flatMap_nil flatten_cons foldl_append foldl_cons forIn_cons forIn_nil getD_eq_getElem?_getD getElem?_append_right getElem?_eq_getElem getElem?_inj getElem?_map getElem?_range getElem?_zipWith getElem_mem getLast?_singleton length_append length_cons length_drop length_map length_nil length_range length_replicate length_reverse length_singleton length_take lookup_cons map_append map_cons map_drop map_map map_nil map_singleton map_take mem_append mem_append_left mem_append_right mem_cons mem_cons_of_mem mem_cons_self mem_of_getElem? mem_of_mem_take mem_range'_1 mem_singleton mem_singleton_self nil_append not_mem_nil of_mem_zip range_succ replicate replicate_succ reverse_cons set_cons_succ set_cons_zero size_toArray sum_cons take_append_drop take_nil take_of_length_le take_succ_cons zipWith zipWith_cons_cons zipWith_nil_left)
open PySem.W (callWith_K cellsFrom_some kIn_of kia_one kitOne)
open Nat (add_comm add_zero le_of_lt le_refl le_succ le_trans lt_irrefl lt_of_lt_of_le lt_succ_of_lt mul_comm ne_of_gt ne_of_lt sub_self zero_add zero_le)
open PySem.Heap (get?_none_of_le get?_push_of_some get?_push_size get?_update_other get?_update_self lt_size size_push size_update)
open Bool (and_eq_true decide_or not_not or_eq_true)
open Option (getD_none)
open Int (emod_lt_of_pos emod_nonneg eq_ofNat_of_zero_le toNat_natCast)
set_option genInjectivity false
set_option genSizeOf false
set_option Elab.async false
set_option linter.all false
set_option maxRecDepth 100000
namespace L2
open PySem PySem.Spec PyProof.Rows
abbrev Key:=Sum Int Str
def kC:Key->Value->Bool
 | .inl k,v=>Value.isInt k v
 | .inr x,v=>Value.isStrOf x v
def jY(w:World):Key->Int
 | .inl k=>hashInt k
 | .inr x=>hashStr w x
theorem cq:∀{k:Key} {v:Value},kC k v=true->(∃i t,k=Sum.inl i/\v=Value.int i t)\/(∃x t,k=Sum.inr x/\v=Value.str x t)
 | .inl i,v,h=>by
  obtain⟨t,e⟩:=Value.isInt_shape (k:=i) (v:=v) h
  exact .inl ⟨i,t,rfl,e⟩
 | .inr x,v,h=>by
  obtain⟨t,e⟩:=Value.isStrOf_shape (x:=x) (v:=v) h
  exact .inr ⟨x,t,rfl,e⟩
theorem t7(i:Int)(t:Tok):kC (.inl i) (.int i t)=true:=by simp [kC,Value.isInt]
theorem t8(x:Str)(t:Tok):kC (.inr x) (.str x t)=true:=by simp [kC,Value.isStrOf]
theorem zn(a b:Int):decide ((Sum.inl a:Key)=Sum.inl b)=(a==b):=by
 by_cases e:a=b
 ·subst e;simp
 ·have h:¬(Sum.inl a:Key)=Sum.inl b:=λq=>e (Sum.inl.inj q)
  rw [decide_eq_false h]
  exact(beq_eq_false_iff_ne.mpr e).symm
theorem zo(a b:Str):decide ((Sum.inr a:Key)=Sum.inr b)=decide (a=b):=by
 by_cases e:a=b
 ·subst e;simp
 ·have h:¬(Sum.inr a:Key)=Sum.inr b:=λq=>e (Sum.inr.inj q)
  rw [decide_eq_false h,decide_eq_false e]
theorem zp(a:Int)(b:Str):decide ((Sum.inl a:Key)=Sum.inr b)=false:=decide_eq_false (λq=>nomatch q)
theorem zq(a:Str)(b:Int):decide ((Sum.inr a:Key)=Sum.inl b)=false:=decide_eq_false (λq=>nomatch q)
def cN(prog:Program)(w:World):PySem.KeyKind prog w Key where
 is:=kC
 hash:=jY w
 inj:=λv a b ha hb=>by
  rcases cq ha with ⟨i,t,rfl,rfl⟩ | ⟨x,t,rfl,rfl⟩
  ·rcases cq hb with ⟨j,u,rfl,e⟩ | ⟨y,u,rfl,e⟩
   ·injection e with e1 _;rw [e1]
   ·exact nomatch e
  ·rcases cq hb with ⟨j,u,rfl,e⟩ | ⟨y,u,rfl,e⟩
   ·exact nomatch e
   ·injection e with e1 _;rw [e1]
 byValue := fun k v h => by
   rcases cq h with ⟨i,t,rfl,rfl⟩ | ⟨x,t,rfl,rfl⟩<;>rfl
 pyHash:=λhv h=>by
  rcases cq hv with ⟨i,t,rfl,rfl⟩ | ⟨x,t,rfl,rfl⟩
  ·exact wpAny_pyHash_int h
  ·exact wpAny_pyHash_str h
 eqBool:=λhu hv h=>by
  rcases cq hu with ⟨i,t,rfl,rfl⟩ | ⟨x,t,rfl,rfl⟩
  ·rcases cq hv with ⟨j,u,rfl,rfl⟩ | ⟨y,u,rfl,rfl⟩
   ·rw [zn] at h;exact wpAny_eqBool_int h
   ·rw [zp] at h;exact SeqAt.EqAt.int_str i t y u _ _ _ _ h
  ·rcases cq hv with ⟨j,u,rfl,rfl⟩ | ⟨y,u,rfl,rfl⟩
   ·rw [zq] at h;exact SeqAt.EqAt.str_int x t j u _ _ _ _ h
   ·rw [zo] at h;exact wpAny_eqBool_str h
 «strs»:=λk x t v h=>by
  rcases cq h with ⟨i,u,rfl,e⟩ | ⟨y,u,rfl,e⟩
  ·exact nomatch e
  ·injection e with e1 _
   subst e1
   cases v<;>rfl
theorem qJ(prog:Program)(w:World)(i:Int)(t:Tok):(cN prog w).is (.inl i) (.int i t)=true:=t7 i t
theorem qK(prog:Program)(w:World)(x:Str)(t:Tok):(cN prog w).is (.inr x) (.str x t)=true:=t8 x t
set_option genInjectivity true in
inductive V where
 | non | bl (b:Bool) | int (i:Int) | str (x:Str) | byt (b:Array UInt8) | flt (b:UInt64) | ref (a:Addr) | ty (n:String)
 deriving DecidableEq
def RelV:V->Value->Prop
 | .non,u=>u=Value.none
 | .bl b,u=>u=Value.bool b
 | .int i,u=>∃t,u=Value.int i t
 | .str x,u=>∃t,u=Value.str x t
 | .byt b,u=>∃t,u=Value.bytes b t
 | .flt b,u=>∃t,u=Value.float b t
 | .ref a,u=>u=Value.ref a
 | .ty n,u=>u=Value.type n
abbrev Vals:List V->List Value->Prop:=Paired RelV
theorem Vals.length{xs:List V}{us:List Value}(r:Vals xs us):xs.length=us.length:=Paired.length r
theorem Vals.get:∀{xs:List V} {us:List Value} {i:Nat} {x:V},Vals xs us->xs[i]? =some x->∃u,us[i]? =some u/\RelV x u
 | _,_,_,_,.nil,e=>by simp at e
 | _,_,0,_,.cons r _,e=>by simp at e;subst e;exact⟨_,rfl,r⟩
 | _,_,i+1,x,.cons _ t,e=>by
  obtain⟨u,h1,h2⟩:=Vals.get (i:=i) (x:=x) t (by simpa using e)
  exact⟨u,by simpa using h1,h2⟩
theorem Vals.set{x:V}{u:Value}(r:RelV x u):∀{xs:List V} {us:List Value} (i:Nat),Vals xs us->Vals (xs.set i x) (us.set i u)
 | _,_,_,.nil=>.nil
 | _,_,0,.cons _ t=>.cons r t
 | _,_,i+1,.cons q t=>.cons q (Vals.set r i t)
theorem Vals.append:∀{xs ys:List V} {us ws:List Value},Vals xs us->Vals ys ws->Vals (xs++ys) (us++ws)
 | _,_,_,_,.nil,s=>s
 | _,_,_,_,.cons r t,s=>.cons r (Vals.append t s)
theorem Vals.take:∀{xs:List V} {us:List Value} (n:Nat),Vals xs us->Vals (xs.take n) (us.take n)
 | _,_,0,_=>.nil
 | _,_,_+1,.nil=>.nil
 | _,_,n+1,.cons r t=>.cons r (Vals.take n t)
theorem Vals.drop:∀{xs:List V} {us:List Value} (n:Nat),Vals xs us->Vals (xs.drop n) (us.drop n)
 | _,_,0,r=>r
 | _,_,_+1,.nil=>.nil
 | _,_,n+1,.cons _ t=>Vals.drop n t
def RelO:Option V->Option Value->Prop
 | some v,some u=>RelV v u
 | none,none=>True
 | _,_=>False
def KV{κ:Type}:List (κ×V)->List (κ×Value)->Prop:=Paired λ(p:κ×V) (q:κ×Value)=>p.1=q.1/\RelV p.2 q.2
def kV:Key->V
 | .inl i=>.int i
 | .inr x=>.str x
set_option genInjectivity true in
inductive HO where
 | lst (xs:List V)
 | tup (xs:List V)
 | dK (kvs:List (Key×V)) | dT (kvs:List (List Key×V))
 | set (S:Int->Bool) (n:Nat)
 | ins (C dx:Addr) (fs:List (Str×V))
 | own (x:Addr)
 | xd (fs:List (Str×V))
 | met (f x:Addr)
 | rng (lo hi:Int)
 | frz (o:Obj) (u:HO)
 | tbl (ps:Array Value)
 | ext (φ:Heap->Prop)
abbrev Hp:=Addr->Option HO
def upd(H:Hp)(a:Addr)(o:HO):Hp:=λb=>if b=a then some o else H b
theorem aX{H:Hp}{a:Addr}{o:HO}:upd H a o a=some o:=by unfold upd;rw [if_pos rfl]
theorem aO{H:Hp}{a b:Addr}{o:HO}(h:b≠a):upd H a o b=H b:=by unfold upd;rw [if_neg h]
theorem xT{H:Hp}{a:Addr}{o u:HO}:upd (upd H a o) a u=upd H a u:=by
 funext b;unfold upd;split<;>rfl
theorem bN{H:Hp}{a b:Addr}{o:HO}(h:H a=some o)(h':H b=none):a≠b:=by
 intro e;subst e;rw [h] at h';cases h'
section
variable(P:Program)(w:World)
def ObjOk(H:Hp)(h:Heap)(a:Addr):HO->Prop
 | .lst xs=>xs.length<=sizeLine/\∃(its:List Value) (n:Nat),Vals xs its/\h.get? a=some {cls:=.type "list",data:=.seq its.toArray n}
 | .tup xs=>xs.length<=sizeLine/\∃its:List Value,Vals xs its/\IsTup h a its.toArray
 | .dK kvs=>kvs.length<=sizeLine/\(a==sysModules)=false/\∃vs,KV kvs vs/\h.DictOf (cN P w) a vs
 | .dT kvs=>kvs.length<=sizeLine/\(a==sysModules)=false/\∃xs:List (List Key×Addr×Value),
  Paired (λ(p:List Key×V) (q:List Key×Addr×Value)=>p.1=q.1/\H q.2.1=some (.tup (p.1.map kV))/\RelV p.2 q.2.2) kvs xs/\
  ∃o es ep,h.get? a=some o/\o.ExactDict/\o.data= .dict es ep/\es.toList=xs.map (entryOfKey (tupleKind (cN P w)))/\(xs.map (·.1)).Nodup
 | .set S n=>h.SetOf (intKind P w) a S n
 | .ins C dx fs=>H dx=some (.own a)/\fs.length<=1000/\dx≠a/\h.get? a=some (PySem.W.instObj C dx)/\
  ∃mA,h.Ns1 dx mA/\(∀f,RelO (fs.lookup f) (mA f))/\PySem.Within mA (fs.map (·.1))
 | .own _=>∃o,h.get? a=some o
 | .xd fs=>∃mA,h.Ns1 a mA/\∀f,RelO (fs.lookup f) (mA f)
 | .rng lo hi=>∃t u v,h.get? a=some {cls:=.type "range",data:=.fields #[.int lo t,.int hi u,.int 1 v]}
 | .frz o u=>h.get? a=some o/\ObjOk H h a u
 | .tbl ps=>h.get? a=some {cls:=.none,data:=.fields ps}
 | .met f x=>h.get? a=some (PySem.W.methodObj (.ref f) (.ref x))
 | .ext φ=>φ h/\(∃o,h.get? a=some o)/\∀h1 h2:Heap,φ h1->(∀o,h1.get? a=some o->h2.get? a=some o)->φ h2
def HOk(H:Hp)(h:Heap):Prop:=∀a o,H a=some o->ObjOk P w H h a o
end
section
variable{P:Program}{w:World}{H H':Hp}{h h':Heap}{a:Addr}{o:HO}
theorem ObjOk.lt(x:ObjOk P w H h a o):a<h.objs.size:=by
 cases o with
 | lst xs=>obtain⟨_,_,_,_,e⟩:=x;exact lt_size e
 | tup xs=>obtain⟨_,_,_,p⟩:=x;exact p.lt
 | dK kvs=>obtain⟨_,_,_,_,o,_,_,e,_⟩:=x;exact lt_size e
 | dT kvs=>obtain⟨_,_,_,_,o,_,_,e,_⟩:=x;exact lt_size e
 | set S n=>obtain⟨o,_,_,_,e,_⟩:=x;exact lt_size e
 | ins C dx fs=>obtain⟨_,_,_,e,_⟩:=x;exact lt_size e
 | own y=>obtain⟨_,e⟩:=x;exact lt_size e
 | xd fs=>obtain⟨_,⟨_,_,_,e,_⟩,_⟩:=x;exact lt_size e
 | rng lo hi=>obtain⟨_,_,_,e⟩:=x;exact lt_size e
 | frz ob u=>obtain⟨e,_⟩:=x;exact lt_size e
 | tbl ps=>exact lt_size (show h.get? a=some _ from x)
 | met f y=>exact lt_size (show h.get? a=some _ from x)
 | ext φ=>obtain⟨_,⟨_,e⟩,_⟩:=x;exact lt_size e
theorem Paired.mapP{α β:Type}{F G:α->β->Prop}:∀{l₁:List α} {l₂:List β},Paired F l₁ l₂->(∀a b,F a b->G a b)->Paired G l₁ l₂
 | _,_,.nil,_=>.nil
 | _,_,.cons r t,f=>.cons (f _ _ r) (Paired.mapP t f)
theorem ObjOk.stay(x:ObjOk P w H h a o)(k:∀b u,(b=a\/H b=some (.own a))->h.get? b=some u->h'.get? b=some u)
 (ho:∀b,H b=some (.own a)->H' b=some (.own a)) (ht:∀b xs,H b=some (.tup xs)->H' b=some (.tup xs)):ObjOk P w H' h' a o:=by
 induction o with
 | lst xs=>obtain⟨z,its,n,r,e⟩:=x;exact⟨z,its,n,r,k _ _ (.inl rfl) e⟩
 | tup xs=>obtain⟨z,its,r,ob,e,c⟩:=x;exact⟨z,its,r,ob,k _ _ (.inl rfl) e,c⟩
 | dK kvs=>obtain⟨z,y,vs,r,ob,es,ep,e,c⟩:=x;exact⟨z,y,vs,r,ob,es,ep,k _ _ (.inl rfl) e,c⟩
 | dT kvs=>
  obtain⟨z,y,xs,r,ob,es,ep,e,c⟩:=x
  exact⟨z,y,xs,Paired.mapP r λp q z=>⟨z.1,ht _ _ z.2.1,z.2.2⟩,ob,es,ep,k _ _ (.inl rfl) e,c⟩
 | set S n=>obtain⟨ob,es,ep,t,e,c⟩:=x;exact⟨ob,es,ep,t,k _ _ (.inl rfl) e,c⟩
 | ins C dx fs=>
  obtain⟨d,z,ne,e,mA,⟨od,es,ep,e2,c⟩,r⟩:=x
  exact⟨ho _ d,z,ne,k _ _ (.inl rfl) e,mA,⟨od,es,ep,k _ _ (.inr d) e2,c⟩,r⟩
 | own y=>obtain⟨ob,e⟩:=x;exact⟨ob,k _ _ (.inl rfl) e⟩
 | xd fs=>obtain⟨mA,⟨od,es,ep,e,c⟩,r⟩:=x;exact⟨mA,⟨od,es,ep,k _ _ (.inl rfl) e,c⟩,r⟩
 | rng lo hi=>obtain⟨t,u,v,e⟩:=x;exact⟨t,u,v,k _ _ (.inl rfl) e⟩
 | frz ob u ih=>obtain⟨e,q⟩:=x;exact⟨k _ _ (.inl rfl) e,ih q⟩
 | tbl ps=>
  have e:h.get? a=some {cls:=.none,data:=.fields ps}:=x
  show h'.get? a=some {cls:=.none,data:=.fields ps}
  exact k a _ (.inl rfl) e
 | met f y=>
  have e:h.get? a=some (PySem.W.methodObj (.ref f) (.ref y)):=x
  show h'.get? a=some (PySem.W.methodObj (.ref f) (.ref y))
  exact k a _ (.inl rfl) e
 | ext φ=>obtain⟨p,⟨o,e⟩,st⟩:=x;exact⟨st _ _ p λo q=>k _ _ (.inl rfl) q,⟨o,k _ _ (.inl rfl) e⟩,st⟩
theorem HOk.lt(x:HOk P w H h)(e:H a=some o):a<h.objs.size:=(x a o e).lt
theorem HOk.fresh(x:HOk P w H h)(e:h.objs.size<=a):H a=none:=by
 cases q:H a with
 | none=>rfl
 | some u=>exact absurd (lt_of_lt_of_le (x.lt q) e) (lt_irrefl _)
theorem HOk.kept(x:HOk P w H h)(k:∀b u,h.get? b=some u->h'.get? b=some u):HOk P w H h':=λa o e=>
 (x a o e).stay (λb u _ q=>k b u q) (λ_ q=>q) λ_ _ q=>q
theorem HOk.laid(x:HOk P w H h)(k:∀b u,h.get? b=some u->h'.get? b=some u)(hp:h.objs.size<=a)(new:ObjOk P w (upd H a o) h' a o):HOk P w (upd H a o) h':=λb u e=>by
 have hn:=x.fresh hp
 by_cases hb:b=a
 ·subst hb;rw [aX] at e;cases e;exact new
 ·rw [aO hb] at e
  exact(x b u e).stay (λc v _ q=>k c v q) (λc q=>by rw [aO (bN q hn)];exact q) λc xs q=>by rw [aO (bN q hn)];exact q
end
def Rd(H:Hp)(a:Addr)(u:HO):Prop:=H a=some u\/∃o,H a=some (.frz o u)
theorem Rd.ok{P:Program}{w:World}{H:Hp}{h:Heap}{a:Addr}{u:HO}(r:Rd H a u)(x:HOk P w H h):ObjOk P w H h a u:=by
 rcases r with r | ⟨o,r⟩
 ·exact x a u r
 ·obtain⟨_,q⟩:=x a _ r
  exact q
def Mut:Option HO->Prop
 | some (.lst _)=>True
 | some (.dK _)=>True
 | some (.dT _)=>True
 | some (.set _ _)=>True
 | some (.ins _ _ _)=>True
 | some (.ext _)=>True
 | _=>False
section
variable{P:Program}{w:World}{H:Hp}{h h':Heap}{x e:Addr}{o':HO}
theorem HOk.write(ok:HOk P w H h)(mu:Mut (H x))(he:e=x\/H e=some (.own x))(k:∀b u,b≠e->h.get? b=some u->h'.get? b=some u)(heo:∃u,h'.get? e=some u)
 (new:ObjOk P w (upd H x o') h' x o'):HOk P w (upd H x o') h':=λb u q=>by
 have nown:∀c y,H c=some (.own y)->c≠x:=λc y r z=>by subst z;rw [r] at mu;exact mu
 have ntup:∀c xs,H c=some (.tup xs)->c≠x:=λc xs r z=>by subst z;rw [r] at mu;exact mu
 by_cases hb:b=x
 ·subst hb;rw [aX] at q;cases q;exact new
 ·rw [aO hb] at q
  by_cases hbe:b=e
  ·have q':H b=some (.own x):=by
    rcases he with z | z
    ·exact absurd (hbe.trans z) hb
    ·rw [hbe];exact z
   rw [q] at q';cases q'
   obtain⟨v,hv⟩:=heo
   exact⟨v,by rw [hbe];exact hv⟩
  ·refine(ok b u q).stay (λc v hc r=>k c v ?_ r) (λc r=>by rw [aO (nown c b r)];exact r) λc xs r=>by rw [aO (ntup c xs r)];exact r
   rcases hc with rfl | hc
   ·exact hbe
   ·rintro rfl
    rcases he with z | z
    ·exact nown c b hc z
    ·rw [hc] at z;cases z;exact hb rfl
end
structure Un(fs ex:List Addr)(H H':Hp)(h h':Heap):Prop where
 keep:∀b o,h.get? b=some o->H b=none->b∉fs->b∉ex->h'.get? b=some o
 slot:∀b o,h.get? b=some o->H b=none->b∈fs->b∉ex->∃sl,h'.get? b=some {o with slots:=sl}
 free:∀b o,h.get? b=some o->H b=none->b∉ex->H' b=none
 there:∀b o,h.get? b=some o->b∉ex->∃o',h'.get? b=some o'
 tups:∀b xs,H b=some (.tup xs)->H' b=some (.tup xs)
 frzs:∀b o u,H b=some (.frz o u)->H' b=some (.frz o u)
 tbls:∀b ps,H b=some (.tbl ps)->∃more,H' b=some (.tbl (ps++more))
section
variable{fs fs' ex ex':List Addr}{H H1 H2:Hp}{h h1 h2 h':Heap}{a x e:Addr}{o:HO}
theorem Un.any(u:Un fs ex H H1 h h1){b:Addr}{ob:Obj}(q:h.get? b=some ob)(n:H b=none)(hx:b∉ex):∃sl,h1.get? b=some {ob with slots:=sl}:=by
 by_cases hb:b∈fs
 ·exact u.slot b ob q n hb hx
 ·exact⟨ob.slots,u.keep b ob q n hb hx⟩
theorem Un.kept(k:∀b u,h.get? b=some u->h'.get? b=some u):Un fs ex H H h h':=
 ⟨λb ob q _ _ _=>k b ob q,λb ob q _ _ _=>⟨ob.slots,k b ob q⟩,λ_ _ _ n _=>n,λb ob q _=>⟨ob,k b ob q⟩,λ_ _ q=>q,λ_ _ _ q=>q,λ_ ps q=>⟨#[],by rw [q];simp⟩⟩
theorem Un.refl:Un fs ex H H h h:=Un.kept λ_ _ q=>q
theorem Un.laid(k:∀b u,h.get? b=some u->h'.get? b=some u)(hp:h.objs.size<=a)(hn:H a=none):Un fs ex H (upd H a o) h h' where
 keep:=λb u q _ _ _=>k b u q
 slot:=λb u q _ _ _=>⟨u.slots,k b u q⟩
 free:=λb u q n _=>by rw [aO (ne_of_lt (lt_of_lt_of_le (lt_size q) hp))];exact n
 there:=λb u q _=>⟨u,k b u q⟩
 tups:=λb xs q=>by rw [aO (bN q hn)];exact q
 frzs:=λb u xs q=>by rw [aO (bN q hn)];exact q
 tbls:=λb ps q=>⟨#[],by rw [aO (bN q hn),q];simp⟩
theorem Un.write(mu:Mut (H x))(he:e=x\/H e=some (.own x))(k:∀b u,b≠e->h.get? b=some u->h'.get? b=some u)(heo:∃u,h'.get? e=some u):Un fs ex H (upd H x o) h h':=by
 have hx:∀b,H b=none->b≠x:=λb n z=>by subst z;rw [n] at mu;exact mu
 have hb:∀b,H b=none->b≠e:=λb n z=>by
  subst z
  rcases he with r | r
  ·exact hx b n r
  ·rw [n] at r;cases r
 have hm:∀b u,H b=some u->¬Mut (some u)->b≠x:=λb u q nm z=>by subst z;rw [q] at mu;exact nm mu
 refine⟨λb u q n _ _=>k b u (hb b n) q,λb u q n _ _=>⟨u.slots,k b u (hb b n) q⟩,λb u q n _=>by rw [aO (hx b n)];exact n,λb u q _=>?_,
  λb xs q=>by rw [aO (hm b _ q λz=>z)];exact q,λb u xs q=>by rw [aO (hm b _ q λz=>z)];exact q,λb ps q=>⟨#[],by rw [aO (hm b _ q λz=>z),q];simp⟩⟩
 by_cases hbe:b=e
 ·subst hbe;exact heo
 ·exact⟨u,k b u hbe q⟩
end
def trk(h:Heap)(H:Hp):List Addr:=(List.range h.objs.size).filter λa=>(H a).isSome
def jE(h:Heap)(H:Hp):Heap:=PySem.W.hideAll h (trk h H)
theorem ua(h:Heap)(H:Hp):(jE h H).objs.size=h.objs.size:=PySem.W.hideAll_size _ _
theorem vR{h:Heap}{H:Hp}{b:Addr}{o:Obj}(e:h.get? b=some o)(n:H b=none):(jE h H).get? b=some o:=
 PySem.W.hideAll_get _ e λhm=>by
  have q:(H b).isSome=true:=(List.mem_filter.mp hm).2
  rw [n] at q;simp at q
theorem xU{h:Heap}{H:Hp}{b:Addr}{o:Obj}(e:(jE h H).get? b=some o):h.get? b=some o/\H b=none:=by
 have e':h.get? b=some o:=PySem.W.of_hideAll (trk h H) e
 refine⟨e',?_⟩
 cases q:H b with
 | none=>rfl
 | some x=>
  have hm:b∈trk h H:=List.mem_filter.mpr ⟨List.mem_range.mpr (lt_size e'),by simp [q]⟩
  have z:(jE h H).get? b=none:=PySem.W.hideAll_none (trk h H) hm
  rw [z] at e;cases e
def xV(g h:Heap)(L:Addr):List (Addr×Obj):=(List.range h.objs.size).filterMap λa=>if a=L\/(g.get? a).isSome=true then none else (h.get? a).map λo=>(a,o)
def rest(g h:Heap)(L d:Addr):List (Addr×Obj):=(xV g h L).filter λp=>decide (p.1≠d)
structure Mod(K:PySem.W.Frag)(mg:Str->Option Value)(base:Heap):Prop where
 kin:K.In base
 glob:base.Ns mainGlobals mg
 blt:∃mb,base.Ns builtinsNs mb/\∀x:Str,x≠"__name__"->mb x=bootBuiltins x
 nolimit:base.NoLimit
set_option genInjectivity true in
structure Cx where
 prog:Program
 w:World
 K:PySem.W.Frag
 mg:Str->Option Value
 base:Heap
 A:Around
 N:List Str
 s₀:Shared
 H₀:Hp
 env:Env
 outer:List Env
 stack:List Env
 ex:List Addr
 fn:Str->Bool
 calm:Bool
 pn:List (Addr×Obj)
 xe:Value->Shared->Prop
def frs(l:List Env):List Addr:=l.filterMap (·.frame)
abbrev Cx.fs(X:Cx):List Addr:=frs X.outer
def Vis(sc:Scope)(x:Str):Prop:=sc.names.lookup x=some .local\/sc.names.lookup x=some .cell\/sc.names.lookup x=some .free
def Loc(sc:Scope)(x:Str):Prop:=sc.names.lookup x=some .local\/sc.names.lookup x=some .cell
def zr(env:Env)(h:Heap)(m:Str->Option Value)(x:Str)(u:Value):Prop:=
 (env.kindOf x=some .local/\m x=some u)\/((env.kindOf x=some .cell\/env.kindOf x=some .free)/\∃c,env.cells.lookup x=some c/\h.IsCell c (some u))
structure Cx.Ok(X:Cx):Prop where
 mod:Mod X.K X.mg X.base
 kind:X.env.scope.kind= .function
 glob:X.env.globals=mainGlobals
 blt:X.env.builtins=builtinsNs
 above:X.s₀.heap.objs.size<=X.env.locals
 inj:∀x y c,X.env.cells.lookup x=some c->X.env.cells.lookup y=some c->x=y
 has:∀x,(X.env.kindOf x=some .cell\/X.env.kindOf x=some .free)->∃c,X.env.cells.lookup x=some c
 cab:∀x c,X.fn x=true->X.env.cells.lookup x=some c->X.s₀.heap.objs.size<=c
 hd:X.calm=true->X.A.handled=none
 frames:X.A.frames=some X.stack
 stk:X.stack=X.outer\/(X.stack=X.env::X.outer/\X.env.frame=some X.env.locals)
 exf:∀b∈X.ex,b≠X.env.locals/\∀x c,X.env.cells.lookup x=some c->c≠b
 bs:∀b o,X.base.get? b=some o->X.s₀.heap.get? b=some o/\X.H₀ b=none
 bsz:X.base.objs.size<=X.s₀.heap.objs.size
 noex:∀b o,X.base.get? b=some o->b∉X.ex
 exfs:∀b∈X.ex,b∉X.fs
 funs:X.s₀.heap.FunFrames X.base X.outer
 frf:∀b∈X.fs,X.H₀ b=none
structure Inv(X:Cx)(pins:List (Addr×Obj))(σ:List (Option V))(H:Hp)(s:Shared):Prop where
 ok:X.Ok
 os:s.os=X.s₀.os
 bare:AllBare s.gens
 base:Un X.fs X.ex X.H₀ H X.s₀.heap s.heap
 loc:∃m,s.heap.Ns X.env.locals m/\∀(i:Nat) (x:Str) (v:V),X.N[i]? =some x->σ[i]? =some (some v)->Vis X.env.scope x->∃u,RelV v u/\zr X.env s.heap m x u
 cell:∀x c,X.env.cells.lookup x=some c->∃v,s.heap.IsCell c v
 free:H X.env.locals=none
 freeC:∀x c,X.env.cells.lookup x=some c->H c=none
 pin:∀p∈X.pn++pins,s.heap.get? p.1=some p.2/\H p.1=none/\p.1≠X.env.locals/\p.1∉X.fs/\∀v,p.2.data≠.cell v
 hok:HOk X.prog X.w H s.heap
 len:σ.length=X.N.length
section
variable{X:Cx}{pins:List (Addr×Obj)}{σ:List (Option V)}{H H':Hp}{s:Shared}{h':Heap}
theorem Cx.Ok.nofr(ok:X.Ok){b:Addr}{o:Obj}(e:X.base.get? b=some o):b∉X.fs:=λhb=>by
 have:=(ok.funs.mem hb).1
 rw [e] at this;cases this
theorem Inv.bs(I:Inv X pins σ H s):∀b o,X.base.get? b=some o->s.heap.get? b=some o/\H b=none:=λb o e=>
 ⟨I.base.keep b o (I.ok.bs b o e).1 (I.ok.bs b o e).2 (I.ok.nofr e) (I.ok.noex b o e),I.base.free b o (I.ok.bs b o e).1 (I.ok.bs b o e).2 (I.ok.noex b o e)⟩
theorem Inv.bk(I:Inv X pins σ H s):∀b o,X.base.get? b=some o->s.heap.get? b=some o:=λb o e=>(I.bs b o e).1
theorem Inv.mod(I:Inv X pins σ H s):Mod X.K X.mg X.base:=I.ok.mod
theorem Inv.kIn(I:Inv X pins σ H s):X.K.In s.heap:=I.ok.mod.kin.keeps I.bk
theorem Inv.lt(I:Inv X pins σ H s):X.env.locals<s.heap.objs.size:=let ⟨_,hn,_⟩:=I.loc;hn.lt
theorem Inv.sz(I:Inv X pins σ H s):X.s₀.heap.objs.size<=s.heap.objs.size:=le_trans I.ok.above (le_of_lt I.lt)
theorem Inv.nofs(I:Inv X pins σ H s){a:Addr}(h:s.heap.objs.size<=a):a∉X.fs:=λhb=>by
 obtain⟨_,o,ho,_⟩:=I.ok.funs.mem hb
 exact absurd (lt_of_lt_of_le (lt_size ho) (le_trans I.sz h)) (lt_irrefl _)
theorem Inv.cne(I:Inv X pins σ H s):∀x c,X.env.cells.lookup x=some c->c≠X.env.locals:=λx c e z=>by
 obtain⟨v,o,ho,hd⟩:=I.cell x c e
 obtain⟨m,⟨o',es,ep,ho',hd',_⟩,_⟩:=I.loc
 rw [z,ho'] at ho;cases ho;rw [hd'] at hd;cases hd
theorem Inv.funs(I:Inv X pins σ H s):s.heap.FunFrames X.base X.outer:=by
 have all:∀(l:List Env),(∀b∈frs l,b∈X.fs)->X.s₀.heap.FunFrames X.base l->s.heap.FunFrames X.base l:=by
  intro l
  induction l with
  | nil=>intro _ _;trivial
  | cons env r ih=>
   intro hs hl
   obtain⟨hk,⟨L,o,hf,hn,ho,hd⟩,hr⟩:=hl
   have hL:L∈X.fs:=hs L (by unfold frs;rw [filterMap_cons,hf];exact mem_cons_self)
   obtain⟨sl,e⟩:=I.base.slot L o ho (I.ok.frf L hL) hL λz=>I.ok.exfs L z hL
   exact⟨hk,⟨L,_,hf,hn,e,hd⟩,ih (λb hb=>hs b (by unfold frs;rw [filterMap_cons,hf];exact mem_cons_of_mem _ hb)) hr⟩
 exact all X.outer (λ_ hb=>hb) I.ok.funs
theorem Inv.stack(I:Inv X pins σ H s):s.heap.FunFrames X.base X.stack:=by
 rcases I.ok.stk with e | ⟨e,hf⟩
 ·rw [e];exact I.funs
 ·rw [e]
  obtain⟨m,hn,_⟩:=I.loc
  refine .cons (by rw [I.ok.kind];decide) hf hn ?_ I.funs
  exact get?_none_of_le (le_trans I.ok.bsz I.ok.above)
theorem Inv.stkSub(I:Inv X pins σ H s):∀b∈frs X.stack,b∈X.env.locals::X.fs:=λb hb=>by
 rcases I.ok.stk with e | ⟨e,hf⟩
 ·rw [e] at hb;exact mem_cons_of_mem _ hb
 ·rw [e] at hb
  unfold frs at hb
  rw [filterMap_cons,hf] at hb
  exact hb
theorem Inv.stkFree(I:Inv X pins σ H s):∀b∈frs X.stack,H b=none:=λb hb=>by
 rcases List.mem_cons.mp (I.stkSub b hb) with e | hb
 ·rw [e];exact I.free
 ·obtain⟨_,o,ho,_⟩:=I.ok.funs.mem hb
  exact I.base.free b o ho (I.ok.frf b hb) λz=>I.ok.exfs b z hb
theorem Inv.step{g':Array GenState}{t':Nat}{d':Drawn}{ch:List Addr}(I:Inv X pins σ H s)
 (hch:∀b∈ch,(b∈X.ex\/X.s₀.heap.objs.size<=b)/\b≠X.env.locals/\(∀x c,X.env.cells.lookup x=some c->c≠b)/\∀p∈X.pn++pins,p.1≠b)
 (keep:∀b o,b≠X.env.locals->b∉X.fs->b∉ch->s.heap.get? b=some o->H b=none->h'.get? b=some o)
 (slot:∀b o,b≠X.env.locals->b∈X.fs->b∉ch->s.heap.get? b=some o->H b=none->∃sl,h'.get? b=some {o with slots:=sl}) (free:∀b o,b∉ch->s.heap.get? b=some o->H b=none->H' b=none)
 (there:∀b o,b∉ch->s.heap.get? b=some o->∃o',h'.get? b=some o')
 (tups:∀b xs,H b=some (.tup xs)->H' b=some (.tup xs)) (frzs:∀b o u,H b=some (.frz o u)->H' b=some (.frz o u)) (tbls:∀b ps,H b=some (.tbl ps)->∃more,H' b=some (.tbl (ps++more)))
 (ns:∀m,s.heap.Ns X.env.locals m->h'.Ns X.env.locals m) (hok:HOk X.prog X.w H' h') (hg:AllBare g'):
 Inv X pins σ H' {s with heap:=h',gens:=g',drawn:=d',toks:=t'}:=by
 have neL:∀b o,X.s₀.heap.get? b=some o->b≠X.env.locals:=λb o e=>ne_of_lt (lt_of_lt_of_le (lt_size e) I.ok.above)
 have neC:∀b o,X.s₀.heap.get? b=some o->b∉X.ex->b∉ch:=λb o e hx hb=>by
  rcases (hch b hb).1 with z | z
  ·exact hx z
  ·exact absurd (lt_of_lt_of_le (lt_size e) z) (lt_irrefl _)
 have cellK:∀x c,X.env.cells.lookup x=some c->∀v,s.heap.IsCell c v->h'.IsCell c v:=λx c e v ⟨o,ho,hd⟩=>by
  have nch:c∉ch:=λz=>(hch c z).2.2.1 x c e rfl
  by_cases hc:c∈X.fs
  ·obtain⟨sl,q⟩:=slot c o (I.cne x c e) hc nch ho (I.freeC x c e)
   exact⟨_,q,hd⟩
  ·exact⟨o,keep c o (I.cne x c e) hc nch ho (I.freeC x c e),hd⟩
 refine⟨I.ok,I.os,hg,⟨λb o e n hb hx=>?_,λb o e n hb hx=>?_,λb o e n hx=>?_,λb o e hx=>?_,λb xs e=>tups b xs (I.base.tups b xs e),λb o xs e=>frzs b o xs (I.base.frzs b o xs e),λb ps e=>?_⟩,?_,λx c e=>?_,?_,λx c e=>?_,λp hp=>?_,hok,I.len⟩
 ·exact keep b o (neL b o e) hb (neC b o e hx) (I.base.keep b o e n hb hx) (I.base.free b o e n hx)
 ·obtain⟨sl,e1⟩:=I.base.slot b o e n hb hx
  obtain⟨sl',e2⟩:=slot b _ (neL b o e) hb (neC b o e hx) e1 (I.base.free b o e n hx)
  exact⟨sl',e2⟩
 ·obtain⟨o',e1⟩:=I.base.there b o e hx
  exact free b o' (neC b o e hx) e1 (I.base.free b o e n hx)
 ·obtain⟨o',e1⟩:=I.base.there b o e hx
  exact there b o' (neC b o e hx) e1
 ·obtain⟨m1,e1⟩:=I.base.tbls b ps e
  obtain⟨m2,e2⟩:=tbls b _ e1
  exact⟨m1++m2,by rw [e2,Array.append_assoc]⟩
 ·obtain⟨m,hn,hl⟩:=I.loc
  refine⟨m,ns m hn,λi x v e1 e2 e3=>?_⟩
  obtain⟨u,r,l⟩:=hl i x v e1 e2 e3
  refine⟨u,r,?_⟩
  rcases l with l | ⟨k,c,e,z⟩
  ·exact .inl l
  ·exact .inr ⟨k,c,e,cellK x c e _ z⟩
 ·obtain⟨v,z⟩:=I.cell x c e
  exact⟨v,cellK x c e v z⟩
 ·obtain⟨m,⟨o,_,_,ho,_⟩,_⟩:=I.loc
  exact free _ o (λz=>(hch _ z).2.1 rfl) ho I.free
 ·obtain⟨v,o,ho,hd⟩:=I.cell x c e
  exact free c o (λz=>(hch c z).2.2.1 x c e rfl) ho (I.freeC x c e)
 ·obtain⟨e,n,ne,nf,d⟩:=I.pin p hp
  have nch:p.1∉ch:=λz=>(hch p.1 z).2.2.2 p hp rfl
  exact⟨keep p.1 p.2 ne nf nch e n,free p.1 p.2 nch e n,ne,nf,d⟩
theorem Inv.un{t':Nat}(I:Inv X pins σ H s)(u:Un X.fs [] H H' s.heap h')(hok:HOk X.prog X.w H' h'):Inv X pins σ H' {s with heap:=h',toks:=t'}:=by
 obtain⟨m,⟨o,es,ep,ho,r⟩,_⟩:=id I.loc
 obtain⟨sl,hL⟩:=u.any ho I.free (by simp)
 exact I.step (g':=s.gens) (d':=s.drawn) (ch:=[]) (λ_ z=>nomatch z) (λb o _ hb _ e n=>u.keep b o e n hb (by simp)) (λb o _ hb _ e n=>u.slot b o e n hb (by simp)) (λb o _ e n=>u.free b o e n (by simp)) (λb o _ e=>u.there b o e (by simp)) u.tups u.frzs u.tbls (λm' hm=>by
  obtain⟨o',es',ep',ho',r'⟩:=hm
  rw [ho] at ho';cases ho'
  exact⟨_,es',ep',hL,r'⟩) hok I.bare
theorem Inv.call{g':Array GenState}{t':Nat}{d':Drawn}{ch:List Addr}(I:Inv X pins σ H s)(u:Un (frs X.stack) ch H H' s.heap h')(hok:HOk X.prog X.w H' h')(hg:AllBare g')
 (hch:∀b∈ch,(b∈X.ex\/X.s₀.heap.objs.size<=b)/\b≠X.env.locals/\(∀x c,X.env.cells.lookup x=some c->c≠b)/\∀p∈X.pn++pins,p.1≠b):
 Inv X pins σ H' {s with heap:=h',gens:=g',drawn:=d',toks:=t'}:=by
 obtain⟨m,⟨o,es,ep,ho,r⟩,_⟩:=id I.loc
 obtain⟨sl,hL⟩:=u.any ho I.free λz=>(hch _ z).2.1 rfl
 exact I.step (ch:=ch) hch (λb o hL hb hc e n=>u.keep b o e n (λz=>(List.mem_cons.mp (I.stkSub b z)).elim hL hb) hc) (λb o _ _ hc e n=>u.any e n hc) (λb o hc e n=>u.free b o e n hc) (λb o hc e=>u.there b o e hc) u.tups u.frzs u.tbls (λm' hm=>by
  obtain⟨o',es',ep',ho',r'⟩:=hm
  rw [ho] at ho';cases ho'
  exact⟨_,es',ep',hL,r'⟩) hok hg
theorem Inv.turned{t':Nat}{it:Addr}(I:Inv X pins σ H s)(k:∀b o,b≠it->s.heap.get? b=some o->h'.get? b=some o)(hn:H it=none)(hL:it≠X.env.locals)
 (h1:it∈X.ex\/X.s₀.heap.objs.size<=it) (h2:∀x c,X.env.cells.lookup x=some c->c≠it) (h3:∀p∈X.pn++pins,p.1≠it):Inv X pins σ H {s with heap:=h',toks:=t'}:=by
 have nit:∀b u,H b=some u->b≠it:=λb u e z=>by rw [z,hn] at e;cases e
 refine I.step (g':=s.gens) (d':=s.drawn) (ch:=[it]) (λb hb=>?_) (λb o _ _ hc e _=>k b o (λz=>hc (by simp [z])) e) (λb o _ _ hc e _=>⟨o.slots,k b o (λz=>hc (by simp [z])) e⟩) (λ_ _ _ _ n=>n)
  (λb o hc e=>⟨o,k b o (λz=>hc (by simp [z])) e⟩) (λ_ _ e=>e) (λ_ _ _ e=>e) (λb ps e=>⟨#[],by rw [e];simp⟩) (λm hm=>?_) (λb u e=>?_) I.bare
 ·have e:b=it:=by simpa using hb
  subst e
  exact⟨h1,hL,h2,h3⟩
 ·obtain⟨o,es,ep,ho,r⟩:=hm
  exact⟨o,es,ep,k _ o (Ne.symm hL) ho,r⟩
 ·refine(I.hok b u e).stay (λc v hc q=>k c v ?_ q) (λ_ q=>q) λ_ _ q=>q
  rcases hc with z | z
  ·rw [z];exact nit b u e
  ·exact nit c _ z
theorem Inv.tok(I:Inv X pins σ H s)(t:Nat):Inv X pins σ H {s with toks:=t}:=I.un (h':=s.heap) (t':=t) Un.refl I.hok
theorem Inv.kept{t':Nat}(I:Inv X pins σ H s)(k:∀b u,s.heap.get? b=some u->h'.get? b=some u):Inv X pins σ H {s with heap:=h',toks:=t'}:=I.un (Un.kept k) (I.hok.kept k)
theorem Inv.laid{a:Addr}{o:HO}{t':Nat}(I:Inv X pins σ H s)(k:∀b u,s.heap.get? b=some u->h'.get? b=some u)(hp:s.heap.objs.size<=a)(new:ObjOk X.prog X.w (upd H a o) h' a o):
 Inv X pins σ (upd H a o) {s with heap:=h',toks:=t'}:=I.un (Un.laid k hp (I.hok.fresh hp)) (I.hok.laid k hp new)
theorem Inv.write{x e:Addr}{o:HO}{t':Nat}(I:Inv X pins σ H s)(mu:Mut (H x))(he:e=x\/H e=some (.own x))(k:∀b u,b≠e->s.heap.get? b=some u->h'.get? b=some u)(heo:∃u,h'.get? e=some u)
 (new:ObjOk X.prog X.w (upd H x o) h' x o):Inv X pins σ (upd H x o) {s with heap:=h',toks:=t'}:=I.un (Un.write mu he k heo) (I.hok.write mu he k heo new)
theorem Inv.pins_of{pins':List (Addr×Obj)}(I:Inv X pins σ H s)(h:∀p∈pins',s.heap.get? p.1=some p.2/\H p.1=none/\p.1≠X.env.locals/\p.1∉X.fs/\∀v,p.2.data≠.cell v):Inv X pins' σ H s:=
 ⟨I.ok,I.os,I.bare,I.base,I.loc,I.cell,I.free,I.freeC,λp hp=>(List.mem_append.mp hp).elim (λz=>I.pin p (mem_append_left _ z)) (h p),I.hok,I.len⟩
theorem oJ{N:List Str}(hN:N.Nodup){i j:Nat}{x:Str}(a:N[i]? =some x)(b:N[j]? =some x):i=j:=by
 obtain⟨h1,e1⟩:=List.getElem?_eq_some_iff.mp a
 obtain⟨h2,e2⟩:=List.getElem?_eq_some_iff.mp b
 exact(List.getElem_inj hN).mp (e1.trans e2.symm)
theorem nu{M:Model}{A:Around}{E:Value->Shared->Prop}{i:Nat}{x:Str}{v:V}{u:Value}{Q:Unit->Shared->Prop}(I:Inv X pins σ H s)(hN:X.N.Nodup)(hi:X.N[i]? =some x)(hx:Loc X.env.scope x)(r:RelV v u)
 (h:∀s',Inv X pins (σ.set i (some v)) H s'->(∃a,Heap.SameBut a s.heap s'.heap/\(a=X.env.locals\/X.env.cells.lookup x=some a))->Q () s') (hf:X.fn x=true\/X.env.scope.names.lookup x=some .local:=by first | exact .inl rfl | exact .inr rfl | assumption):wpAny M A (storeName X.env x u) Q E s:=by
 obtain⟨m,hn,hl⟩:=id I.loc
 have hcls:(X.env.scope.kind== .class || (X.env.scope.kind== .module&&X.env.locals != X.env.globals))=false:=by rw [I.ok.kind];rfl
 have hiσ:i<σ.length:=by rw [I.len];exact(List.getElem?_eq_some_iff.mp hi).1
 have cne:=I.cne
 have tracked:∀{a:Addr} {h':Heap},(∃o,s.heap.get? a=some o/\H a=none)->Heap.SameBut a s.heap h'->HOk X.prog X.w H h':=λ{a h'} ha hs b ob e=>by
  obtain⟨_,_,hfree⟩:=ha
  refine(I.hok b ob e).stay (λc w' hc q=>(hs.2 c ?_).trans q) (λ_ q=>q) λ_ _ q=>q
  rintro rfl
  rcases hc with rfl | hc
  ·rw [hfree] at e;cases e
  ·rw [hfree] at hc;cases hc
 rcases hx with hk | hk
 ·refine wpAny_storeName_local hk hn (λh' hn' hs=>?_) hcls
  obtain⟨oL,_,_,hoL,_⟩:=id hn
  refine h _ ⟨I.ok,I.os,I.bare,⟨λb o e n hb hx=>?_,λb o e n hb hx=>?_,I.base.free,λb o e hx=>?_,I.base.tups,I.base.frzs,I.base.tbls⟩,⟨_,hn',λj y v' e1 e2 e3=>?_⟩,λy c e=>?_,I.free,I.freeC,λp hp=>?_,tracked ⟨oL,hoL,I.free⟩ hs,by simpa using I.len⟩ ⟨_,hs,.inl rfl⟩
  ·exact(hs.2 b (ne_of_lt (lt_of_lt_of_le (lt_size e) I.ok.above))).trans (I.base.keep b o e n hb hx)
  ·obtain⟨sl,e1⟩:=I.base.slot b o e n hb hx
   exact⟨sl,(hs.2 b (ne_of_lt (lt_of_lt_of_le (lt_size e) I.ok.above))).trans e1⟩
  ·obtain⟨o',e1⟩:=I.base.there b o e hx
   exact⟨o',(hs.2 b (ne_of_lt (lt_of_lt_of_le (lt_size e) I.ok.above))).trans e1⟩
  ·by_cases hj:j=i
   ·subst hj
    rw [hi] at e1;cases e1
    rw [List.getElem?_set_self hiσ] at e2
    cases e2
    exact⟨u,r,.inl ⟨hk,by simp⟩⟩
   ·rw [List.getElem?_set_ne (Ne.symm hj)] at e2
    obtain⟨u',r',q⟩:=hl j y v' e1 e2 e3
    refine⟨u',r',?_⟩
    rcases q with ⟨k,e⟩ | ⟨k,c,e,z⟩
    ·refine .inl ⟨k,?_⟩
     have:y≠x:=λe=>hj (oJ hN e1 (e▸hi))
     simp [this,e]
    ·exact .inr ⟨k,c,e,z.sameBut hs (cne y c e)⟩
  ·obtain⟨w',z⟩:=I.cell y c e
   exact⟨w',z.sameBut hs (cne y c e)⟩
  ·obtain⟨e,n,ne,nf,d⟩:=I.pin p hp
   exact⟨(hs.2 p.1 ne).trans e,n,ne,nf,d⟩
 ·have hfn:X.fn x=true:=by
   rcases hf with z | z
   ·exact z
   ·rw [z] at hk;cases hk
  obtain⟨c,hc⟩:=I.ok.has x (.inl hk)
  obtain⟨w',z⟩:=I.cell x c hc
  refine wpAny_storeName_cell I.ok.kind hk hc z (λh' hc' hs=>?_)
  obtain⟨oc,hoc,hocd⟩:=id z
  refine h {s with heap:=h'} ⟨I.ok,I.os,I.bare,⟨λb o e n hb hx=>?_,λb o e n hb hx=>?_,I.base.free,λb o e hx=>?_,I.base.tups,I.base.frzs,I.base.tbls⟩,⟨m,hn.sameBut hs (Ne.symm (cne x c hc)),λj y v' e1 e2 e3=>?_⟩,λy c' e=>?_,I.free,I.freeC,λp hp=>?_,tracked ⟨oc,hoc,I.freeC x c hc⟩ hs,by simpa using I.len⟩ ⟨c,hs,.inr hc⟩
  ·exact(hs.2 b (ne_of_lt (lt_of_lt_of_le (lt_size e) (I.ok.cab x c hfn hc)))).trans (I.base.keep b o e n hb hx)
  ·obtain⟨sl,e1⟩:=I.base.slot b o e n hb hx
   exact⟨sl,(hs.2 b (ne_of_lt (lt_of_lt_of_le (lt_size e) (I.ok.cab x c hfn hc)))).trans e1⟩
  ·obtain⟨o',e1⟩:=I.base.there b o e hx
   exact⟨o',(hs.2 b (ne_of_lt (lt_of_lt_of_le (lt_size e) (I.ok.cab x c hfn hc)))).trans e1⟩
  ·by_cases hj:j=i
   ·subst hj
    rw [hi] at e1;cases e1
    rw [List.getElem?_set_self hiσ] at e2
    cases e2
    exact⟨u,r,.inr ⟨.inl hk,c,hc,hc'⟩⟩
   ·rw [List.getElem?_set_ne (Ne.symm hj)] at e2
    obtain⟨u',r',q⟩:=hl j y v' e1 e2 e3
    refine⟨u',r',?_⟩
    rcases q with q | ⟨k,c',e,z'⟩
    ·exact .inl q
    ·refine .inr ⟨k,c',e,z'.sameBut hs ?_⟩
     rintro rfl
     exact hj (oJ hN e1 (I.ok.inj _ _ _ e hc▸hi))
  ·by_cases hcc:c'=c
   ·subst hcc;exact⟨_,hc'⟩
   ·obtain⟨w2,z2⟩:=I.cell y c' e
    exact⟨w2,z2.sameBut hs hcc⟩
  ·obtain⟨e,n,ne,nf,d⟩:=I.pin p hp
   refine⟨(hs.2 p.1 ?_).trans e,n,ne,nf,d⟩
   intro q
   rw [q,hoc] at e
   have q':oc=p.2:=Option.some.inj e
   exact d w' (by rw [<-q'];exact hocd)
theorem kW{M:Model}{A:Around}{E:Value->Shared->Prop}{i:Nat}{x:Str}{v:V}{u:Value}{Q:Unit->Shared->Prop}(I:Inv X pins σ H s)(hN:X.N.Nodup)(hi:X.N[i]? =some x)(hx:Loc X.env.scope x)(r:RelV v u)
 (h:∀s',Inv X pins (σ.set i (some v)) H s'->Q () s') (hf:X.fn x=true\/X.env.scope.names.lookup x=some .local:=by first | exact .inl rfl | exact .inr rfl | assumption):wpAny M A (storeName X.env x u) Q E s:=
 nu I hN hi hx r (λs' I' _=>h s' I') hf
theorem Inv.call'{s':Shared}{ch:List Addr}(I:Inv X pins σ H s)(ho:s'.os=s.os)(u:Un (frs X.stack) ch H H' s.heap s'.heap)(hok:HOk X.prog X.w H' s'.heap)(hg:AllBare s'.gens)
 (hch:∀b∈ch,(b∈X.ex\/X.s₀.heap.objs.size<=b)/\b≠X.env.locals/\(∀x c,X.env.cells.lookup x=some c->c≠b)/\∀p∈X.pn++pins,p.1≠b):Inv X pins σ H' s':=by
 obtain⟨h',g',d',t',o'⟩:=s'
 have e:o'=s.os:=ho
 subst e
 exact I.call (g':=g') (t':=t') (d':=d') u hok hg hch
end
abbrev XK:=Value->Option Addr->Hp->Prop
abbrev St:=List (Option V)
abbrev VK:=V->Hp->Prop
abbrev TE:=St->Hp->VK->Prop
abbrev TT:=St->Hp->(Bool->Hp->Prop)->Prop
abbrev TA:=St->Hp->(List V->Hp->Prop)->Prop
structure Ends where
 nx:St->Hp->Prop
 rt:VK
 bk:St->Hp->Prop:=λ_ _=>False
 ct:St->Hp->Prop:=λ_ _=>False
abbrev TS:=Ends->St->Hp->Prop
def EP(X:Cx)(pins:List (Addr×Obj))(σ:St)(Q:VK)(u:Value)(s':Shared):Prop:=∃v H',Inv X pins σ H' s'/\RelV v u/\Q v H'
def TP(X:Cx)(pins:List (Addr×Obj))(σ:St)(Q:Bool->Hp->Prop)(b:Bool)(s':Shared):Prop:=∃H',Inv X pins σ H' s'/\Q b H'
def AP(X:Cx)(pins:List (Addr×Obj))(σ:St)(Q:List V->Hp->Prop)(us:List Value)(s':Shared):Prop:=∃vs H',Inv X pins σ H' s'/\Vals vs us/\Q vs H'
def SP(X:Cx)(pins:List (Addr×Obj))(D:Ends)(f:Flow)(s':Shared):Prop:=
 match f with
 | .next=>∃σ' H',Inv X pins σ' H' s'/\D.nx σ' H'
 | .brk=>∃σ' H',Inv X pins σ' H' s'/\D.bk σ' H'
 | .cont=>∃σ' H',Inv X pins σ' H' s'/\D.ct σ' H'
 | .ret u=>∃v σ' H',Inv X pins σ' H' s'/\RelV v u/\D.rt v H'
def PE(X:Cx)(e:Expr)(t:TE):Prop:=
 ∀(pins:List (Addr×Obj)) (s:Shared) (σ:St) (H:Hp) (Q:VK),Inv X pins σ H s->t σ H Q->wpAny (model X.prog X.w) X.A (eval e X.env) (EP X pins σ Q) X.xe s
def PT(X:Cx)(e:Expr)(t:TT):Prop:=
 ∀(pins:List (Addr×Obj)) (s:Shared) (σ:St) (H:Hp) (Q:Bool->Hp->Prop),Inv X pins σ H s->t σ H Q->wpAny (model X.prog X.w) X.A (isTrue e X.env (eval e X.env)) (TP X pins σ Q) X.xe s
def PW(X:Cx)(e:Expr)(t:TT):Prop:=
 ∀(whole:Sem Value) (pins:List (Addr×Obj)) (s:Shared) (σ:St) (H:Hp) (Q:Bool->Hp->Prop),Inv X pins σ H s->t σ H Q->wpAny (model X.prog X.w) X.A (isTrue e X.env whole) (TP X pins σ Q) X.xe s
theorem PW.pt{X:Cx}{e:Expr}{t:TT}(h:PW X e t):PT X e t:=h _
def PA(X:Cx)(es:List Expr)(t:TA):Prop:=
 ∀(pos:Pos) (pins:List (Addr×Obj)) (s:Shared) (σ:St) (H:Hp) (Q:List V->Hp->Prop),Inv X pins σ H s->t σ H Q->wpAny (model X.prog X.w) X.A (spliced (backTo pos (starEach es X.env))) (AP X pins σ Q) X.xe s
def PS(X:Cx)(st:Stmt)(t:TS):Prop:=
 ∀(pins:List (Addr×Obj)) (s:Shared) (σ:St) (H:Hp) (D:Ends),Inv X pins σ H s->t D σ H->wpAny (model X.prog X.w) X.A (exec st X.env) (SP X pins D) X.xe s
def PSs(X:Cx)(st:List Stmt)(t:TS):Prop:=
 ∀(pins:List (Addr×Obj)) (s:Shared) (σ:St) (H:Hp) (D:Ends),Inv X pins σ H s->t D σ H->wpAny (model X.prog X.w) X.A (execs st X.env) (SP X pins D) X.xe s
theorem thn{α:Type}{t:Sem α}{Q Q':α->Shared->Prop}{M:Model}{A:Around}{E:Value->Shared->Prop}{s:Shared}(h:wpAny M A t Q E s)(hQ:∀a s,Q a s->Q' a s):wpAny M A t Q' E s:=wpAny_mono h hQ λ_ _ x=>x
section
variable{X:Cx}
def cJ(i:Nat):TE:=λσ H Q=>∃v,σ[i]? =some (some v)/\Q v H
def tC(v:V):TE:=λ_ H Q=>Q v H
theorem zt{i:Nat}{x:Str}{pos:Pos}(hN:X.N[i]? =some x)(hv:Vis X.env.scope x)(hd:(x==("__debug__":Str))=false:=by decide)(hcd:(x==("__classdict__":Str))=false:=by decide):PE X (.Name x pos) (cJ i):=by
 intro pins s σ H Q I h
 obtain⟨v,e,h⟩:=h
 obtain⟨m,hn,hl⟩:=I.loc
 obtain⟨u,r,l⟩:=hl i x v hN e hv
 have fin:EP X pins σ Q u s:=⟨v,H,I,r,h⟩
 rcases l with ⟨hk,hm⟩ | ⟨hk,c,hc,hcell⟩
 ·exact wpAny_Name (wpAny_loadName_local I.ok.kind hk hn hm fin) hd
 ·rcases hk with hk | hk
  ·exact wpAny_Name (wpAny_loadName_cell I.ok.kind hk hc hcell fin) hd
  ·exact wpAny_Name (wpAny_loadName_free I.ok.kind hk hc hcell fin hcd) hd
theorem ae{i j pos}:PE X (.Constant (.int i) j pos) (tC (.int i)):=λ_ _ _ H _ I h=>wpAny_Constant_int ⟨.int i,H,I.tok _,⟨_,rfl⟩,h⟩
theorem CH{b j pos}:PE X (.Constant (.bool b) j pos) (tC (.bl b)):=λ_ _ _ H _ I h=>Constant_bool ⟨.bl b,H,I,rfl,h⟩
theorem lK{j pos}:PE X (.Constant .none j pos) (tC .non):=λ_ _ _ H _ I h=>Constant_none ⟨.non,H,I,rfl,h⟩
theorem ac{x j pos}:PE X (.Constant (.str x) j pos) (tC (.str x)):=λ_ _ _ H _ I h=>Calls.Constant_str ⟨.str x,H,I.tok _,⟨_,rfl⟩,h⟩
def Gl(X:Cx)(x:Str):Prop:=X.env.kindOf x=some .globalImplicit
theorem gX{E:Value->Shared->Prop}{pins:List (Addr×Obj)}{s:Shared}{σ:St}{H:Hp}{x:Str}{u:Value}{pos:Pos}{Q:Value->Shared->Prop}(I:Inv X pins σ H s)(hg:Gl X x)(hm:X.mg x=some u)(h:Q u s)
 (hd:(x==("__debug__":Str))=false:=by decide):wpAny (model X.prog X.w) X.A (eval (.Name x pos) X.env) Q E s:=
 Calls.Name_function_global I.ok.kind hg (Calls.loadGlobal_global (by rw [I.ok.glob];exact I.mod.glob.keeps I.bk) hm h) hd
theorem gD{E:Value->Shared->Prop}{pins:List (Addr×Obj)}{s:Shared}{σ:St}{H:Hp}{x:Str}{u:Value}{pos:Pos}{Q:Value->Shared->Prop}(I:Inv X pins σ H s)(hg:Gl X x)(hm:X.mg x=none)(hv:bootBuiltins x=some u)(h:Q u s)
 (hn:x≠"__name__":=by decide) (hd:(x==("__debug__":Str))=false:=by decide):wpAny (model X.prog X.w) X.A (eval (.Name x pos) X.env) Q E s:=by
 obtain⟨mb,h1,h2⟩:=I.mod.blt
 exact Calls.Name_function_global I.ok.kind hg (Calls.loadGlobal_builtin (by rw [I.ok.glob];exact I.mod.glob.keeps I.bk) hm (by rw [I.ok.blt];exact h1.keeps I.bk) ((h2 x hn).trans hv) h) hd
theorem aU{x:Str}{v:V}{u:Value}{pos:Pos}(hg:Gl X x)(hm:X.mg x=some u)(r:RelV v u)(hd:(x==("__debug__":Str))=false:=by decide):PE X (.Name x pos) (tC v):=
 λ_ _ _ H _ I h=>gX I hg hm ⟨v,H,I,r,h⟩ hd
theorem xW{x:Str}{v:V}{u:Value}{pos:Pos}(hg:Gl X x)(hm:X.mg x=none)(hv:bootBuiltins x=some u)(r:RelV v u)(hn:x≠"__name__":=by decide)(hd:(x==("__debug__":Str))=false:=by decide):PE X (.Name x pos) (tC v):=
 λ_ _ _ H _ I h=>gD I hg hm hv ⟨v,H,I,r,h⟩ hn hd
variable{a b:Expr}{ta tb:TE}{pos:Pos}
def PC(X:Cx)(op:CmpOp)(a b:Expr)(t:TE):Prop:=
 ∀(pins:List (Addr×Obj)) (s:Shared) (σ:St) (H:Hp) (Q:VK),Inv X pins σ H s->t σ H Q->
  wpAny (model X.prog X.w) X.A (eval a X.env) (λv s₁=>wpAny (model X.prog X.w) X.A (eval b X.env) (λu s₂=>wpAny (model X.prog X.w) X.A (compareOp op v u) (EP X pins σ Q) X.xe s₂) X.xe s₁) X.xe s
def tB(t:TE):TT:=λσ H Q=>t σ H λx H1=>∃c,x= .bl c/\Q c H1
theorem zu{op:CmpOp}{t:TE}(h:PC X op a b t)(h1:behindInMarks op b=false:=by first | exact nobehind _ (by decide) (by decide) | rfl):PT X (.Compare a [op] [b] pos) (tB t):=by
 intro pins s σ H Q I hw
 refine wpAny_isTrue_Compare1 (thn (h pins s σ H _ I hw) λv s1 h1=>thn h1 λu s2 h2=>thn h2 λc s3 ⟨x,H1,I1,r1,q1⟩=>?_) h1
 obtain⟨d,rfl,q⟩:=q1
 cases r1
 exact wpAny_truthy_bool ⟨H1,I1,q⟩
theorem hV{e:Expr}{t:TE}(h:PE X e t)(he:∀whole,isTrue e X.env whole=(do let v <-whole;standAt e.pos;holding [v] (truthy v)):=by intro _;rfl):PT X e (tB t):=by
 intro pins s σ H Q I hw
 refine isTrue_plain (thn (h pins s σ H _ I hw) λv s1 ⟨x,H1,I1,r1,q1⟩=>?_) (he _)
 obtain⟨d,rfl,q⟩:=q1
 cases r1
 exact wpAny_truthy_bool ⟨H1,I1,q⟩
variable{tA tB':TT}{rest:List Expr}
def vS(t u:TT):TT:=λσ H Q=>t σ H λc H1=>if c=true then u σ H1 Q else Q false H1
def tOr(t u:TT):TT:=λσ H Q=>t σ H λc H1=>if c=true then Q true H1 else u σ H1 Q
def zw(t:TT):TT:=λσ H Q=>t σ H λc H1=>Q (!c) H1
theorem cY(ha:PT X a tA):PW X (.BoolOp .And [a] pos) tA:=by
 intro wh pins s σ H Q I h
 refine isTrue_and (thn (ha pins s σ H Q I h) λc s1 e=>?_)
 cases c with
 | true=>exact isTrue_and_nil e
 | false=>exact e
theorem hW(ha:PT X a tA):PW X (.BoolOp .Or [a] pos) tA:=by
 intro wh pins s σ H Q I h
 refine isTrue_or (thn (ha pins s σ H Q I h) λc s1 e=>?_)
 cases c with
 | false=>exact isTrue_or_nil e
 | true=>exact e
theorem dJ(ha:PT X a tA)(hb:PW X (.BoolOp .And (b::rest) pos) tB'):PW X (.BoolOp .And (a::b::rest) pos) (vS tA tB'):=by
 intro wh pins s σ H Q I h
 refine isTrue_and (thn (ha pins s σ H _ I h) λc s1 ⟨H1,I1,q1⟩=>?_)
 cases c with
 | true=>exact hb wh pins s1 σ H1 Q I1 q1
 | false=>exact⟨H1,I1,q1⟩
theorem iG(ha:PT X a tA)(hb:PW X (.BoolOp .Or (b::rest) pos) tB'):PW X (.BoolOp .Or (a::b::rest) pos) (tOr tA tB'):=by
 intro wh pins s σ H Q I h
 refine isTrue_or (thn (ha pins s σ H _ I h) λc s1 ⟨H1,I1,q1⟩=>?_)
 cases c with
 | true=>exact⟨H1,I1,q1⟩
 | false=>exact hb wh pins s1 σ H1 Q I1 q1
theorem oK(ha:PT X a tA):PT X (.UnaryOp .Not a pos) (zw tA):=by
 intro pins s σ H Q I h
 exact isTrue_not (ha pins s σ H (λc H1=>Q (!c) H1) I h)
def xm(ta tb:TE):TE:=λσ H Q=>ta σ H λx H1=>∃c,x= .bl c/\if c=true then tb σ H1 Q else Q (.bl false) H1
def zy(ta tb:TE):TE:=λσ H Q=>ta σ H λx H1=>∃c,x= .bl c/\if c=true then Q (.bl true) H1 else tb σ H1 Q
def xn(ta:TE):TE:=λσ H Q=>ta σ H λx H1=>∃c,x= .bl c/\Q (.bl (!c)) H1
theorem jZ{op}{t:TE}(h:PE X a t):PE X (.BoolOp op [a] pos) t:=λpins s σ H Q I hw=>BoolOp_one (h pins s σ H Q I hw)
theorem jg(ha:PE X a ta)(hb:PE X (.BoolOp .And (b::rest) pos) tb):PE X (.BoolOp .And (a::b::rest) pos) (xm ta tb):=by
 intro pins s σ H Q I h
 refine BoolOp_and (thn (ha pins s σ H _ I h) λv s1 ⟨x,H1,I1,r1,q1⟩=>?_)
 obtain⟨c,rfl,q1⟩:=q1
 cases r1
 refine wpAny_truthy_bool ?_
 cases c with
 | true=>exact hb pins s1 σ H1 Q I1 q1
 | false=>exact⟨.bl false,H1,I1,rfl,q1⟩
theorem CI(ha:PE X a ta)(hb:PE X (.BoolOp .Or (b::rest) pos) tb):PE X (.BoolOp .Or (a::b::rest) pos) (zy ta tb):=by
 intro pins s σ H Q I h
 refine BoolOp_or (thn (ha pins s σ H _ I h) λv s1 ⟨x,H1,I1,r1,q1⟩=>?_)
 obtain⟨c,rfl,q1⟩:=q1
 cases r1
 refine wpAny_truthy_bool ?_
 cases c with
 | false=>exact hb pins s1 σ H1 Q I1 q1
 | true=>exact⟨.bl true,H1,I1,rfl,q1⟩
theorem uc(ha:PE X a ta):PE X (.UnaryOp .Not a pos) (xn ta):=by
 intro pins s σ H Q I h
 refine UnaryOp_ (thn (ha pins s σ H _ I h) λv s1 ⟨x,H1,I1,r1,q1⟩=>?_)
 obtain⟨c,rfl,q1⟩:=q1
 cases r1
 exact not_of (wpAny_truthy_bool ⟨.bl (!c),H1,I1,rfl,q1⟩)
end
def SqL(K:PySem.W.Frag)(H:Hp)(a:Addr)(xs:List V):Prop:=
 Rd H a (.lst xs)\/
  ∃(o:Obj) (its:Array Value) (n:Nat),K.lookup a=some o/\o.cls= .type "list"/\o.dict=none/\o.data= .seq its n/\its.size<=sizeLine/\Vals xs its.toList
def SqT(K:PySem.W.Frag)(H:Hp)(a:Addr)(xs:List V):Prop:=
 Rd H a (.tup xs)\/
  ∃(o:Obj) (its:Array Value) (n:Nat),K.lookup a=some o/\o.cls= .type "tuple"/\o.data= .seq its n/\its.size<=sizeLine/\Vals xs its.toList
def oM:Value->Option V
 | .none=>some .non
 | .bool b=>some (.bl b)
 | .int i _=>some (.int i)
 | .str x _=>some (.str x)
 | .bytes b _=>some (.byt b)
 | .float b _=>some (.flt b)
 | .ref a=>some (.ref a)
 | .type n=>some (.ty n)
 | _=>none
theorem RelV.abs{x:V}{u:Value}(r:RelV x u):oM u=some x:=by
 cases x with
 | non=>cases r;rfl
 | bl _=>cases r;rfl
 | int _=>obtain⟨t,rfl⟩:=r;rfl
 | str _=>obtain⟨t,rfl⟩:=r;rfl
 | byt _=>obtain⟨t,rfl⟩:=r;rfl
 | flt _=>obtain⟨t,rfl⟩:=r;rfl
 | ref _=>cases r;rfl
 | ty _=>cases r;rfl
theorem RelV.inj{x y:V}{u:Value}(r:RelV x u)(q:RelV y u):x=y:=Option.some.inj (r.abs.symm.trans q.abs)
theorem Vals.inj:∀{xs ys:List V} {us:List Value},Vals xs us->Vals ys us->xs=ys
 | _,_,_,.nil,.nil=>rfl
 | _,_,_,.cons r t,.cons r' t'=>by rw [r.inj r',Vals.inj t t']
section
variable{X:Cx}{pins:List (Addr×Obj)}{σ:St}{H:Hp}{s:Shared}{a:Addr}{xs ys:List V}
theorem SqL.of{K:PySem.W.Frag}(h:H a=some (.lst xs)):SqL K H a xs:=.inl (.inl h)
theorem SqT.of{K:PySem.W.Frag}(h:H a=some (.tup xs)):SqT K H a xs:=.inl (.inl h)
theorem Inv.list(I:Inv X pins σ H s)(h:SqL X.K H a xs):∃its:List Value,Vals xs its/\PlainL s.heap a its.toArray/\xs.length<=sizeLine:=by
 rcases h with h | ⟨o,its,n,hk,hc,hd,hs,hz,r⟩
 ·obtain⟨z,its,n,r,e⟩:=h.ok I.hok
  exact⟨its,r,⟨_,n,e,rfl,rfl,rfl⟩,z⟩
 ·refine⟨its.toList,r,⟨o,n,I.kIn a o hk,hc,hd,by simpa using hs⟩,?_⟩
  have e:=r.length
  simp only [Array.length_toList] at e
  lia
theorem Inv.tuple(I:Inv X pins σ H s)(h:SqT X.K H a xs):∃its:List Value,Vals xs its/\IsTup s.heap a its.toArray/\xs.length<=sizeLine:=by
 rcases h with h | ⟨o,its,n,hk,hc,hs,hz,r⟩
 ·obtain⟨z,its,r,p⟩:=h.ok I.hok
  exact⟨its,r,p,z⟩
 ·refine⟨its.toList,r,⟨o,I.kIn a o hk,hc,n,by simpa using hs⟩,?_⟩
  have e:=r.length
  simp only [Array.length_toList] at e
  lia
theorem Inv.list_inj(I:Inv X pins σ H s)(h:SqL X.K H a xs)(h':SqL X.K H a ys):xs=ys:=by
 obtain⟨its,r,⟨o,n,e,_,_,d⟩,_⟩:=I.list h
 obtain⟨its',r',⟨o',n',e',_,_,d'⟩,_⟩:=I.list h'
 rw [e] at e';cases e'
 rw [d] at d'
 injection d' with d1 _
 have:its=its':=by simpa using congrArg Array.toList d1
 subst this
 exact r.inj r'
theorem Inv.tuple_inj(I:Inv X pins σ H s)(h:SqT X.K H a xs)(h':SqT X.K H a ys):xs=ys:=by
 obtain⟨its,r,⟨o,e,_,n,d⟩,_⟩:=I.tuple h
 obtain⟨its',r',⟨o',e',_,n',d'⟩,_⟩:=I.tuple h'
 rw [e] at e';cases e'
 rw [d] at d'
 injection d' with d1 _
 have:its=its':=by simpa using congrArg Array.toList d1
 subst this
 exact r.inj r'
end
abbrev Cx.wish(X:Cx)(E:Value->Shared->Prop):Cx:={X with xe:=E}
abbrev Cx.nox(X:Cx):Cx:=X.wish λ_ _=>False
theorem Cx.Ok.wish{X:Cx}(ok:X.Ok)(E:Value->Shared->Prop):(X.wish E).Ok:=
 ⟨ok.mod,ok.kind,ok.glob,ok.blt,ok.above,ok.inj,ok.has,ok.cab,ok.hd,ok.frames,ok.stk,ok.exf,ok.bs,ok.bsz,ok.noex,ok.exfs,ok.funs,ok.frf⟩
theorem Cx.Ok.unwish{X:Cx}{E:Value->Shared->Prop}(ok:(X.wish E).Ok):X.Ok:=
 ⟨ok.mod,ok.kind,ok.glob,ok.blt,ok.above,ok.inj,ok.has,ok.cab,ok.hd,ok.frames,ok.stk,ok.exf,ok.bs,ok.bsz,ok.noex,ok.exfs,ok.funs,ok.frf⟩
section
variable{X:Cx}{pins:List (Addr×Obj)}{σ:St}{H:Hp}{s:Shared}{E:Value->Shared->Prop}
theorem Inv.wish(I:Inv X pins σ H s)(E:Value->Shared->Prop):Inv (X.wish E) pins σ H s:=⟨I.ok.wish E,I.os,I.bare,I.base,I.loc,I.cell,I.free,I.freeC,I.pin,I.hok,I.len⟩
theorem Inv.unwish(I:Inv (X.wish E) pins σ H s):Inv X pins σ H s:=⟨I.ok.unwish,I.os,I.bare,I.base,I.loc,I.cell,I.free,I.freeC,I.pin,I.hok,I.len⟩
theorem SP.unwish{D:Ends}{f:Flow}{s':Shared}(h:SP (X.wish E) pins D f s'):SP X pins D f s':=by
 cases f with
 | next=>obtain⟨σ',H',I,q⟩:=h;exact⟨σ',H',I.unwish,q⟩
 | brk=>obtain⟨σ',H',I,q⟩:=h;exact⟨σ',H',I.unwish,q⟩
 | cont=>obtain⟨σ',H',I,q⟩:=h;exact⟨σ',H',I.unwish,q⟩
 | ret u=>obtain⟨v,σ',H',I,r,q⟩:=h;exact⟨v,σ',H',I.unwish,r,q⟩
theorem PSs.nox{st:List Stmt}{t:TS}(h:PSs X.nox st t):PSs X st t:=λpins s σ H D I hw=>
 wpAny_mono (h pins s σ H D (I.wish _) hw) (λ_ _ q=>q.unwish) λ_ _ z=>False.elim z
end
section
variable{X:Cx}{st:Stmt}{rest:List Stmt}{t u:TS}{e:Expr}{te:TE}{pos:Pos}
def kD:TS:=λD σ H=>D.nx σ H
def oN(t u:TS):TS:=λD σ H=>t {D with nx:=u D} σ H
theorem ay:PSs X [] kD:=λ_ _ σ H _ I h=>wpAny_execs_nil ⟨σ,H,I,h⟩
theorem af(h1:PS X st t)(h2:PSs X rest u):PSs X (st::rest) (oN t u):=by
 intro pins s σ H D I h
 refine wpAny_execs_cons (thn (h1 pins s σ H {D with nx:=u D} I h) λf s1 q=>?_)
 cases f with
 | next=>
  obtain⟨σ',H',I',q⟩:=q
  exact h2 pins s1 σ' H' D I' q
 | ret v=>exact q
 | brk=>exact q
 | cont=>exact q
theorem ah(h1:PS X st t):PSs X [st] t:=by
 intro pins s σ H D I h
 refine wpAny_execs_cons (thn (h1 pins s σ H D I h) λf s1 q=>?_)
 cases f with
 | next=>exact wpAny_execs_nil q
 | ret v=>exact q
 | brk=>exact q
 | cont=>exact q
theorem Inv.quiet{pins:List (Addr×Obj)}{σ:St}{H:Hp}{s:Shared}(I:Inv X pins σ H s):interactive X.env=false:=by simp [interactive,I.ok.kind]
def oq(te:TE):TS:=λD σ H=>te σ H λ_ H1=>D.nx σ H1
theorem aS(he:PE X e te)(hs:swapsWith e none pos.line X.env=pure false:=by rfl):PS X (.Expr e pos) (oq te):=by
 intro pins s σ H D I h
 exact wpAny_Expr_any (thn (he pins s σ H _ I h) λv s1 ⟨x,H1,I1,r1,q1⟩=>⟨σ,H1,I1,q1⟩) I.quiet hs
def sj(te:TE):TS:=λD σ H=>te σ H D.rt
theorem ax(he:PE X e te):PS X (.Return (some e) pos) (sj te):=by
 intro pins s σ H D I h
 exact wpAny_Return_some (thn (he pins s σ H _ I h) λv s1 ⟨x,H1,I1,r1,q1⟩=>⟨x,σ,H1,I1,r1,q1⟩)
def mD(c:TT)(t u:TS):TS:=λD σ H=>c σ H λb H1=>if b=true then t D σ H1 else u D σ H1
theorem aB{c:Expr}{a b:List Stmt}{tc:TT}(hc:PT X c tc)(ha:PSs X a t)(hb:PSs X b u):PS X (.If c a b pos) (mD tc t u):=by
 intro pins s σ H D I h
 refine wpAny_If (thn (hc pins s σ H _ I h) λd s1 ⟨H1,I1,q1⟩=>?_)
 cases d with
 | true=>exact ha pins s1 σ H1 D I1 q1
 | false=>exact hb pins s1 σ H1 D I1 q1
end
abbrev TG:=V->St->Hp->(St->Hp->Prop)->Prop
abbrev TGs:=List V->St->Hp->(St->Hp->Prop)->Prop
def PG(X:Cx)(target:Expr)(t:TG):Prop:=
 ∀(pins:List (Addr×Obj)) (s:Shared) (σ:St) (H:Hp) (v:V) (u:Value) (Q:St->Hp->Prop),Inv X pins σ H s->RelV v u->t v σ H Q->
  wpAny (model X.prog X.w) X.A (assign target X.env u) (λ_ s'=>∃σ' H',Inv X pins σ' H' s'/\Q σ' H') X.xe s
def PGs(X:Cx)(ts:List Expr)(t:TGs):Prop:=
 ∀(pins:List (Addr×Obj)) (s:Shared) (σ:St) (H:Hp) (vs:List V) (us:List Value) (Q:St->Hp->Prop),Inv X pins σ H s->Vals vs us->t vs σ H Q->
  wpAny (model X.prog X.w) X.A (assignInOrder ((assignEach ts X.env).map (·.2)) us) (λ_ s'=>∃σ' H',Inv X pins σ' H' s'/\Q σ' H') X.xe s
abbrev vU:=V->V->V->Hp->(Hp->Prop)->Prop
def sk(X:Cx)(t:vU):Prop:=
 ∀(pins:List (Addr×Obj)) (s:Shared) (σ:St) (H:Hp) (o i v:V) (ov iv u:Value) (Q:Hp->Prop),Inv X pins σ H s->RelV o ov->RelV i iv->RelV v u->t o i v H Q->
  wpAny (model X.prog X.w) X.A (setItem ov iv u) (λ_ s'=>∃H',Inv X pins σ H' s'/\Q H') X.xe s
section
variable{X:Cx}{pos:Pos}
def gr(i:Nat):TG:=λv σ H Q=>Q (σ.set i (some v)) H
theorem aw{i:Nat}{x:Str}(hN:X.N.Nodup)(hi:X.N[i]? =some x)(hx:Loc X.env.scope x)(hf:X.fn x=true\/X.env.scope.names.lookup x=some .local:=by first | exact .inl rfl | exact .inr rfl | assumption):PG X (.Name x pos) (gr i):=by
 intro pins s σ H v u Q I r h
 exact wpAny_assign_Name (kW I hN hi hx r (λs' I'=>⟨_,H,I',h⟩) hf)
def zB:TGs:=λvs σ H Q=>vs= []/\Q σ H
def xo(t:TG)(u:TGs):TGs:=λvs σ H Q=>∃v r,vs=v::r/\t v σ H λσ' H'=>u r σ' H' Q
theorem bO:PGs X [] zB:=by
 intro pins s σ H vs us Q I r h
 obtain⟨e,h⟩:=h
 subst e
 cases r
 exact assignInOrder_nil ⟨σ,H,I,h⟩
theorem aD{e:Expr}{es:List Expr}{t:TG}{u:TGs}(h1:PG X e t)(h2:PGs X es u)
 (hs:(assignEach (e::es) X.env).map (·.2)=assign e X.env::(assignEach es X.env).map (·.2):=by rfl):PGs X (e::es) (xo t u):=by
 intro pins s σ H vs us Q I r h
 obtain⟨v,vr,e1,h⟩:=h
 subst e1
 cases r with
 | cons r rr=>
  rw [hs]
  refine assignInOrder_cons (thn (h1 pins s σ H _ _ _ I r h) λ_ s1 ⟨σ1,H1,I1,q1⟩=>?_)
  exact h2 pins s1 σ1 H1 _ _ Q I1 rr q1
def zC(K:PySem.W.Frag)(n:Nat)(t:TGs):TG:=λv σ H Q=>∃a xs,v= .ref a/\SqT K H a xs/\xs.length=n/\t xs σ H Q
theorem ud{es:List Expr}{k:Nat}{t:TGs}{n:Nat}(hc:X.calm=true)(h:PGs X es t)
 (hn:(assignEach es X.env).length=n:=by rfl) (hst:(assignEach es X.env).findIdx? (·.1)=none:=by rfl):PG X (.Tuple es k pos) (zC X.K n t):=by
 intro pins s σ H v u Q I r hw
 obtain⟨a,xs,e1,hq,hl,hw⟩:=hw
 subst e1
 cases r
 obtain⟨its,rv,ht,hz⟩:=I.tuple hq
 refine assign_Tuple_tuple (I.ok.hd hc) ht (by simp [hn,<-hl,rv.length]) hst λh' hx=>?_
 have I1:Inv X pins σ H {s with heap:=h'}:=I.kept (t':=s.toks) λb o e=>hx b o (ne_of_lt (lt_size e)) e
 exact h pins _ σ H xs _ Q I1 (by simpa using rv) hw
def zD(to ti:TE)(t:vU):TG:=λv σ H Q=>to σ H λo H1=>ti σ H1 λi H2=>t o i v H2 λH3=>Q σ H3
theorem lL{o i:Expr}{to ti:TE}{t:vU}(ho:PE X o to)(hi:PE X i ti)(hs:sk X t)
 (ha:∀v,assign (.Subscript o i pos) X.env v=(do
  let ov <-holding [v] (eval o X.env)
  let iv <-holding [v,ov] (eval i X.env)
  standAt pos
  holding [v,ov,iv] (setItem ov iv v)
  release [v,ov,iv] []):=by intro _;rfl):PG X (.Subscript o i pos) (zD to ti t):=by
 intro pins s σ H v u Q I r h
 rw [ha]
 refine wpAny_bind (wpAny_holding (thn (ho pins s σ H _ I h) λov s1 ⟨x,H1,I1,r1,q1⟩=>?_))
 refine wpAny_bind (wpAny_holding (thn (hi pins s1 σ H1 _ I1 q1) λiv s2 ⟨y,H2,I2,r2,q2⟩=>?_))
 refine wpAny_bind (wpAny_standAt (wpAny_bind (wpAny_holding (thn (hs pins s2 σ H2 x y v ov iv u _ I2 r1 r2 r q2) λ_ s3 ⟨H3,I3,q3⟩=>?_))))
 exact wpAny_release ⟨σ,H3,I3,q3⟩
def kX(te:TE)(g:TG):TS:=λD σ H=>te σ H λx H1=>g x σ H1 D.nx
theorem bQ{tg e:Expr}{te:TE}{g:TG}(he:PE X e te)(hg:PG X tg g)(hs:swapsWithSole [tg] e pos.line X.env=pure false:=by rfl)(hw:swappedStores [tg] e X.env=pure none:=by rfl)
 (h1:(assignEach [tg] X.env).map (·.2)= [assign tg X.env]:=by rfl):PS X (.Assign [tg] e pos) (kX te g):=by
 intro pins s σ H D I h
 refine wpAny_Assign_stores (thn (he pins s σ H _ I h) λv s1 ⟨x,H1,I1,r1,q1⟩=>?_) hs hw
 rw [h1]
 exact thn (hg pins s1 σ H1 x v _ I1 r1 q1) λ_ s2 q=>q
theorem ai{i:Nat}{x:Str}{e:Expr}{te:TE}{pos':Pos}(hN:X.N.Nodup)(hi:X.N[i]? =some x)(hx:Loc X.env.scope x)(he:PE X e te)(hs:swapsWith e (some (.Name x pos')) pos.line X.env=pure false:=by rfl)(hf:X.fn x=true\/X.env.scope.names.lookup x=some .local:=by first | exact .inl rfl | exact .inr rfl | assumption):
 PS X (.Assign [.Name x pos'] e pos) (kX te (gr i)):=by
 intro pins s σ H D I h
 refine wpAny_Assign_Name (thn (he pins s σ H _ I h) λv s1 ⟨y,H1,I1,r1,q1⟩=>?_) hs
 exact kW I1 hN hi hx r1 (λs2 I2=>⟨_,H1,I2,q1⟩) hf
end
section
variable{X:Cx}{pos:Pos}
def zE(c:TT)(tb:TS):TS:=λD σ H=>∃W:Nat->St->Hp->Prop,(∃m,W m σ H)/\∀m σ H,W m σ H->
 c σ H λb H1=>if b=true then ∃N:St->Hp->Prop,(∀σ' H',N σ' H'->∃m',m'<m/\W m' σ' H')/\tb {D with nx:=N,ct:=N,bk:=D.nx} σ H1 else D.nx σ H1
theorem oO{c:Expr}{body:List Stmt}{tc:TT}{tb:TS}(hp:PassesOwn (model X.prog X.w) X.A X.env X.xe)(hc:PT X c tc)(hb:PSs X body tb):PS X (.While c body [] pos) (zE tc tb):=by
 intro pins s σ H D I h
 obtain⟨W,⟨m0,w0⟩,turn⟩:=h
 refine wpAny_While (codeAny_whileLoop (λn s'=>∃σ' H',Inv X pins σ' H' s'/\W n σ' H') ?_ m0 ⟨σ,H,I,w0⟩)
 rintro n s1 ⟨σ1,H1,I1,w1⟩
 refine wpAny_passesOwn hp (thn (hc pins s1 σ1 H1 _ I1 (turn n σ1 H1 w1)) λb s2 ⟨H2,I2,q2⟩=>?_)
 cases b with
 | true=>
  obtain⟨N,hN,q2⟩:=q2
  rw [if_pos rfl]
  refine wpAny_passesOwn hp (thn (hb pins s2 σ1 H2 _ I2 q2) λf s3 q3=>?_)
  cases f with
  | next=>
   obtain⟨σ3,H3,I3,n3⟩:=q3
   obtain⟨m',hm,w3⟩:=hN σ3 H3 n3
   exact⟨m',hm,σ3,H3,I3,w3⟩
  | cont=>
   obtain⟨σ3,H3,I3,n3⟩:=q3
   obtain⟨m',hm,w3⟩:=hN σ3 H3 n3
   exact⟨m',hm,σ3,H3,I3,w3⟩
  | brk=>exact q3
  | ret v=>exact q3
 | false=>
  rw [if_neg Bool.false_ne_true]
  exact wpAny_execs_nil ⟨σ1,H2,I2,q2⟩
end
structure It where
 go:Nat->Hp->Prop
 yld:Nat->Hp->V->Hp->Prop
 stop:Nat->Hp->Prop
def cW(X:Cx)(pins:List (Addr×Obj))(H:Hp)(b:Addr):Prop:=
 H b=none/\b≠X.env.locals/\b∉X.fs/\(b∈X.ex\/X.s₀.heap.objs.size<=b)/\(∀x c,X.env.cells.lookup x=some c->c≠b)/\∀p∈X.pn++pins,p.1≠b
theorem Inv.fpOk{X:Cx}{pins:List (Addr×Obj)}{σ:St}{H H':Hp}{s:Shared}{b:Addr}(I:Inv X pins σ H s)(hb:s.heap.objs.size<=b)(hn:H' b=none):cW X pins H' b:=by
 refine⟨hn,ne_of_gt (lt_of_lt_of_le I.lt hb),I.nofs hb,.inr (le_trans I.sz hb),λx c e z=>?_,λp hp z=>?_⟩
 ·obtain⟨v,q⟩:=I.cell x c e
  exact absurd (lt_of_lt_of_le q.lt (by rw [z];exact hb)) (lt_irrefl _)
 ·exact absurd (lt_of_lt_of_le (lt_size (I.pin p hp).1) (by rw [z];exact hb)) (lt_irrefl _)
structure kY(P:Program)(w:World)(K:PySem.W.Frag)(tg:Expr)(J:It)(fp:List Addr)(it:Addr)(tn:Nat->Heap->Prop):Prop where
 mem:it∈fp
 obj:∀i h,tn i h->∀b∈fp,∃o,h.get? b=some o/\∀v,o.data≠.cell v
 keep:∀i h h',tn i h->(∀b∈fp,∀o,h.get? b=some o->h'.get? b=some o)->tn i h'
 item:∀(X:Cx),X.prog=P->X.w=w->X.K=K->X.calm=true->∀(i:Nat) (pins:List (Addr×Obj)) (s:Shared) (σ:St) (H:Hp) (E:Value->Shared->Prop),Inv X pins σ H s->(∀b∈fp,cW X pins H b)->tn i s.heap->J.go i H->
  wpAny (model P w) X.A (pyNext (.ref it)) (λr s1=>∃u,r=some u/\
   wpAny (model P w) X.A (letOwnedTupleGo tg (.ref it) u) (λ_ s2=>∃x H',Inv X pins σ H' s2/\RelV x u/\J.yld i H x H'/\tn (i+1) s2.heap/\∀b∈fp,H' b=none) E s1) E s
 done : ∀ (X : Cx), X.prog = P → X.w = w → X.K = K → X.calm = true → ∀ (i : Nat) (pins : List (Addr × Obj)) (s : Shared) (σ : St) (H : Hp) (E : Value → Shared → Prop), Inv X pins σ H s → (∀ b ∈ fp, cW X pins H b) → tn i s.heap → J.stop i H →
   wpAny (model P w) X.A (pyNext (.ref it)) (λr s1=>r=none/\Inv X pins σ H s1) E s
 self:∀(A:Around) (i:Nat) (s:Shared) (Q:Value->Shared->Prop) (E:Value->Shared->Prop),tn i s.heap->Q (.ref it) s->wpAny (model P w) A (pyIter (.ref it)) Q E s
abbrev TI:=St->Hp->(It->Hp->Prop)->Prop
def PIE(X:Cx)(pins:List (Addr×Obj))(σ:St)(tg:Expr)(R:It->Hp->Prop)(itv:Value)(s2:Shared):Prop:=
 ∃(it:Addr) (fp:List Addr) (tn:Nat->Heap->Prop) (J:It) (H':Hp),itv= .ref it/\Inv X pins σ H' s2/\kY X.prog X.w X.K tg J fp it tn/\tn 0 s2.heap/\(∀b∈fp,cW X pins H' b)/\R J H'
def PI(X:Cx)(tg iter:Expr)(wi:TI):Prop:=
 ∀(pins:List (Addr×Obj)) (s:Shared) (σ:St) (H:Hp) (R:It->Hp->Prop),Inv X pins σ H s->wi σ H R->
  wpAny (model X.prog X.w) X.A (eval iter X.env) (λv s1=>wpAny (model X.prog X.w) X.A (pyIter v) (PIE X pins σ tg R) X.xe s1) X.xe s
theorem ou{M:Model}{A:Around}{E:Value->Shared->Prop}{s:Shared}{tg:Expr}{it:Addr}{u:Value}{o:Obj}{n:String}{vs:Array Value}{Q:Unit->Shared->Prop}(ho:s.heap.get? it=some o)(hc:o.cls= .type n)(hd:o.data= .fields vs)
 (hn:["enumerate","zip","dict_itemiterator","dict_reverseitemiterator","odict_iterator","itertools.zip_longest","itertools.pairwise"].contains n=false) (hQ:Q () s):wpAny M A (letOwnedTupleGo tg (.ref it) u) Q E s:=by
 unfold letOwnedTupleGo
 cases tg<;>first
  | exact wpAny_pure hQ
  | (cases u<;>first
   | exact wpAny_pure hQ
   | (refine wpAny_bind (wpAny_load ho ?_)
      rw [hc,hd]
      show wpAny M A (if (["enumerate","zip","dict_itemiterator","dict_reverseitemiterator","odict_iterator","itertools.zip_longest","itertools.pairwise"].contains n&&vs[0]? ==some (rawInt _))=true then _ else _) Q E s
      rw [if_neg (by intro h;rw [hn,Bool.false_and] at h;cases h)]
      exact wpAny_pure hQ))
def Itl(K:PySem.W.Frag)(a:Addr):It:=
 ⟨λi H=>∃xs x,SqL K H a xs/\xs[i]? =some x,λi H x H'=>H'=H/\∀xs,SqL K H a xs->xs[i]? =some x,λi H=>∃xs,SqL K H a xs/\xs.length<=i⟩
def Itr(lo:Int)(n:Nat):It:=⟨λi _=>i<n,λi H x H'=>H'=H/\x= .int (lo+i),λi _=>n<=i⟩
theorem ue{P:Program}{w:World}{K:PySem.W.Frag}{tg:Expr}(a it:Addr):kY P w K tg (Itl K a) [it] it (λi h=>h.IsListIter it a i) where
 mem:=by simp
 obj:=λi h st b hb=>by
  have e:b=it:=by simpa using hb
  subst e
  obtain⟨o,e,c,d⟩:=st
  exact⟨o,e,λv z=>by rw [d] at z;cases z⟩
 keep:=λi h h' st k=>st.at λo e=>k it (by simp) o e
 item:=by
  intro X hP hw hK hc i pins s σ H E I hf st hg
  subst hP hw hK
  obtain⟨xs,x,hq,hx⟩:=hg
  obtain⟨its,rv,p,hz⟩:=I.list hq
  obtain⟨u,hu,ru⟩:=rv.get hx
  obtain⟨f0,f1,f2,f3,f4,f5⟩:=hf it (by simp)
  refine wpAny_pyNext_list_item st p.isList (x:=u) (by simpa using hu) λh' st' sb=>?_
  have I1:Inv X pins σ H {s with heap:=h'}:=I.turned (t':=s.toks) (λb o hb e=>(sb.2 b hb).trans e) f0 f1 f3 f4 f5
  obtain⟨o,e,c,d⟩:=id st'
  exact⟨u,rfl,ou (s:={s with heap:=h'}) e c d (by decide) ⟨x,H,I1,ru,⟨rfl,λys hy=>by rw [I.list_inj hy hq];exact hx⟩,st',λb hb=>(hf b hb).1⟩⟩
 done := by
   intro X hP hw hK hc i pins s σ H E I hf st hg
   subst hP hw hK
   obtain⟨xs,hq,hx⟩:=hg
   obtain⟨its,rv,p,hz⟩:=I.list hq
   obtain⟨f0,f1,f2,f3,f4,f5⟩:=hf it (by simp)
   have hl:=rv.length
   exact wpAny_pyNext_list_end (I.ok.hd hc) st p.isList (by simp;lia) λh' eb=>⟨rfl,I.turned (t':=s.toks) (λb o hb e=>eb b o hb e) f0 f1 f3 f4 f5⟩
 self:=λ_ _ _ _ _ st h=>wpAny_pyIter_listiter st h
theorem sr{P:Program}{w:World}{K:PySem.W.Frag}{tg:Expr}(it:Addr)(lo:Int)(n:Nat):kY P w K tg (Itr lo n) [it] it (λi h=>IsRangeIter h it (lo+(i:Nat)*1) ((n:Int)-(i:Nat)) 1) where
 mem:=by simp
 obj:=λi h st b hb=>by
  have e:b=it:=by simpa using hb
  subst e
  exact⟨_,st,λv z=>by
   have z':Data.fields _=Data.cell v:=z
   cases z'⟩
 keep:=λi h h' st k=>k it (by simp) _ st
 item:=by
  intro X hP hw hK hc i pins s σ H E I hf st hg
  subst hP hw hK
  obtain⟨f0,f1,f2,f3,f4,f5⟩:=hf it (by simp)
  have W:=Walks.range (prog:=X.prog) (w:=X.w) (I.ok.hd hc) it lo 1 n
  refine W.item i s _ _ hg st λv h' tk hv st' kk=>?_
  obtain⟨t,rfl⟩:=hv
  have I1:Inv X pins σ H {s with heap:=h',toks:=tk}:=I.turned (λb o hb e=>kk b o (by simpa using hb) e) f0 f1 f3 f4 f5
  refine⟨_,rfl,ou (s:={s with heap:=h',toks:=tk}) (n:="range_iterator") st' rfl rfl (by decide) ⟨.int (lo+i),H,I1,⟨t,?_⟩,⟨rfl,rfl⟩,st',λb hb=>(hf b hb).1⟩⟩
  rw [Int.mul_one]
 done := by
   intro X hP hw hK hc i pins s σ H E I hf st hg
   subst hP hw hK
   obtain⟨f0,f1,f2,f3,f4,f5⟩:=hf it (by simp)
   exact wpAny_pyNext_range_end (I.ok.hd hc) st (by have:n<=i:=hg;lia) λh' eb=>⟨rfl,I.turned (t':=s.toks) (λb o hb e=>eb b o hb e) f0 f1 f3 f4 f5⟩
 self:=λ_ _ _ _ _ st h=>wpAny_pyIter_rangeiter st h
section
variable{X:Cx}{tg:Expr}
def gQ(K:PySem.W.Frag)(tl:TE):TI:=λσ H R=>tl σ H λx H1=>∃a,x= .ref a/\(∃xs,SqL K H1 a xs)/\R (Itl K a) H1
theorem fk{l:Expr}{tl:TE}(hl:PE X l tl):PI X tg l (gQ X.K tl):=by
 intro pins s σ H R I h
 refine thn (hl pins s σ H _ I h) λv s1 ⟨x,H1,I1,r1,q1⟩=>?_
 obtain⟨a,e,⟨xs,hq⟩,q⟩:=q1
 subst e
 cases r1
 obtain⟨its,rv,p,hz⟩:=I1.list hq
 refine wpAny_pyIter_list p.isList ?_
 refine⟨s1.heap.objs.size,[s1.heap.objs.size],_,_,H1,rfl,I1.kept (t':=s1.toks) λb o e=>get?_push_of_some _ e,ue a _,⟨_,get?_push_size _ rfl,rfl,rfl⟩,λb hb=>?_,q⟩
 have e:b=s1.heap.objs.size:=by simpa using hb
 subst e
 exact I1.fpOk (le_refl _) (I1.hok.fresh (le_refl _))
theorem vV{pins:List (Addr×Obj)}{σ:St}{H:Hp}{s:Shared}{R:It->Hp->Prop}{E:Value->Shared->Prop}{lo hi:Int}{t u v:Tok}{tk:Nat}(I:Inv X pins σ H s)(h1: -(2^62)<=lo)(h2:lo<2^62)(h3: -(2^62)<=hi)(h4:hi<2^62)
 (q:R (Itr lo (hi-lo).toNat) H):wpAny (model X.prog X.w) X.A (pyIter (.ref s.heap.objs.size)) (PIE X pins σ tg R) E {s with heap:=s.heap.push {cls:=.type "range",data:=.fields #[.int lo t,.int hi u,.int 1 v]},toks:=tk}:=by
 refine wpAny_pyIter_range (IsRange.new ..) (small_one h1 h2 h3 h4) ?_
 have I1:Inv X pins σ H {s with heap:=s.heap.push {cls:=.type "range",data:=.fields #[.int lo t,.int hi u,.int 1 v]},toks:=tk}:=I.kept λb o e=>get?_push_of_some _ e
 refine⟨(s.heap.push {cls:=.type "range",data:=.fields #[.int lo t,.int hi u,.int 1 v]}).objs.size,[(s.heap.push {cls:=.type "range",data:=.fields #[.int lo t,.int hi u,.int 1 v]}).objs.size],_,_,H,rfl,
  I1.kept (t':=tk) λb o e=>get?_push_of_some _ e,sr _ lo (hi-lo).toNat,?_,λb hb=>?_,q⟩
 ·have e1:lo+((0:Nat):Int)*1=lo:=by simp
  have e2:(((hi-lo).toNat:Nat):Int)-((0:Nat):Int)=Builtin.Range.rangeSize lo hi 1:=by rw [rangeSize_one];split<;>lia
  show IsRangeIter _ _ (lo+((0:Nat):Int)*1) ((((hi-lo).toNat:Nat):Int)-((0:Nat):Int)) 1
  rw [e1,e2]
  exact get?_push_size _ rfl
 ·have e:b=(s.heap.push {cls:=.type "range",data:=.fields #[.int lo t,.int hi u,.int 1 v]}).objs.size:=by simpa using hb
  subst e
  exact I1.fpOk (le_refl _) (I1.hok.fresh (le_refl _))
def iH(ta:TA):TI:=λσ H R=>ta σ H λvs H1=>∃j:Int,vs= [.int j]/\ -(2^62)<=j/\j<2^62/\R (Itr 0 j.toNat) H1
theorem dP{a:Expr}{ta:TA}{p pos:Pos}(hg:Gl X "range")(hm:X.mg "range" =none)(ha:PA X [a] ta)(hs:starEach [a] X.env= [(false,eval a X.env)]:=by rfl):PI X tg (.Call (.Name "range" p) [a] [] pos) (iH ta):=by
 intro pins s σ H R I h
 refine Call_ (gD I hg hm boot_range (PyProof.Rows.callWith_type1 (thn (ha pos pins s σ H _ I h) λus s1 ⟨vs,H1,I1,r1,q1⟩=>?_) hs rfl))
 obtain⟨j,e,q1,q2,q⟩:=q1
 subst e
 cases r1 with
 | cons r rr=>
  cases rr
  obtain⟨t,rfl⟩:=r
  exact call_range_1 (vV I1 (by lia) (by lia) q1 q2 (by simpa using q))
def vW(wi:TI)(g:TG)(tb:TS):TS:=λD σ H=>wi σ H λJ H1=>∃W:Nat->Nat->St->Hp->Prop,(∃m,W 0 m σ H1)/\∀i m σ H,W i m σ H->
 (J.stop i H/\D.nx σ H)\/(J.go i H/\∃N:St->Hp->Prop,(∀σ' H',N σ' H'->∃m',m'<m/\W (i+1) m' σ' H')/\∀x H',J.yld i H x H'->g x σ H' λσ2 H2=>tb {D with nx:=N,ct:=N,bk:=D.nx} σ2 H2)
def hY(fp:List Addr)(h:Heap):List (Addr×Obj):=fp.filterMap λb=>(h.get? b).map λo=>(b,o)
theorem de{fp:List Addr}{h:Heap}{b:Addr}{o:Obj}(hb:b∈fp)(e:h.get? b=some o):(b,o)∈hY fp h:=List.mem_filterMap.mpr ⟨b,hb,by rw [e];rfl⟩
theorem uf{fp:List Addr}{h:Heap}{p:Addr×Obj}(hp:p∈hY fp h):p.1∈fp/\h.get? p.1=some p.2:=by
 obtain⟨b,hb,e⟩:=List.mem_filterMap.mp hp
 cases q:h.get? b with
 | none=>rw [q] at e;cases e
 | some o=>
  rw [q] at e
  have e':(b,o)=p:=Option.some.inj e
  subst e'
  exact⟨hb,q⟩
theorem Inv.pinned{pins:List (Addr×Obj)}{σ:St}{H:Hp}{s:Shared}{fp:List Addr}(I:Inv X pins σ H s)(hf:∀b∈fp,cW X pins H b)(ho:∀b∈fp,∃o,s.heap.get? b=some o/\∀v,o.data≠.cell v):Inv X (pins++hY fp s.heap) σ H s:=
 I.pins_of λp hp=>(List.mem_append.mp hp).elim (λz=>I.pin p (mem_append_right _ z)) λz=>by
  obtain⟨hb,e⟩:=uf z
  obtain⟨f0,f1,f2,_⟩:=hf p.1 hb
  obtain⟨o,e',d⟩:=ho p.1 hb
  rw [e] at e';cases e'
  exact⟨e,f0,f1,f2,d⟩
theorem Inv.unpinned{pins pl:List (Addr×Obj)}{σ:St}{H:Hp}{s:Shared}(I:Inv X (pins++pl) σ H s):Inv X pins σ H s:=I.pins_of λp hp=>I.pin p (mem_append_right _ (mem_append_left _ hp))
theorem hZ{iter:Expr}{body:List Stmt}{wi:TI}{g:TG}{tb:TS}{pos:Pos}(hp:PassesOwn (model X.prog X.w) X.A X.env X.xe)(hc:X.calm=true)(hi:PI X tg iter wi)(hg:PG X tg g)(hb:PSs X body tb)
 (hs:∀x,foldedSetIterable iter X.env x=pure x:=by intro _;rfl):PS X (.For tg iter body [] pos) (vW wi g tb):=by
 intro pins s σ H D I h
 refine wpAny_For (thn (hi pins s σ H _ I h) λv s1 h1=>thn h1 λitv s2 h2=>?_) hs
 obtain⟨it,fp,tn,J,H2,e,I2,T,st2,f2,W,⟨m0,w0⟩,turn⟩:=h2
 subst e
 -- what stays true of the iterator's objects through the loop
 have stat:∀{H':Hp},(∀b∈fp,H' b=none)->∀b∈fp,cW X pins H' b:=λhn b hb=>⟨hn b hb,(f2 b hb).2⟩
 refine codeAny_forLoop_any (λn s'=>∃i σ' H',Inv X pins σ' H' s'/\tn i s'.heap/\(∀b∈fp,H' b=none)/\W i n σ' H') ?_ m0 ⟨0,σ,H2,I2,st2,λb hb=>(f2 b hb).1,w0⟩
 rintro n s3 ⟨i,σ3,H3,I3,st3,fr3,w3⟩
 rcases turn i n σ3 H3 w3 with ⟨stop,qn⟩ | ⟨go,N,hN,step⟩
 ·refine wpAny_passesOwn hp (thn (T.done X rfl rfl rfl hc i pins s3 σ3 H3 X.xe I3 (stat fr3) st3 stop) λr s4 ⟨hr,I4⟩=>?_)
  subst hr
  exact wpAny_execs_nil ⟨σ3,H3,I4,qn⟩
 ·refine wpAny_passesOwn hp (thn (T.item X rfl rfl rfl hc i pins s3 σ3 H3 X.xe I3 (stat fr3) st3 go) λr s4 ⟨u,hr,h4⟩=>?_)
  subst hr
  refine wpAny_passesOwn hp (thn h4 λ_ s5 ⟨x,H5,I5,r5,y5,st5,fr5⟩=>?_)
  have I5':=I5.pinned (stat fr5) (T.obj _ _ st5)
  refine wpAny_passesOwn hp (thn (hg _ s5 σ3 H5 x u _ I5' r5 (step x H5 y5)) λ_ s6 ⟨σ6,H6,I6,q6⟩=>?_)
  refine wpAny_passesOwn hp (thn (hb _ s6 σ6 H6 _ I6 q6) λf s7 q7=>?_)
  have again:∀{σ7:St} {H7:Hp},Inv X (pins++hY fp s5.heap) σ7 H7 s7->N σ7 H7->∃m,m<n/\∃i σ' H',Inv X pins σ' H' s7/\tn i s7.heap/\(∀b∈fp,H' b=none)/\W i m σ' H':=λ{σ7 H7} I7 n7=>by
   obtain⟨m',hm,w7⟩:=hN σ7 H7 n7
   refine⟨m',hm,i+1,σ7,H7,I7.unpinned,T.keep _ _ _ st5 λb hb o e=>(I7.pin (b,o) (mem_append_right _ (mem_append_right _ (de hb e)))).1,λb hb=>?_,w7⟩
   obtain⟨o,e,d⟩:=T.obj _ _ st5 b hb
   exact(I7.pin (b,o) (mem_append_right _ (mem_append_right _ (de hb e)))).2.1
  cases f with
  | next=>obtain⟨σ7,H7,I7,n7⟩:=q7;exact again I7 n7
  | cont=>obtain⟨σ7,H7,I7,n7⟩:=q7;exact again I7 n7
  | brk=>obtain⟨σ7,H7,I7,q7⟩:=q7;exact⟨σ7,H7,I7.unpinned,q7⟩
  | ret v=>obtain⟨x7,σ7,H7,I7,r7,q7⟩:=q7;exact⟨x7,σ7,H7,I7.unpinned,r7,q7⟩
end
theorem oP{K:PySem.W.Frag}{a:Addr}{xs:List V}{g:TG}{tb:TS}{D:Ends}{σ:St}{H:Hp}(Pv:Nat->St->Hp->Prop)(h0:Pv 0 σ H)(hl:∀i σ H,i<=xs.length->Pv i σ H->SqL K H a xs)
 (hs:∀i x σ H,xs[i]? =some x->Pv i σ H->g x σ H λσ2 H2=>tb {D with nx:=Pv (i+1),ct:=Pv (i+1),bk:=D.nx} σ2 H2) (hd:∀σ H,Pv xs.length σ H->D.nx σ H):
 ∃W:Nat->Nat->St->Hp->Prop,(∃m,W 0 m σ H)/\∀i m σ H,W i m σ H->
  ((Itl K a).stop i H/\D.nx σ H)\/((Itl K a).go i H/\∃N:St->Hp->Prop,(∀σ' H',N σ' H'->∃m',m'<m/\W (i+1) m' σ' H')/\∀x H',(Itl K a).yld i H x H'->g x σ H' λσ2 H2=>tb {D with nx:=N,ct:=N,bk:=D.nx} σ2 H2):=by
 refine⟨λi m σ H=>m=xs.length-i/\i<=xs.length/\Pv i σ H,⟨xs.length,by simp,zero_le _,h0⟩,?_⟩
 rintro i m σ H ⟨rfl,hi,p⟩
 have q:=hl i σ H hi p
 by_cases hlt:i<xs.length
 ·refine .inr ⟨⟨xs,xs[i],q,by simp [hlt]⟩,Pv (i+1),λσ' H' p'=>⟨xs.length-(i+1),by lia,rfl,hlt,p'⟩,λx H' y=>?_⟩
  obtain⟨e,y⟩:=y
  subst e
  exact hs i x σ _ (y xs q) p
 ·have e:i=xs.length:=by lia
  subst e
  exact .inl ⟨⟨xs,q,le_refl _⟩,hd σ H p⟩
theorem nv{lo:Int}{n:Nat}{g:TG}{tb:TS}{D:Ends}{σ:St}{H:Hp}(Pv:Nat->St->Hp->Prop)(h0:Pv 0 σ H)
 (hs:∀i σ H,i<n->Pv i σ H->g (.int (lo+i)) σ H λσ2 H2=>tb {D with nx:=Pv (i+1),ct:=Pv (i+1),bk:=D.nx} σ2 H2) (hd:∀σ H,Pv n σ H->D.nx σ H):
 ∃W:Nat->Nat->St->Hp->Prop,(∃m,W 0 m σ H)/\∀i m σ H,W i m σ H->
  ((Itr lo n).stop i H/\D.nx σ H)\/((Itr lo n).go i H/\∃N:St->Hp->Prop,(∀σ' H',N σ' H'->∃m',m'<m/\W (i+1) m' σ' H')/\∀x H',(Itr lo n).yld i H x H'->g x σ H' λσ2 H2=>tb {D with nx:=N,ct:=N,bk:=D.nx} σ2 H2):=by
 refine⟨λi m σ H=>m=n-i/\i<=n/\Pv i σ H,⟨n,by simp,zero_le _,h0⟩,?_⟩
 rintro i m σ H ⟨rfl,hi,p⟩
 by_cases hlt:i<n
 ·refine .inr ⟨hlt,Pv (i+1),λσ' H' p'=>⟨n-(i+1),by lia,rfl,hlt,p'⟩,λx H' y=>?_⟩
  obtain⟨e,y⟩:=y
  subst e y
  exact hs i σ _ hlt p
 ·have e:i=n:=by lia
  subst e
  exact .inl ⟨le_refl _,hd σ H p⟩
abbrev R2:=V->V->Hp->VK->Prop
def OpR(X:Cx)(f:Value->Value->Sem Value)(r:R2):Prop:=
 ∀(pins:List (Addr×Obj)) (s:Shared) (σ:St) (H:Hp) (x y:V) (v u:Value) (Q:VK),Inv X pins σ H s->RelV x v->RelV y u->r x y H Q->
  wpAny (model X.prog X.w) X.A (f v u) (EP X pins σ Q) X.xe s
def UnR(X:Cx)(f:Value->Sem Value)(r:V->Hp->VK->Prop):Prop:=
 ∀(pins:List (Addr×Obj)) (s:Shared) (σ:St) (H:Hp) (x:V) (v:Value) (Q:VK),Inv X pins σ H s->RelV x v->r x H Q->
  wpAny (model X.prog X.w) X.A (f v) (EP X pins σ Q) X.xe s
def cy(X:Cx)(f:Value)(r:List V->Hp->VK->Prop):Prop:=
 ∀(pins:List (Addr×Obj)) (s:Shared) (σ:St) (H:Hp) (xs:List V) (us:List Value) (Q:VK),Inv X pins σ H s->Vals xs us->r xs H Q->
  wpAny (model X.prog X.w) X.A (call f us) (EP X pins σ Q) X.xe s
def DR(X:Cx)(r:V->Hp->(Bool->Hp->Prop)->Prop):Prop:=
 ∀(pins:List (Addr×Obj)) (s:Shared) (σ:St) (H:Hp) (x:V) (v:Value) (Q:Bool->Hp->Prop),Inv X pins σ H s->RelV x v->r x H Q->
  wpAny (model X.prog X.w) X.A (truthy v) (TP X pins σ Q) X.xe s
def tOp(r:R2)(ta tb:TE):TE:=λσ H Q=>ta σ H λx H1=>tb σ H1 λy H2=>r x y H2 Q
def tUn(r:V->Hp->VK->Prop)(ta:TE):TE:=λσ H Q=>ta σ H λx H1=>r x H1 Q
def rI(C:Int->Int->Prop)(g:Int->Int->V):R2:=λx y H Q=>∃i j,x= .int i/\y= .int j/\C i j/\Q (g i j) H
def rI0(g:Int->Int->V):R2:=λx y H Q=>∃i j,x= .int i/\y= .int j/\Q (g i j) H
def rU(g:Int->V):V->Hp->VK->Prop:=λx H Q=>∃i,x= .int i/\Q (g i) H
section
variable{X:Cx}{a b c:Expr}{ta tb tc:TE}{pos:Pos}
theorem vY(ha:PE X a ta)(hb:PE X b tb){pins:List (Addr×Obj)}{s:Shared}{σ:St}{H:Hp}{R:V->V->Hp->Prop}(I:Inv X pins σ H s)
 (h:ta σ H λx H1=>tb σ H1 λy H2=>R x y H2) {Q:Value->Shared->Prop} {f:Value->Value->Sem Value}
 (hf:∀v u s2 x y H2,Inv X pins σ H2 s2->RelV x v->RelV y u->R x y H2->wpAny (model X.prog X.w) X.A (f v u) Q X.xe s2):
 wpAny (model X.prog X.w) X.A (eval a X.env) (λv s₁=>wpAny (model X.prog X.w) X.A (eval b X.env) (λu s₂=>wpAny (model X.prog X.w) X.A (f v u) Q X.xe s₂) X.xe s₁) X.xe s:=by
 refine thn (ha pins s σ H _ I h) λv s1 ⟨x,H1,I1,r1,q1⟩=>?_
 refine thn (hb pins s1 σ H1 _ I1 q1) λu s2 ⟨y,H2,I2,r2,q2⟩=>?_
 exact hf v u s2 x y H2 I2 r1 r2 q2
theorem ag{op:Operator}{r:R2}(ho:OpR X (binaryOp op) r)(ha:PE X a ta)(hb:PE X b tb):PE X (.BinOp a op b pos) (tOp r ta tb):=by
 intro pins s σ H Q I h
 exact wpAny_BinOp (vY ha hb I h λv u s2 x y H2 I2 rx ry q=>ho pins s2 σ H2 x y v u Q I2 rx ry q)
theorem gu{op:UnaryOp}{r:V->Hp->VK->Prop}(ho:UnR X (unaryOp op) r)(ha:PE X a ta):PE X (.UnaryOp op a pos) (tUn r ta):=by
 intro pins s σ H Q I h
 exact UnaryOp_ (thn (ha pins s σ H _ I h) λv s1 ⟨x,H1,I1,r1,q1⟩=>ho pins s1 σ H1 x v Q I1 r1 q1)
theorem opI{f:Value->Value->Sem Value}{C:Int->Int->Prop}{g:Int->Int->Int}
 (rule:∀(i j:Int) (t u:Tok) (s:Shared) (Q:Value->Shared->Prop) (E:Value->Shared->Prop),C i j->Q (.int (g i j) s.toks) {s with toks:=s.toks+1}->wpAny (model X.prog X.w) X.A (f (.int i t) (.int j u)) Q E s):
 OpR X f (rI C λi j=>.int (g i j)):=by
 intro pins s σ H x y v u Q I rx ry h
 obtain⟨i,j,rfl,rfl,hc,q⟩:=h
 obtain⟨t,rfl⟩:=rx
 obtain⟨t',rfl⟩:=ry
 exact rule i j t t' s _ _ hc ⟨.int (g i j),H,I.tok _,⟨_,rfl⟩,q⟩
theorem zF{f:Value->Value->Sem Value}{g:Int->Int->Int}
 (rule:∀(i j:Int) (t u:Tok) (s:Shared) (Q:Value->Shared->Prop) (E:Value->Shared->Prop),Q (.int (g i j) s.toks) {s with toks:=s.toks+1}->wpAny (model X.prog X.w) X.A (f (.int i t) (.int j u)) Q E s):
 OpR X f (rI0 λi j=>.int (g i j)):=by
 intro pins s σ H x y v u Q I rx ry h
 obtain⟨i,j,rfl,rfl,q⟩:=h
 obtain⟨t,rfl⟩:=rx
 obtain⟨t',rfl⟩:=ry
 exact rule i j t t' s _ _ ⟨.int (g i j),H,I.tok _,⟨_,rfl⟩,q⟩
theorem su{f:Value->Value->Sem Value}{g:Int->Int->Bool}
 (rule:∀(i j:Int) (t u:Tok) (s:Shared) (Q:Value->Shared->Prop) (E:Value->Shared->Prop),Q (.bool (g i j)) s->wpAny (model X.prog X.w) X.A (f (.int i t) (.int j u)) Q E s):
 OpR X f (rI0 λi j=>.bl (g i j)):=by
 intro pins s σ H x y v u Q I rx ry h
 obtain⟨i,j,rfl,rfl,q⟩:=h
 obtain⟨t,rfl⟩:=rx
 obtain⟨t',rfl⟩:=ry
 exact rule i j t t' s _ _ ⟨.bl (g i j),H,I,rfl,q⟩
def zH(i j:Int):Prop:=0<j/\j<1073741824
def zI(i j:Int):Prop:=0<=j/\j<=1000000/\i.natAbs<2^64
def CMul(i j:Int):Prop:=(-(2^64)<i/\i<2^64)\/(-(2^64)<j/\j<2^64)
theorem CMul.ok{i j:Int}(h:CMul i j):IntMulOk i j:=by
 rcases h with ⟨h1,h2⟩ | ⟨h1,h2⟩
 ·exact .of_left (intBits_le_64 h1 h2)
 ·exact .of_right (intBits_le_64 h1 h2)
theorem sv(k:Nat):(0:Int)<=2^k:=by
 rw [two_pow_cast]
 exact Int.natCast_nonneg _
theorem aM:OpR X (binaryOp .Add) (rI0 λi j=>.int (i+j)):=zF λ_ _ _ _ _ _ _ q=>add_int q
theorem gE:OpR X (binaryOp .Sub) (rI0 λi j=>.int (i-j)):=zF λ_ _ _ _ _ _ _ q=>sub_int q
theorem dh:OpR X (binaryOp .Mult) (rI CMul λi j=>.int (i*j)):=opI λ_ _ _ _ _ _ _ hc q=>mul_int q hc.ok
theorem bG:OpR X (binaryOp .FloorDiv) (rI zH λi j=>.int (i/j)):=opI λi j _ _ _ _ _ hc q=>by
 have h1:(0:Int)<j:=hc.1
 have h2:j<1073741824:=hc.2
 exact floordiv_int (by lia) (by rw [Int.fdiv_eq_ediv_of_nonneg i (by lia)];exact q) (.inl (PyProof.noPylong_small (by lia)))
theorem aI:OpR X (binaryOp .Mod) (rI (λ_ j=>0<j) λi j=>.int (i%j)):=opI λi j _ _ _ _ _ hc q=>by
 have h1:(0:Int)<j:=hc
 exact mod_int' (by lia) (by rw [Int.fmod_eq_emod_of_nonneg i (by lia)];exact q)
theorem oQ:OpR X (binaryOp .Pow) (rI zI λi j=>.int (i^j.toNat)):=opI λ_ _ _ _ _ _ _ hc q=>pow_int_small hc.1 hc.2.1 hc.2.2 q
theorem zJ:OpR X (binaryOp .RShift) (rI (λ_ j=>0<=j) λi j=>.int (i/2^j.toNat)):=opI λi j _ _ _ _ _ hc q=>
 rshift_int hc (by rw [Int.fdiv_eq_ediv_of_nonneg i (sv _)];exact q)
theorem unI{f:Value->Sem Value}{g:Int->Int}
 (rule:∀(i:Int) (t:Tok) (s:Shared) (Q:Value->Shared->Prop) (E:Value->Shared->Prop),Q (.int (g i) s.toks) {s with toks:=s.toks+1}->wpAny (model X.prog X.w) X.A (f (.int i t)) Q E s):
 UnR X f (rU λi=>.int (g i)):=by
 intro pins s σ H x v Q I rx h
 obtain⟨i,rfl,q⟩:=h
 obtain⟨t,rfl⟩:=rx
 exact rule i t s _ _ ⟨.int (g i),H,I.tok _,⟨_,rfl⟩,q⟩
theorem eT:UnR X (unaryOp .USub) (rU λi=>.int (-i)):=unI λ_ _ _ _ _ q=>neg_int q
end
def iS:V->V->Bool
 | .non,.non=>true | .non,.int _=>true | .int _,.non=>true | .non,.bl _=>true | .bl _,.non=>true | .non,.str _=>true | .str _,.non=>true
 | .int _,.int _=>true | .bl _,.bl _=>true | .str _,.str _=>true | .byt _,.byt _=>true
 | .int _,.str _=>true | .str _,.int _=>true | .bl _,.str _=>true | .str _,.bl _=>true
 | _,_=>false
def rEq:R2:=λx y H Q=>iS x y=true/\Q (.bl (decide (x=y))) H
def rNe:R2:=λx y H Q=>iS x y=true/\Q (.bl (!decide (x=y))) H
theorem qX{i j:Int}:decide (V.int i=V.int j)=(i==j):=by
 rw [Bool.eq_iff_iff]
 simp
theorem ug{i j:Bool}:decide (V.bl i=V.bl j)=(i==j):=by
 rw [Bool.eq_iff_iff]
 simp
theorem qY{i j:Str}:decide (V.str i=V.str j)=(i==j):=by
 rw [Bool.eq_iff_iff]
 simp
theorem qZ{i j:Array UInt8}:decide (V.byt i=V.byt j)=(i.toList==j.toList):=by
 rw [Bool.eq_iff_iff]
 cases i
 cases j
 simp
section
variable{X:Cx}{a b c:Expr}{ta tb tc:TE}{pos:Pos}
theorem ba{pins:List (Addr×Obj)}{σ:St}{H:Hp}{s:Shared}{Q:VK}{k k':Bool}(I:Inv X pins σ H s)(q:Q (.bl k) H)(e:k=k'):EP X pins σ Q (.bool k') s:=by
 subst e
 exact⟨.bl k,H,I,rfl,q⟩
theorem aJ:OpR X (compareOp .Eq) rEq:=by
 intro pins s σ H x y v u Q I rx ry h
 obtain⟨hs,q⟩:=h
 cases x with
 | non=>
  cases rx
  cases y with
  | non=>cases ry;exact PySem.EqNone.eq_none_none (ba I q (by simp))
  | bl j=>cases ry;exact PySem.EqNone.eq_none_bool (ba I q (by simp))
  | int j=>obtain⟨t',rfl⟩:=ry;exact PySem.EqNone.eq_none_int (ba I q (by simp))
  | str j=>obtain⟨t',rfl⟩:=ry;exact PySem.EqNone.eq_none_str (ba I q (by simp))
  | _=>exact absurd (show false=true from hs) Bool.false_ne_true
 | bl i=>
  cases rx
  cases y with
  | non=>cases ry;exact PySem.EqNone.eq_bool_none (ba I q (by simp))
  | bl j=>cases ry;exact eq_bool (ba I q ug)
  | str j=>obtain⟨t',rfl⟩:=ry;exact PySem.EqMixed.eq_bool_str (ba I q (by simp))
  | _=>exact absurd (show false=true from hs) Bool.false_ne_true
 | int i=>
  obtain⟨t,rfl⟩:=rx
  cases y with
  | non=>cases ry;exact PySem.EqNone.eq_int_none (ba I q (by simp))
  | int j=>obtain⟨t',rfl⟩:=ry;exact eq_int (ba I q qX)
  | str j=>obtain⟨t',rfl⟩:=ry;exact PySem.EqMixed.eq_int_str (ba I q (by simp))
  | _=>exact absurd (show false=true from hs) Bool.false_ne_true
 | str i=>
  obtain⟨t,rfl⟩:=rx
  cases y with
  | non=>cases ry;exact PySem.EqNone.eq_str_none (ba I q (by simp))
  | bl j=>cases ry;exact PySem.EqMixed.eq_str_bool (ba I q (by simp))
  | int j=>obtain⟨t',rfl⟩:=ry;exact PySem.EqMixed.eq_str_int (ba I q (by simp))
  | str j=>obtain⟨t',rfl⟩:=ry;exact eq_str (ba I q qY)
  | _=>exact absurd (show false=true from hs) Bool.false_ne_true
 | byt i=>
  obtain⟨t,rfl⟩:=rx
  cases y with
  | byt j=>obtain⟨t',rfl⟩:=ry;exact PySem.W.eq_bytes (ba I q qZ)
  | _=>exact absurd (show false=true from hs) Bool.false_ne_true
 | _=>cases y<;>exact absurd (show false=true from hs) Bool.false_ne_true
theorem lM:OpR X (compareOp .NotEq) rNe:=by
 intro pins s σ H x y v u Q I rx ry h
 obtain⟨hs,q⟩:=h
 cases x with
 | non=>
  cases rx
  cases y with
  | non=>cases ry;exact PySem.EqNone.ne_none_none (ba I q (by simp))
  | bl j=>cases ry;exact PySem.EqNone.ne_none_bool (ba I q (by simp))
  | int j=>obtain⟨t',rfl⟩:=ry;exact PySem.EqNone.ne_none_int (ba I q (by simp))
  | str j=>obtain⟨t',rfl⟩:=ry;exact PySem.EqNone.ne_none_str (ba I q (by simp))
  | _=>exact absurd (show false=true from hs) Bool.false_ne_true
 | bl i=>
  cases rx
  cases y with
  | non=>cases ry;exact PySem.EqNone.ne_bool_none (ba I q (by simp))
  | bl j=>cases ry;exact ne_bool (ba I q (congrArg not ug))
  | str j=>obtain⟨t',rfl⟩:=ry;exact PySem.EqMixed.ne_bool_str (ba I q (by simp))
  | _=>exact absurd (show false=true from hs) Bool.false_ne_true
 | int i=>
  obtain⟨t,rfl⟩:=rx
  cases y with
  | non=>cases ry;exact PySem.EqNone.ne_int_none (ba I q (by simp))
  | int j=>obtain⟨t',rfl⟩:=ry;exact ne_int (ba I q (congrArg not qX))
  | str j=>obtain⟨t',rfl⟩:=ry;exact PySem.EqMixed.ne_int_str (ba I q (by simp))
  | _=>exact absurd (show false=true from hs) Bool.false_ne_true
 | str i=>
  obtain⟨t,rfl⟩:=rx
  cases y with
  | non=>cases ry;exact PySem.EqNone.ne_str_none (ba I q (by simp))
  | bl j=>cases ry;exact PySem.EqMixed.ne_str_bool (ba I q (by simp))
  | int j=>obtain⟨t',rfl⟩:=ry;exact PySem.EqMixed.ne_str_int (ba I q (by simp))
  | str j=>obtain⟨t',rfl⟩:=ry;exact ne_str (ba I q (congrArg not qY))
  | _=>exact absurd (show false=true from hs) Bool.false_ne_true
 | byt i=>
  obtain⟨t,rfl⟩:=rx
  cases y with
  | byt j=>obtain⟨t',rfl⟩:=ry;exact PySem.W.ne_bytes (ba I q (congrArg not qZ))
  | _=>exact absurd (show false=true from hs) Bool.false_ne_true
 | _=>cases y<;>exact absurd (show false=true from hs) Bool.false_ne_true
theorem gR:OpR X (compareOp .Lt) (rI0 λi j=>.bl (decide (i<j))):=su λ_ _ _ _ _ _ _ q=>lt_int q
theorem eJ:OpR X (compareOp .LtE) (rI0 λi j=>.bl (decide (i<=j))):=su λ_ _ _ _ _ _ _ q=>le_int q
theorem jF:OpR X (compareOp .Gt) (rI0 λi j=>.bl (decide (j<i))):=su λ_ _ _ _ _ _ _ q=>gt_int q
theorem CJ:OpR X (compareOp .GtE) (rI0 λi j=>.bl (decide (j<=i))):=su λ_ _ _ _ _ _ _ q=>ge_int q
theorem j2:OpR X (compareOp .In) (λx y H Q=>∃i j,x= .str i/\y= .str j/\Q (.bl (!(Builtin.Str.occurrences j i 0 j.length 1).isEmpty)) H):=by
 intro pins s σ H x y v u Q I rx ry h
 obtain⟨i,j,rfl,rfl,q⟩:=h
 obtain⟨t,rfl⟩:=rx
 obtain⟨t',rfl⟩:=ry
 exact in_str (ba I q rfl)
theorem ap(b:Expr){op:CmpOp}(h:op≠.In:=by decide)(h2:op≠.NotIn:=by decide):behindInMarks op b=false:=by
 have e1:(op==CmpOp.In)=false:=by cases op<;>first | rfl | exact absurd rfl h
 have e2:(op==CmpOp.NotIn)=false:=by cases op<;>first | rfl | exact absurd rfl h2
 cases b<;>simp [behindInMarks,e1,e2]
theorem bZ{op:CmpOp}{r:R2}(ho:OpR X (compareOp op) r)(ha:PE X a ta)(hb:PE X b tb)(hm:behindInMarks op b=false):PE X (.Compare a [op] [b] pos) (tOp r ta tb):=by
 intro pins s σ H Q I h
 exact wpAny_Compare1 (vY ha hb I h λv u s2 x y H2 I2 rx ry q=>ho pins s2 σ H2 x y v u Q I2 rx ry q) hm
def iI(t:TE):TT:=λσ H Q=>t σ H λx H'=>∃k,x= .bl k/\Q k H'
theorem aj{op:CmpOp}{r:R2}(ho:OpR X (compareOp op) r)(ha:PE X a ta)(hb:PE X b tb)(hm:behindInMarks op b=false):PT X (.Compare a [op] [b] pos) (iI (tOp r ta tb)):=by
 intro pins s σ H Q I h
 refine wpAny_isTrue_Compare1 (thn (ha pins s σ H _ I h) λv s1 ⟨x,H1,I1,r1,q1⟩=>thn (hb pins s1 σ H1 _ I1 q1) λu s2 ⟨y,H2,I2,r2,q2⟩=>
  thn (ho pins s2 σ H2 x y v u _ I2 r1 r2 q2) λc s3 ⟨z,H3,I3,r3,k,e,q3⟩=>?_) hm
 subst e
 cases r3
 exact wpAny_truthy_bool ⟨H3,I3,q3⟩
def oR(r r':R2)(ta tb tc:TE):TE:=λσ H Q=>ta σ H λx H1=>tb σ H1 λy H2=>r x y H2 λz H3=>∃k,z= .bl k/\
 (if k=true then tc σ H3 λw' H4=>r' y w' H4 Q else Q (.bl false) H3)
theorem jG{op op':CmpOp}{r r':R2}(ho:OpR X (compareOp op) r)(ho':OpR X (compareOp op') r')(ha:PE X a ta)(hb:PE X b tb)(hc:PE X c tc)
 (hm:lastMarks [op,op'] [b,c]=false:=by with_unfolding_all rfl):PE X (.Compare a [op,op'] [b,c] pos) (oR r r' ta tb tc):=by
 intro pins s σ H Q I h
 refine Compare_chain (thn (ha pins s σ H _ I h) λv s1 ⟨x,H1,I1,r1,q1⟩=>chain_link (thn (hb pins s1 σ H1 _ I1 q1) λu s2 ⟨y,H2,I2,r2,q2⟩=>
  thn (ho pins s2 σ H2 x y v u _ I2 r1 r2 q2) λd s3 ⟨z,H3,I3,r3,k,e,q3⟩=>?_)) hm
 subst e
 cases r3
 refine wpAny_truthy_bool ?_
 cases k with
 | false=>exact ite_ff ⟨.bl false,H3,I3,rfl,q3⟩
 | true=>exact ite_tt (chain_last (thn (hc pins s3 σ H3 _ I3 q3) λw' s4 ⟨z',H4,I4,r4,q4⟩=>ho' pins s4 σ H4 y z' u w' Q I4 r2 r4 q4))
theorem vZ{op op':CmpOp}{r r':R2}(ho:OpR X (compareOp op) r)(ho':OpR X (compareOp op') r')(ha:PE X a ta)(hb:PE X b tb)(hc:PE X c tc)
 (hm:lastMarks [op,op'] [b,c]=false:=by with_unfolding_all rfl):PT X (.Compare a [op,op'] [b,c] pos) (iI (oR r r' ta tb tc)):=by
 intro pins s σ H Q I h
 refine isTrue_chain (thn (ha pins s σ H _ I h) λv s1 ⟨x,H1,I1,r1,q1⟩=>test_link (thn (hb pins s1 σ H1 _ I1 q1) λu s2 ⟨y,H2,I2,r2,q2⟩=>
  thn (ho pins s2 σ H2 x y v u _ I2 r1 r2 q2) λd s3 ⟨z,H3,I3,r3,k,e,q3⟩=>?_)) hm
 subst e
 cases r3
 refine wpAny_truthy_bool ?_
 cases k with
 | false=>
  obtain⟨k',e',q'⟩:=q3
  cases e'
  exact ite_ff ⟨H3,I3,q'⟩
 | true=>
  refine ite_tt (test_last (thn (hc pins s3 σ H3 _ I3 q3) λw' s4 ⟨z',H4,I4,r4,q4⟩=>thn (ho' pins s4 σ H4 y z' u w' _ I4 r2 r4 q4) λd' s5 ⟨z2,H5,I5,r5,k2,e2,q5⟩=>?_))
  subst e2
  cases r5
  exact wpAny_truthy_bool ⟨H5,I5,q5⟩
def zK(K:PySem.W.Frag)(x:V)(H:Hp)(k:Bool):Prop:=
 match x with
 | .non=>k=false
 | .bl b=>k=b
 | .int i=>k=(i != 0)
 | .str y=>y.length<=sizeLine/\k=((y.length:Int) != 0)
 | .byt y=>y.size<=sizeLine/\k=((y.size:Int) != 0)
 | .ref p=>(∃xs,SqL K H p xs/\k= !xs.isEmpty)\/(∃xs,SqT K H p xs/\k= !xs.isEmpty)\/∃kvs,H p=some (.dK kvs)/\k= !kvs.isEmpty
 | _=>False
theorem sA{κ:Type}{kvs:List (κ×V)}{vs:List (κ×Value)}(r:KV kvs vs):(!vs.isEmpty)= !kvs.isEmpty:=by
 cases r<;>rfl
theorem lN{xs:List V}{its:List Value}(r:Vals xs its):(!its.toArray.isEmpty)= !xs.isEmpty:=by
 cases r<;>simp
theorem ia:(sizeLine:Nat)<2^63:=by rw [sizeLine_eq];decide
theorem uh:DR X (λx H Q=>∃k,zK X.K x H k/\Q k H):=by
 intro pins s σ H x v Q I rx h
 obtain⟨k,e,q⟩:=h
 have hl:=ia
 have hs:sizeLine=16777216:=sizeLine_eq
 cases x with
 | non=>
  cases rx
  have e':k=false:=e
  subst e'
  exact truthy_none ⟨H,I,q⟩
 | bl b=>
  cases rx
  have e':k=b:=e
  subst e'
  exact wpAny_truthy_bool ⟨H,I,q⟩
 | int i=>
  obtain⟨t,rfl⟩:=rx
  have e':k=(i != 0):=e
  subst e'
  exact PySem.P.truthy_int ⟨H,I,q⟩
 | str y=>
  obtain⟨t,rfl⟩:=rx
  obtain⟨hy,e'⟩:y.length<=sizeLine/\k=((y.length:Int) != 0):=e
  subst e'
  exact PySem.P.truthy_str (by lia) ⟨H,I.tok _,q⟩
 | byt y=>
  obtain⟨t,rfl⟩:=rx
  obtain⟨hy,e'⟩:y.size<=sizeLine/\k=((y.size:Int) != 0):=e
  subst e'
  exact PySem.W.truthy_bytes (by lia) ⟨H,I.tok _,q⟩
 | ref p=>
  cases rx
  have e':(∃xs,SqL X.K H p xs/\k= !xs.isEmpty)\/(∃xs,SqT X.K H p xs/\k= !xs.isEmpty)\/∃kvs,H p=some (.dK kvs)/\k= !kvs.isEmpty:=e
  rcases e' with ⟨xs,hx,e'⟩ | ⟨xs,hx,e'⟩ | ⟨kvs,hx,e'⟩
  ·subst e'
   obtain⟨its,r,pl,hz⟩:=I.list hx
   have hlen:=r.length
   exact wpAny_truthy_list pl.isList (by simp only [size_toArray];lia) ⟨H,I.tok _,by rw [lN r];exact q⟩
  ·subst e'
   obtain⟨its,r,pl,hz⟩:=I.tuple hx
   have hlen:=r.length
   exact truthy_tuple pl (by simp only [size_toArray];lia) ⟨H,I.tok _,by rw [lN r];exact q⟩
  ·subst e'
   obtain⟨hz,hS,vs,r,m⟩:kvs.length<=sizeLine/\(p==sysModules)=false/\∃vs,KV kvs vs/\s.heap.DictOf (cN X.prog X.w) p vs:=I.hok p _ hx
   have hlen:kvs.length=vs.length:=Paired.length r
   exact wpAny_truthy_dict hS m (by lia) ⟨H,I.tok _,by rw [sA r];exact q⟩
 | _=>exact(show False from e).elim
theorem oS(ha:PE X a ta)(he:∀whole,isTrue a X.env whole=(do let v <-whole;standAt a.pos;holding [v] (truthy v))):
 PT X a (λσ H Q=>ta σ H λx H'=>∃k,zK X.K x H' k/\Q k H'):=by
 intro pins s σ H Q I h
 exact isTrue_plain (thn (ha pins s σ H _ I h) λv s1 ⟨x,H1,I1,r1,q1⟩=>uh pins s1 σ H1 x v Q I1 r1 q1) (he _)
theorem aq:OpR X (binaryOp .Add) (λx y H Q=>∃i j,x= .str i/\y= .str j/\i.length+j.length<=sizeLine/\Q (.str (i++j)) H):=by
 intro pins s σ H x y v u Q I rx ry h
 obtain⟨i,j,rfl,rfl,hz,q⟩:=h
 obtain⟨t,rfl⟩:=rx
 obtain⟨t',rfl⟩:=ry
 exact add_str (λt' tk=>⟨.str (i++j),H,I.tok _,⟨_,rfl⟩,q⟩) hz
theorem eV{x:V}{us:List Value}(r:Vals [x] us):∃u,us= [u]/\RelV x u:=by
 cases r with
 | cons r1 r2=>cases r2;exact⟨_,rfl,r1⟩
theorem sB{x y:V}{us:List Value}(r:Vals [x,y] us):∃u w',us= [u,w']/\RelV x u/\RelV y w':=by
 cases r with
 | cons r1 r2=>
  cases r2 with
  | cons r3 r4=>cases r4;exact⟨_,_,rfl,r1,r3⟩
theorem uk(hc:X.calm=true):cy X (.builtin "max") (λxs H Q=>∃i j,xs= [.int i,.int j]/\Q (.int (if j>i then j else i)) H):=by
 intro pins s σ H xs us Q I r h
 obtain⟨i,j,rfl,q⟩:=h
 obtain⟨u,w',rfl,⟨t,rfl⟩,⟨t',rfl⟩⟩:=sB r
 refine max_two_ints (I.ok.hd hc) λh' tk k=>⟨_,H,I.kept k,?_,q⟩
 by_cases hj:j>i
 ·rw [if_pos hj,if_pos hj];exact⟨_,rfl⟩
 ·rw [if_neg hj,if_neg hj];exact⟨_,rfl⟩
theorem j3:cy X (.type "int") (λxs H Q=>(∃i,xs= [.int i]/\Q (.int i) H)\/∃k,xs= [.bl k]/\Q (.int (if k then 1 else 0)) H):=by
 intro pins s σ H xs us Q I r h
 rcases h with ⟨i,rfl,q⟩ | ⟨k,rfl,q⟩
 ·obtain⟨u,rfl,t,rfl⟩:=eV r
  exact call_int_int ⟨.int i,H,I,⟨_,rfl⟩,q⟩
 ·obtain⟨u,rfl,r1⟩:=eV r
  cases r1
  exact call_int_bool ⟨.int (if k then 1 else 0),H,I.tok _,⟨_,rfl⟩,q⟩
theorem fz:cy X (.type "str") (λxs H Q=>∃i,xs= [.int i]/\i.natAbs.log2<1920/\Q (.str (toString i)) H):=by
 intro pins s σ H xs us Q I r h
 obtain⟨i,rfl,hz,q⟩:=h
 obtain⟨u,rfl,t,rfl⟩:=eV r
 exact PySem.P.str_of_int hz ⟨.str _,H,I.tok _,⟨_,rfl⟩,q⟩
end
structure ObjM(h:Heap)(x dx C:Addr)(mA:Str->Option Value):Prop where
 obj:h.get? x=some (PySem.W.instObj C dx)
 ns:h.Ns1 dx mA
 ne:dx≠x
section
variable{prog:Program}{w:World}{A:Around}{E:Value->Shared->Prop}{s:Shared}{K:PySem.W.Frag}{x dx C f:Addr}{mA:Str->Option Value}{name:Str}{v:Value}
end
def sC(f:Str)(v:V):List (Str×V)->List (Str×V)
 | []=>[(f,v)]
 | (g,x)::r=>if g=f then (g,v)::r else (g,x)::sC f v r
theorem RelO.some_of{v:V}{o:Option Value}(r:RelO (some v) o):∃u,o=some u/\RelV v u:=by
 cases o with
 | none=>exact(show False from r).elim
 | some u=>exact⟨u,rfl,r⟩
section
variable{P:Program}{w:World}{H H':Hp}{h h':Heap}{a C dx:Addr}{fs fs':List (Str×V)}
end
structure Cls(K:PySem.W.Frag)(C:Addr):Prop where
 pg:PySem.W.plainGet K C Str.empty=true
 hd:PySem.W.hasDictIn K C=true
 po:PySem.W.plainOver K C=true
 sa:PySem.W.findIn K (.ref C) "__setattr__" =some (some (.builtin "object.__setattr__"))
structure Con(K:PySem.W.Frag)(C:Addr)(f:Str)(v:V)(u:Value):Prop where
 at_:PySem.W.findIn K (.ref C) f=some (some u)
 rel:RelV v u
 get:PySem.W.specialIn K u "__get__" =some none
 cp:PySem.W.copiedNames.contains f=false
structure zL(K:PySem.W.Frag)(C:Addr)(m:Str)(f:Addr):Prop where
 at_:PySem.W.findIn K (.ref C) m=some (some (.ref f))
 fn:PySem.W.isFn K (.ref f)=true
 kp:PySem.W.keepIn K (.ref f)=true
section
variable{X:Cx}{pins:List (Addr×Obj)}{σ:St}{H:Hp}{s:Shared}{a C dx:Addr}{fs:List (Str×V)}{f:Str}{v:V}{A:Around}{E:Value->Shared->Prop}
end
section
variable{X:Cx}{o e value:Expr}{f:Str}{pos pos' tpos:Pos}{ta tv:TE}
end
section
variable{X:Cx}{pins:List (Addr×Obj)}{σ:St}{H:Hp}{s:Shared}{A:Around}{E:Value->Shared->Prop}{Q:Value->Shared->Prop}{c:Value}{b:Bool}
inductive ib (K:PySem.W.Frag) (H:Hp):V->Value->Prop where
 | non:ib K H .non (.type "NoneType")
 | bl (x:Bool):ib K H (.bl x) (.type "bool")
 | int (i:Int):ib K H (.int i) (.type "int")
 | str (x:Str):ib K H (.str x) (.type "str")
 | flt (x:UInt64):ib K H (.flt x) (.type "float")
 | lst {a:Addr} {xs:List V} (e:H a=some (.lst xs)):ib K H (.ref a) (.type "list")
 | frz {a:Addr} {o:Obj} {xs:List V} (e:H a=some (.frz o (.lst xs))):ib K H (.ref a) (.type "list")
 | tup {a:Addr} {xs:List V} (e:H a=some (.tup xs)):ib K H (.ref a) (.type "tuple")
 | dK {a:Addr} {kvs:List (Key×V)} (e:H a=some (.dK kvs)):ib K H (.ref a) (.type "dict")
 | dT {a:Addr} {kvs:List (List Key×V)} (e:H a=some (.dT kvs)):ib K H (.ref a) (.type "dict")
 | ins {a C dx:Addr} {fs:List (Str×V)} (e:H a=some (.ins C dx fs)) (cl:Cls K C) (ha:PySem.W.findIn K (.ref C) "__class__" =some (some (.builtin "object.__class__")))
  (hn:PySem.W.specialIn K (.builtin "object.__class__") "__get__" =some (some (.builtin "getset_descriptor.__get__"))) (htk:PySem.W.takesIn K (.builtin "object.__class__")=some true)
  (hm:PySem.W.mroIn K C (.type "object")=some true):ib K H (.ref a) (.ref C)
end
structure Room(k:Nat)(A:Around):Prop where
 hd:A.handled=none
 dp:A.depth+3*k+5<recursionLimit
 un:A.units+16*k+200<cLine
theorem Room.mono{j k:Nat}{A:Around}(r:Room k A)(h:j<=k):Room j A:=⟨r.hd,by have:=r.dp;lia,by have:=r.un;lia⟩
theorem Room.deeper{k:Nat}{A:Around}(r:Room (k+1) A)(env:Env):Room k (A.deeper env):=
 ⟨r.hd,by have:=r.dp;show A.depth+1+3*k+5<_;lia,by have:=r.un;show A.units+3+16*k+200<_;lia⟩
theorem Room.depth{k:Nat}{A:Around}(r:Room k A):A.depth<recursionLimit:=by have:=r.dp;lia
theorem Room.units{k:Nat}{A:Around}(r:Room k A):A.units+64<cLine:=by have:=r.un;lia
def jH:TA:=λ_ H Q=>Q [] H
def gS(ta:TE)(tr:TA):TA:=λσ H Q=>ta σ H λx H1=>tr σ H1 λxs H2=>Q (x::xs) H2
section
variable{X:Cx}{e:Expr}{es:List Expr}{te:TE}{t:TA}{pos:Pos}
theorem ad:PA X [] jH:=λ_ _ _ _ H Q I h=>Calls.spliced_nil ⟨[],H,I,.nil,h⟩
theorem q0(ha:PE X e te)(hr:PA X es t)(hs:starEach (e::es) X.env=(false,eval e X.env)::starEach es X.env:=by rfl):PA X (e::es) (gS te t):=by
 intro pos pins s σ H Q I h
 rw [hs]
 show wpAny _ _ (spliced ((false,eval e X.env)::backTo pos (starEach es X.env))) _ _ s
 refine Calls.spliced_cons (thn (ha pins s σ H _ I h) λu s1 ⟨x,H1,I1,r1,q1⟩=>?_)
 exact thn (hr pos pins s1 σ H1 _ I1 q1) λus s2 ⟨xs,H2,I2,r2,q2⟩=>⟨x::xs,H2,I2,.cons r1 r2,q2⟩
def DS(t:TA):TE:=λσ H Q=>t σ H λxs H1=>xs.length<=sizeLine/\∀p,H1 p=none->Q (.ref p) (upd H1 p (.tup xs))
def DU(t:TA):TE:=λσ H Q=>t σ H λxs H1=>xs.length<=sizeLine/\∀p,H1 p=none->Q (.ref p) (upd H1 p (.lst xs))
theorem zM{x1}(h:PA X es t):PE X (.Tuple es x1 pos) (DS t):=by
 intro pins s σ H Q I hq
 refine wpAny_Tuple_spliced (thn (h pos pins s σ H _ I hq) λus s1 ⟨xs,H1,I1,r,z,q⟩=>⟨by rw [<-r.length];exact z,?_⟩)
 have hf:H1 s1.heap.objs.size=none:=I1.hok.fresh (le_refl _)
 refine⟨.ref s1.heap.objs.size,upd H1 s1.heap.objs.size (.tup xs),I1.laid (t':=s1.toks) (λb u e=>get?_push_of_some _ e) (le_refl _) ?_,rfl,q _ hf⟩
 exact⟨z,us,r,⟨_,get?_push_size _ rfl,rfl,_,rfl⟩⟩
theorem zN(h:PA X es t):PE X (.List es pos) (DU t):=by
 intro pins s σ H Q I hq
 refine wpAny_List_spliced (thn (h pos pins s σ H _ I hq) λus s1 ⟨xs,H1,I1,r,z,q⟩=>⟨by rw [<-r.length];exact z,?_⟩)
 have hf:H1 s1.heap.objs.size=none:=I1.hok.fresh (le_refl _)
 refine⟨.ref s1.heap.objs.size,upd H1 s1.heap.objs.size (.lst xs),I1.laid (t':=s1.toks) (λb u e=>get?_push_of_some _ e) (le_refl _) ?_,rfl,q _ hf⟩
 exact⟨z,us,0,r,get?_push_size _ rfl⟩
end
abbrev Sp:=List V->Hp->VK->XK->Prop
abbrev CXT:=List Env->Hp->Shared->XK->Value->Shared->Prop
structure sD(P:Program)(w:World)(K:PySem.W.Frag)(mg:Str->Option Value)(base:Heap)(A:Around)(outer:List Env)(s:Shared)(H:Hp):Prop where
 frames:A.frames=some outer
 mod:Mod K mg base
 bs:∀b o,base.get? b=some o->s.heap.get? b=some o/\H b=none
 bsz:base.objs.size<=s.heap.objs.size
 funs:s.heap.FunFrames base outer
 frf:∀b∈frs outer,H b=none
 hok:HOk P w H s.heap
 bare:AllBare s.gens
def CE(outer:List Env)(P:Program)(w:World)(H:Hp)(s:Shared)(Q:VK)(u:Value)(s':Shared):Prop:=
 ∃v H',s'.os=s.os/\AllBare s'.gens/\Un (frs outer) [] H H' s.heap s'.heap/\HOk P w H' s'.heap/\RelV v u/\Q v H'
def CR(CX:CXT)(outer:List Env)(P:Program)(w:World)(H:Hp)(s:Shared)(Q:VK)(E:XK)(r:Result)(s':Shared):Prop:=
 match r with
 | .ok (.ret u)=>CE outer P w H s Q u s'
 | .ok _=>False
 | .error e=>CX outer H s E e s'
structure fP(P:Program)(w:World)(K:PySem.W.Frag)(mg:Str->Option Value)(base:Heap)(CX:CXT)(k:Nat)(f:Addr)(fd:FuncData)(ps:List Str)(sp:Sp):Prop where
 len:∀vs H Q E,sp vs H Q E->vs.length=ps.length
 run:∀(A:Around) (outer:List Env) (s:Shared) (H:Hp) (args:Args) (us:List Value) (vs:List V) (Q:VK) (E:XK),Room k A->sD P w K mg base A outer s H->BindsTo s fd args (ps.zip us)->Vals vs us->sp vs H Q E->
  codeAny (model P w) A (.call (.ref f) args) (CR CX outer P w H s Q E) s
section
variable{X:Cx}{pins:List (Addr×Obj)}{σ:St}{H:Hp}{s s':Shared}
theorem Inv.env0(I:Inv X pins σ H s):sD X.prog X.w X.K X.mg X.base X.A X.stack s H:=
 ⟨I.ok.frames,I.ok.mod,I.bs,le_trans I.ok.bsz I.sz,I.stack,I.stkFree,I.hok,I.bare⟩
theorem Inv.after{Q:VK}{u:Value}(I:Inv X pins σ H s)(h:CE X.stack X.prog X.w H s Q u s'):EP X pins σ Q u s':=by
 obtain⟨v,H',os,bare,un,hok,r,q⟩:=h
 obtain⟨hh,g,d,t,os'⟩:=s'
 obtain rfl:os'=s.os:=os
 exact⟨v,H',I.call (h':=hh) (g':=g) (d':=d) (t':=t) (ch:=[]) un hok bare (λb z=>absurd z (by simp)),r,q⟩
end
def xp(sp:Sp)(dvs:List V)(E:XK)(t:TA):TE:=λσ H Q=>t σ H λvs H1=>sp (vs++dvs) H1 Q E
def Binds(K:PySem.W.Frag)(fd:FuncData)(ps:List Str)(ds:List Value):Prop:=
 ∀(s:Shared) (us:List Value),K.In s.heap->(us++ds).length=ps.length->BindsTo s fd ⟨us,[]⟩ (ps.zip (us++ds))
theorem Binds.all{K:PySem.W.Frag}{fd:FuncData}{ps:List Str}(h:∀us:List Value,us.length=ps.length->bindArgs fd ⟨us,[]⟩=pure (ps.zip us)):Binds K fd ps []:=λs us _ hl=>by
 rw [append_nil] at hl⊢
 exact .of_eq (h us hl)
def ic(CX:CXT)(X:Cx)(E:XK):Prop:=∀(pins:List (Addr×Obj)) (σ:St) (H:Hp) (s:Shared) (e:Value) (s':Shared),Inv X pins σ H s->CX X.stack H s E e s'->X.xe e s'
section
variable{X:Cx}{CX:CXT}{k:Nat}{f C:Addr}{fd:FuncData}{ps:List Str}{sp:Sp}{dvs:List V}{ds:List Value}{E:XK}{x m:Str}{p pos apos:Pos}{e o:Expr}{es:List Expr}{ta:TE}{t:TA}
theorem ul{pins:List (Addr×Obj)}{σ:St}{H:Hp}{s:Shared}{Q:VK}{us:List Value}{vs:List V}(F:fP X.prog X.w X.K X.mg X.base CX k f fd ps sp)(hr:Room k X.A)(hb:Binds X.K fd ps ds)(hd:Vals dvs ds)(hx:ic CX X E)
 (I:Inv X pins σ H s) (r:Vals vs us) (h:sp (vs++dvs) H Q E):wpAny (model X.prog X.w) X.A (call (.ref f) us) (EP X pins σ Q) X.xe s:=by
 have r2:Vals (vs++dvs) (us++ds):=r.append hd
 have hl:(us++ds).length=ps.length:=by rw [<-r2.length];exact F.len _ _ _ _ h
 refine wpAny_call (codeAny_mono (F.run X.A X.stack s H ⟨us,[]⟩ (us++ds) (vs++dvs) Q E hr I.env0 (hb s us I.kIn hl) r2 h) λr s' hq=>?_)
 cases r with
 | error e=>exact hx pins σ H s e s' I hq
 | ok fl=>
  cases fl with
  | ret u=>exact I.after hq
  | next=>exact False.elim hq
  | brk=>exact False.elim hq
  | cont=>exact False.elim hq
theorem rf(F:fP X.prog X.w X.K X.mg X.base CX k f fd ps sp)(hr:Room k X.A)(hg:Gl X x)(hm:X.mg x=some (.ref f))(hk:PySem.W.keepIn X.K (.ref f)=true)(hb:Binds X.K fd ps ds)(hd:Vals dvs ds)(hx:ic CX X E)
 (ha:PA X (e::es) t) (hdb:(x==("__debug__":Str))=false:=by decide) (he:starEach (e::es) X.env=(false,eval e X.env)::starEach es X.env:=by rfl) (hpl:(backTo pos (starEach es X.env)).any (·.1)=false:=by rfl):
 PE X (.Call (.Name x p) (e::es) [] pos) (xp sp dvs E t):=by
 intro pins s σ H Q I h
 refine wpAny_Call_Name_kw (gX I hg hm ?_ hdb)
 refine callWith_K (h₀:=X.base) I.ok.mod.kin hk (thn (ha pos pins s σ H _ I h) λus s1 ⟨vs,H1,I1,r,q⟩=>⟨I1.kIn,?_⟩) he hpl
 exact ul F hr hb hd hx I1 r q
theorem wa(F:fP X.prog X.w X.K X.mg X.base CX k f fd ps sp)(hr:Room k X.A)(hg:Gl X x)(hm:X.mg x=some (.ref f))(hk:PySem.W.keepIn X.K (.ref f)=true)(hb:Binds X.K fd ps ds)(hd:Vals dvs ds)(hx:ic CX X E)
 (hdb:(x==("__debug__":Str))=false:=by decide):PE X (.Call (.Name x p) [] [] pos) (xp sp dvs E jH):=by
 intro pins s σ H Q I h
 refine wpAny_Call_Name_kw (gX I hg hm ?_ hdb)
 exact PySem.W.callWith_K0 I.kIn hk (ul (us:=[]) F hr hb hd hx I .nil h)
structure Mk(K:PySem.W.Frag)(C f:Addr):Prop where
 makes:PySem.W.makesIn K C=true
 init:PySem.W.findIn K (.ref C) "__init__" =some (some (.ref f))
 fn:PySem.W.isFn K (.ref f)=true
 kp:PySem.W.keepIn K (.ref C)=true
end
section
variable{X:Cx}{CX:CXT}{k:Nat}{f C:Addr}{fd:FuncData}{ps ks:List Str}{sp:Sp}{E:XK}{x m:Str}{p pos apos kpos:Pos}{e o:Expr}{es:List Expr}{kws:List Keyword}{te ta:TE}{t tk:TA}{nm:Option Str}
structure KBinds(K:PySem.W.Frag)(fd:FuncData)(ps ks:List Str)(g:List Value->List Value->List Value)(gV:List V->List V->List V):Prop where
 to:∀(s:Shared) (us ws:List Value),K.In s.heap->(g us ws).length=ps.length->BindsTo s fd ⟨us,ks.zip ws⟩ (ps.zip (g us ws))
 rel:∀{vs:List V} {us:List Value} {zs:List V} {ws:List Value},Vals vs us->Vals zs ws->Vals (gV vs zs) (g us ws)
variable{g:List Value->List Value->List Value}{gV:List V->List V->List V}
end
structure aC(N P:List Str)(sc:Scope):Prop where
 kind:sc.kind= .function
 co:sc.isCoroutine=false
 gen:sc.isGenerator=false
 nd:N.Nodup
 pre:N.take P.length=P
 par:∀x∈P,sc.names.lookup x=some .local\/sc.names.lookup x=some .cell
 nofree:∀y∈sc.names,y.2≠.free
theorem ny{kindOf:Str->Option NameKind}{x:Str}:∀{binds:List (Str×Value)} {m:Str->Option Value},(∀v,(x,v)∉binds)->bindL kindOf binds m x=m x
 | [],_,_=>rfl
 | (n,v)::r,m,h=>by
  unfold bindL
  rw [ny λw hw=>h w (mem_cons_of_mem _ hw)]
  split
  ·have:x≠n:=by rintro rfl;exact h v mem_cons_self
   simp [this]
  ·rfl
theorem nB{kindOf:Str->Option NameKind}{x:Str}:∀{binds:List (Str×Value)} {m:Str->Option Value},(∀v,(x,v)∉binds)->bindC kindOf binds m x=m x
 | [],_,_=>rfl
 | (n,v)::r,m,h=>by
  unfold bindC
  rw [nB λw hw=>h w (mem_cons_of_mem _ hw)]
  split
  ·rfl
  ·have:x≠n:=by rintro rfl;exact h v mem_cons_self
   simp [this]
theorem nD{kindOf:Str->Option NameKind}{x:Str}{v:Value}:∀{P:List Str} {vs:List Value} {i:Nat} {m:Str->Option Value},P.Nodup->P[i]? =some x->vs[i]? =some v->kindOf x=some .local->
 bindL kindOf (P.zip vs) m x=some v
 | [],_,_,_,_,h,_,_=>by simp at h
 | _::_,[],_,_,_,_,h,_=>by simp at h
 | p::P,w::vs,0,m,nd,h1,h2,hk=>by
  simp at h1 h2;subst h1;subst h2
  show bindL kindOf ((p,w)::P.zip vs) m p=_
  unfold bindL
  rw [ny λv hv=>(List.nodup_cons.mp nd).1 (of_mem_zip hv).1,if_pos hk]
  simp
 | p::P,w::vs,i+1,m,nd,h1,h2,hk=>by
  show bindL kindOf ((p,w)::P.zip vs) m x=_
  unfold bindL
  exact nD (i:=i) (List.nodup_cons.mp nd).2 (by simpa using h1) (by simpa using h2) hk
theorem nE{kindOf:Str->Option NameKind}{x:Str}{v:Value}:∀{P:List Str} {vs:List Value} {i:Nat} {m:Str->Option Value},P.Nodup->P[i]? =some x->vs[i]? =some v->kindOf x≠some .local->
 bindC kindOf (P.zip vs) m x=some v
 | [],_,_,_,_,h,_,_=>by simp at h
 | _::_,[],_,_,_,_,h,_=>by simp at h
 | p::P,w::vs,0,m,nd,h1,h2,hk=>by
  simp at h1 h2;subst h1;subst h2
  show bindC kindOf ((p,w)::P.zip vs) m p=_
  unfold bindC
  rw [nB λv hv=>(List.nodup_cons.mp nd).1 (of_mem_zip hv).1,if_neg hk]
  simp
 | p::P,w::vs,i+1,m,nd,h1,h2,hk=>by
  show bindC kindOf ((p,w)::P.zip vs) m x=_
  unfold bindC
  exact nE (i:=i) (List.nodup_cons.mp nd).2 (by simpa using h1) (by simpa using h2) hk
def start(N:List Str)(vs:List V):St:=vs.map some++replicate (N.length-vs.length) none
def bX(CX:CXT)(P:Program)(w:World)(K:PySem.W.Frag)(mg:Str->Option Value)(base:Heap)(N:List Str)(qual:Str)(scope:Scope)(f:Addr)(cd:Value)(A:Around)(outer:List Env)(s:Shared)(H:Hp)(E:XK):Cx where
 prog:=P
 w:=w
 K:=K
 mg:=mg
 base:=base
 A:=A.deeper (envOfC qual scope s.heap.objs.size f cd)
 N:=N
 s₀:=s
 H₀:=H
 env:=envOfC qual scope s.heap.objs.size f cd
 outer:=outer
 stack:=envOfC qual scope s.heap.objs.size f cd::outer
 ex:=[]
 calm:=true
 fn:=λ_=>true
 pn:=[]
 xe:=λe s'=>wpAny (model P w) (A.deeper (envOfC qual scope s.heap.objs.size f cd)) (leaving (envOfC qual scope s.heap.objs.size f cd) e) (λ_ s''=>CX outer H s E e s'') (λe' s''=>CX outer H s E e' s'') s'
theorem oU{sc:Scope}{n:Nat}{x:Str}(h:sc.names.lookup x=some .cell):∃c,(cellsFrom n sc.names []).lookup x=some c:=by
 have q:=cellsFrom_some sc.names n [] (.inl h)
 exact Option.isSome_iff_exists.mp q
theorem um{CX:CXT}{P:Program}{w:World}{K:PySem.W.Frag}{mg:Str->Option Value}{base:Heap}{N ps:List Str}{qual:Str}{scope:Scope}{f:Addr}{cd:Value}{A:Around}{outer:List Env}{s s1:Shared}{H:Hp}{E:XK}{us:List Value}{vs:List V}
 (S:aC N ps scope) (hd:A.handled=none) (e0:sD P w K mg base A outer s H) (hl:vs.length=ps.length) (r:Vals vs us)
 (x:InCallC s s.heap.objs.size (bindL (envOfC qual scope s.heap.objs.size f cd).kindOf (ps.zip us) λ_=>none) (cellsFrom (s.heap.objs.size+1) scope.names []) (bindC (envOfC qual scope s.heap.objs.size f cd).kindOf (ps.zip us) λ_=>none) s1):
 Inv (bX CX P w K mg base N qual scope f cd A outer s H E) [] (start N vs) H s1:=by
 have hpl:ps.length<=N.length:=by have:=congrArg List.length S.pre;rw [length_take] at this;lia
 obtain⟨h1,tk,rfl,hk⟩:=x.done
 have noA:∀b:Addr,b∉(bX CX P w K mg base N qual scope f cd A outer s H E).ex:=λb z=>absurd (show b∈([]:List Addr) from z) (by simp)
 refine⟨⟨e0.mod,S.kind,rfl,rfl,le_refl _,λy z c h1 h2=>?_,λy hy=>?_,λy c _ h=>?_,λ_=>hd,Around.frames_deeper e0.frames,.inr ⟨rfl,rfl⟩,λb z=>absurd z (noA b),e0.bs,e0.bsz,λb _ _=>noA b,λb z=>absurd z (noA b),e0.funs,e0.frf⟩,
  rfl,e0.bare,Un.kept hk,⟨_,x.toInCall.ns,λi y v h1 h2 h3=>?_⟩,λy c h=>⟨_,x.cell y c h⟩,e0.hok.fresh (le_refl _),λy c h=>?_,λp hp=>absurd (show p∈([]:List (Addr×Obj)) from hp) (by simp),e0.hok.kept hk,?_⟩
 ·exact name_of_addr x.apart (PySem.mem_of_lookup h1) (PySem.mem_of_lookup h2)
 ·have hy:scope.names.lookup y=some .cell\/scope.names.lookup y=some .free:=hy
  rcases hy with hy | hy
  ·exact oU hy
  ·exact absurd rfl (S.nofree _ (PySem.mem_of_lookup hy))
 ·exact le_of_lt (x.above y c (PySem.mem_of_lookup h))
 ·have hi:i<vs.length:=by
   unfold start at h2
   by_cases hi:i<vs.length
   ·exact hi
   ·rw [getElem?_append_right (by simpa using hi)] at h2
    rw [List.getElem?_replicate] at h2
    split at h2<;>cases h2
  have ha:vs[i]? =some v:=by
   unfold start at h2
   rw [List.getElem?_append_left (by simpa using hi),getElem?_map] at h2
   cases e:vs[i]? with
   | none=>rw [e] at h2;cases h2
   | some a=>rw [e] at h2;cases h2;rfl
  obtain⟨u,hu,rv⟩:=r.get ha
  have hp:ps[i]? =some y:=by
   rw [<-S.pre,List.getElem?_take_of_lt (by lia)];exact h1
  have ndP:ps.Nodup:=by rw [<-S.pre];exact S.nd.sublist (List.take_sublist _ _)
  refine⟨u,rv,?_⟩
  rcases S.par y (mem_of_getElem? hp) with k | k
  ·exact .inl ⟨k,nD ndP hp hu k⟩
  ·obtain⟨c,e⟩:=oU (n:=s.heap.objs.size+1) k
   refine .inr ⟨.inl k,c,e,?_⟩
   have q:=x.cell y c e
   rw [nE ndP hp hu (by show scope.names.lookup y≠_;rw [k];decide)] at q
   exact q
 ·exact e0.hok.fresh (le_of_lt (x.above y c (PySem.mem_of_lookup h)))
 ·unfold start
  show _=N.length
  rw [length_append,length_map,length_replicate]
  lia
theorem ow{CX:CXT}{P:Program}{w:World}{K:PySem.W.Frag}{mg:Str->Option Value}{base:Heap}{k:Nat}{f:Addr}{name qual:Str}{params:Arguments}{body:List Stmt}{scope:Scope}{dV kV doc pm cdv ct oc:Value}{an od:Option Addr}
 {osl:Array (Option Value)} {N ps:List Str} {sp:Sp} (lk:K.lookup f=some ⟨oc,od,.func (PySem.W.fnOf name qual params body scope dV kV doc pm an cdv ct),osl⟩) (hcd:PySem.W.codeIn K cdv qual=true) (S:aC N ps scope)
 (len:∀vs H Q E,sp vs H Q E->vs.length=ps.length)
 (hbody:∀(A:Around) (outer:List Env) (s:Shared) (H:Hp) (vs:List V) (Q:VK) (E:XK),Room k (A.deeper (envOfC qual scope s.heap.objs.size f cdv))->sp vs H Q E->
  ∃t,PSs (bX CX P w K mg base N qual scope f cdv A outer s H E) body t/\t {nx:=λ_ H'=>Q .non H',rt:=Q} (start N vs) H):
 fP P w K mg base CX (k+1) f (PySem.W.fnOf name qual params body scope dV kV doc pm an cdv ct) ps sp:=by
 refine⟨len,λA outer s H args us vs Q E hr e0 hb r hsp=>?_⟩
 have hl:=len _ _ _ _ hsp
 have KX:K.In s.heap:=e0.mod.kin.keeps λb o e=>(e0.bs b o e).1
 have lim:s.heap.NoLimit:=e0.mod.nolimit.keeps λb o e=>(e0.bs b o e).1
 have hkind:∀y∈ps.zip us,scope.names.lookup y.1=some .local\/(scope.names.lookup y.1=some .cell/\((cellsFrom (s.heap.objs.size+1) scope.names []).lookup y.1).isSome=true):=λ⟨n,v⟩ hy=>by
  rcases S.par n (of_mem_zip hy).1 with q | q
  ·exact .inl q
  ·exact .inr ⟨q,cellsFrom_some _ _ _ (.inl q)⟩
 refine codeAny_call_function hr.depth (KX _ _ lk) rfl S.co S.gen rfl (PySem.W.codeRec_of KX hcd) (hb _ _ _ _ ?_)
 refine wpAny_newFunctionEnv_cells S.kind hkind λenv he s1 x=>?_
 subst he
 refine⟨lim.keeps x.toInCall.keep,codeAny_func ?_⟩
 obtain⟨t,ht,hq⟩:=hbody A outer s H vs Q E (hr.deeper _) hsp
 have I:Inv (bX CX P w K mg base N qual scope f cdv A outer s H E) [] (start N vs) H s1:=um S hr.hd e0 hl r x
 refine wpAny_mono (ht [] s1 (start N vs) H _ I hq) (λfl s' hs=>?_) λe s' hs=>hs
 have fin:∀{σ':St} {H':Hp} {v:V} {u:Value},Inv (bX CX P w K mg base N qual scope f cdv A outer s H E) [] σ' H' s'->RelV v u->Q v H'->CE outer P w H s Q u s':=
  λ{σ' H' v u} J rv q=>⟨v,H',J.os,J.bare,J.base,J.hok,rv,q⟩
 cases fl with
 | ret u=>
  obtain⟨v,σ',H',J,rv,q⟩:=hs
  exact fin J rv q
 | next=>
  obtain⟨σ',H',J,q⟩:=hs
  exact fin (v:=V.non) (u:=Value.none) J rfl q
 | brk=>
  obtain⟨_,_,_,q⟩:=hs
  exact False.elim q
 | cont=>
  obtain⟨_,_,_,q⟩:=hs
  exact False.elim q
section
variable{X:Cx}{x:Str}{p pos:Pos}{e:Expr}{es:List Expr}{t:TA}{id T:String}{r:List V->Hp->VK->Prop}
def tCB(r:List V->Hp->VK->Prop)(t:TA):TE:=λσ H Q=>t σ H λvs H1=>r vs H1 Q
theorem wc(hc:cy X (.builtin id) r)(hg:Gl X x)(hm:X.mg x=none)(hv:bootBuiltins x=some (.builtin id))(ha:PA X (e::es) t)(hn:x≠"__name__":=by decide)(hdb:(x==("__debug__":Str))=false:=by decide)
 (he:starEach (e::es) X.env=(false,eval e X.env)::starEach es X.env:=by rfl) (hpl:(backTo pos (starEach es X.env)).any (·.1)=false:=by rfl):PE X (.Call (.Name x p) (e::es) [] pos) (tCB r t):=by
 intro pins s σ H Q I h
 refine wpAny_Call_Name_kw (gD I hg hm hv ?_ hn hdb)
 exact PyProof.Rows.callWith_builtin1 (thn (ha pos pins s σ H _ I h) λus s1 ⟨vs,H1,I1,r1,q1⟩=>hc pins s1 σ H1 vs us Q I1 r1 q1) he hpl
theorem uo(hc:cy X (.type T) r)(hg:Gl X x)(hm:X.mg x=none)(hv:bootBuiltins x=some (.type T))(ha:PA X (e::es) t)(hn:x≠"__name__":=by decide)(hdb:(x==("__debug__":Str))=false:=by decide)
 (he:starEach (e::es) X.env=(false,eval e X.env)::starEach es X.env:=by rfl) (hpl:(backTo pos (starEach es X.env)).any (·.1)=false:=by rfl):PE X (.Call (.Name x p) (e::es) [] pos) (tCB r t):=by
 intro pins s σ H Q I h
 refine wpAny_Call_Name_kw (gD I hg hm hv ?_ hn hdb)
 exact PyProof.Rows.callWith_type1 (thn (ha pos pins s σ H _ I h) λus s1 ⟨vs,H1,I1,r1,q1⟩=>hc pins s1 σ H1 vs us Q I1 r1 q1) he hpl
end
end L2
namespace HT
open PySem PyProof.Rows
def CK:List Int->List Int->Bool
 | [],[]=>false
 | [],_::_=>true
 | _::_,[]=>false
 | x::xs,y::ys=>if x=y then CK xs ys else decide (x<y)
section
open PySem.SeqAt
open PySem.AutoSeq1 (wpAny_loadPart')
open PySem.MeetsSeq PySem.MeetsSeq2 PySem.MeetsSeq3
end
section
variable{prog:Program}{w:World}{A:Around}{E:Value->Shared->Prop}{s:Shared}
theorem xX{t b:Addr}{vs ws:List Value}{Q:Value->Shared->Prop}(ht:IsTup s.heap t vs.toArray)(hb:IsTup s.heap b ws.toArray)(hv:vs≠[])
 (h1:ws= []->Q (.ref t) s) (h2:ws≠[]->Q (.ref s.heap.objs.size) {s with heap:=s.heap.push {cls:=.type "tuple",data:=.seq (vs++ws).toArray}})
 (hsz:vs.length+ws.length<=sizeLine):wpAny (model prog w) A (binaryOp .Add (.ref t) (.ref b)) Q E s:=by
 obtain⟨⟨cls,dd,data,sl⟩,ho,hc,n,hd⟩:=id ht
 obtain⟨⟨cls2,dd2,data2,sl2⟩,ho2,hc2,n2,hd2⟩:=id hb
 simp only at hc hd hc2 hd2
 subst hc hd hc2 hd2
 have e:vs.toArray++ws.toArray=(vs++ws).toArray:=by simp
 by_cases hw:ws= []
 ·exact concat_meets ⟨_,ho,rfl⟩ ⟨_,ho2,rfl⟩ noFill_tuple_add seq_tuple_add PySem.F.slot_tuple_add PySem.F.entry_tuple_add (PySem.F.args_tuple_add_2 _ _)
   (tuple_addW1 t b vs.toArray ws.toArray n n2 dd dd2 sl sl2 (by simpa using hv) (by simp [hw])) ⟨ho,ho2,h1 hw⟩
 ·refine concat_meets ⟨_,ho,rfl⟩ ⟨_,ho2,rfl⟩ noFill_tuple_add seq_tuple_add PySem.F.slot_tuple_add PySem.F.entry_tuple_add (PySem.F.args_tuple_add_2 _ _)
   (tuple_addW2 t b vs.toArray ws.toArray n n2 dd dd2 sl sl2 (by simpa using hv) (by simpa using hw) (by rw [size_toArray,size_toArray];exact hsz)) ⟨ho,ho2,?_⟩
  rw [e]
  exact h2 hw
def sIx(n d:Nat):Option Int->Nat
 | none=>d
 | some v=>if v<0 then (v+(n:Int)).toNat else min v.toNat n
theorem kZ(n d:Nat):sIx n d none=d:=rfl
theorem mE(n d k:Nat):sIx n d (some (k:Int))=min k n:=by
 show(if (k:Int)<0 then ((k:Int)+(n:Int)).toNat else min (k:Int).toNat n)=min k n
 rw [if_neg (by lia),toNat_natCast]
theorem zP(n d:Nat)(hd:d<=n)(o:Option Int):sIx n d o<=n:=by
 cases o with
 | none=>exact hd
 | some v=>
  show(if v<0 then (v+(n:Int)).toNat else min v.toNat n)<=n
  by_cases hv:v<0
  ·rw [if_pos hv];lia
  ·rw [if_neg hv];exact Nat.min_le_right _ _
theorem rj(v:Int)(n d:Nat):(if v<0 then max (v+(n:Int)) 0 else min v (n:Int))=((sIx n d (some v):Nat):Int):=by
 show(if v<0 then max (v+(n:Int)) 0 else min v (n:Int))=(((if v<0 then (v+(n:Int)).toNat else min v.toNat n):Nat):Int)
 by_cases hv:v<0
 ·simp only [if_pos hv];lia
 ·simp only [if_neg hv];lia
theorem sE(lo hi:Option Int)(n:Nat):Builtin.Slice.sliceAdjust lo hi 1 (n:Int)=(((sIx n 0 lo:Nat):Int),((sIx n n hi:Nat):Int)):=by
 have h1:¬((1:Int)<0):=by lia
 unfold Builtin.Slice.sliceAdjust
 simp only [h1,if_false]
 refine Prod.ext ?_ ?_
 ·cases lo with
  | none=>rfl
  | some v=>exact rj v n 0
 ·cases hi with
  | none=>rfl
  | some v=>exact rj v n n
theorem sG(i j:Nat):Builtin.Slice.slicePlaces (i:Int) (j:Int) 1=j-i:=by
 unfold Builtin.Slice.slicePlaces
 have h1:(1:Int)>0:=by lia
 simp only [h1,if_true,Int.ediv_one]
 split<;>lia
theorem lO{v:Value}{o:Option Int}{Q:Option Int->Shared->Prop}(p:IsPart v o)(h:Q o s):wpAny (model prog w) A (Builtin.Slice.slicePartIndex v) Q E s:=by
 cases p with
 | none=>exact slicePart_none h
 | int i t=>exact slicePart_int h
theorem k7{sl:Addr}{vl vu:Value}{lo hi:Option Int}{n:Nat}{Q:Int×Int×Nat->Shared->Prop}(hs:s.heap.IsSliceOf sl vl vu .none)(pl:IsPart vl lo)(pu:IsPart vu hi)
 (h:Q (((sIx n 0 lo:Nat):Int),1,sIx n n hi-sIx n 0 lo) s):wpAny (model prog w) A (Builtin.Slice.sliceApplied (.ref sl) (pure (n:Int))) Q E s:=by
 obtain⟨os,hos,hcs,hds⟩:=id hs
 unfold Builtin.Slice.sliceApplied Builtin.Slice.sliceFields
 refine wpAny_bind (wpAny_bind (wpAny_field hos hds (x:=vl) rfl (wpAny_bind (wpAny_field hos hds (x:=vu) rfl (wpAny_bind (wpAny_field hos hds (x:=.none) rfl (wpAny_pure ?_)))))))
 refine wpAny_bind (slicePart_none ?_)
 show wpAny _ _ (if ((1:Int)==0)=true then _ else _) _ _ s
 rw [if_neg (by decide)]
 refine wpAny_bind (lO pl (wpAny_bind (lO pu (wpAny_bind (wpAny_pure ?_)))))
 show wpAny _ _ (match Builtin.Slice.sliceAdjust lo hi 1 (n:Int) with | (lo,hi)=>pure (lo,(1:Int),Builtin.Slice.slicePlaces lo hi 1)) _ _ s
 rw [sE lo hi n]
 show wpAny _ _ (pure (((sIx n 0 lo:Nat):Int),(1:Int),Builtin.Slice.slicePlaces ((sIx n 0 lo:Nat):Int) ((sIx n n hi:Nat):Int) 1)) _ _ s
 rw [sG]
 exact wpAny_pure h
theorem we(xs:Array Value)(i k:Nat):((List.range k).filterMap λ(m:Nat)=>xs[((i:Int)+(m:Int)*1).toNat]?).toArray=((xs.toList.drop i).take k).toArray:=by
 have e:(λ(m:Nat)=>xs[((i:Int)+(m:Int)*1).toNat]?)=λm=>xs[i+m]?:=by
  funext m
  have:((i:Int)+(m:Int)*1).toNat=i+m:=by lia
  rw [this]
 rw [e]
 have:=pick_run xs i k
 rw [List.filterMap_map] at this
 have e2:((λx=>xs[x]?)∘λx=>i+x)=λm=>xs[i+m]?:=rfl
 rw [e2] at this
 rw [this]
theorem kO{t sl:Addr}{items:Array Value}{vl vu:Value}{lo hi:Option Int}{Q:Value->Shared->Prop}(ht:IsTup s.heap t items)(hs:s.heap.IsSliceOf sl vl vu .none)(pl:IsPart vl lo)(pu:IsPart vu hi)
 (hw:¬(sIx items.size 0 lo=0/\sIx items.size items.size hi=items.size))
 (h:Q (.ref s.heap.objs.size) {s with heap:=s.heap.push {cls:=.type "tuple",data:=.seq ((items.toList.drop (sIx items.size 0 lo)).take (sIx items.size items.size hi-sIx items.size 0 lo)).toArray}})
 (hsz:items.size<=sizeLine):wpAny (model prog w) A (getItem (.ref t) (.ref sl)) Q E s:=by
 have htake:sizeOk (.seq ((items.toList.drop (sIx items.size 0 lo)).take (sIx items.size items.size hi-sIx items.size 0 lo)).toArray):=by
  show((items.toList.drop (sIx items.size 0 lo)).take (sIx items.size items.size hi-sIx items.size 0 lo)).toArray.size<=sizeLine
  rw [size_toArray,length_take,length_drop,Array.length_toList]
  lia
 have hj:sIx items.size items.size hi<=items.size:=zP _ _ (le_refl _) hi
 obtain⟨os,hos,hcs,hds⟩:=id hs
 have hTs:s.TypeIs (.ref sl) "slice":=⟨os,hos,hcs⟩
 unfold getItem
 try with_reducible refine wpAny_holding ?_
 first | refine wpAny_bind (wpAny_pure ?_) | skip
 refine wpAny_bind (wpAny_sequenceKey ht.typeIs (by decide) ?_)
 refine wpAny_bind (wpAny_callSpecial?_slot (name:=Str.ofString "__getitem__") ht.typeIs PyProof.Rows.slot_tuple_getitem
  (wpAny_call_entry PyProof.Rows.slot_tuple_getitem ht.typeIs entry_tuple_getitem ?_ (args_tuple_getitem _ _)))
 show wpAny _ _ (Builtin.Tuple.tupleItemsOf (.ref t) >>= _) _ _ s
 refine wpAny_bind (tupleItemsOf_ ht ?_)
 refine wpAny_bind (wpAny_typeOf hTs ?_)
 rw [if_pos (by decide)]
 refine wpAny_bind (k7 hs pl pu ?_)
 have hno:¬((((sIx items.size 0 lo:Nat):Int)==0&&(1:Int)==1&&(sIx items.size items.size hi-sIx items.size 0 lo)==items.size)=true):=by
  intro q
  rw [and_eq_true,and_eq_true] at q
  have q1:((sIx items.size 0 lo:Nat):Int)=0:=eq_of_beq q.1.1
  have q2:sIx items.size items.size hi-sIx items.size 0 lo=items.size:=eq_of_beq q.2
  exact hw ⟨by lia,by lia⟩
 show wpAny _ _ (if (((sIx items.size 0 lo:Nat):Int)==0&&(1:Int)==1&&(sIx items.size items.size hi-sIx items.size 0 lo)==items.size)=true then _ else _) _ _ s
 rw [if_neg hno,we]
 first
  | exact wpAny_bind (m:=Builtin.Tuple.tupleExact _) (wpAny_newObj_type (wpAny_pure ⟨_,rfl,wpAny_pure h⟩) htake)
  | exact wpAny_bind (m:=Builtin.Tuple.tupleExact _) (wpAny_newObj_type (wpAny_bind (wpAny_pure (wpAny_pure ⟨_,rfl,wpAny_pure h⟩))) htake)
  | exact wpAny_bind (wpAny_bind (m:=Builtin.Tuple.tupleExact _) (wpAny_newObj_type (wpAny_pure (wpAny_pure ⟨_,rfl,wpAny_pure h⟩)) htake))
  | exact wpAny_bind (wpAny_bind (m:=Builtin.Tuple.tupleExact _) (wpAny_newObj_type (wpAny_pure ⟨_,rfl,wpAny_pure h⟩) htake))
end
end HT
namespace L2
open PySem PySem.Spec PyProof.Rows
abbrev TO:=St->Hp->(Option Int->Hp->Prop)->Prop
def PO(X:Cx)(e:Option Expr)(t:TO):Prop:=
 ∀(pins:List (Addr×Obj)) (s:Shared) (σ:St) (H:Hp) (Q:Option Int->Hp->Prop),Inv X pins σ H s->t σ H Q->
  wpAny (model X.prog X.w) X.A (evalPart e X.env) (λu s'=>∃o H',Inv X pins σ H' s'/\IsPart u o/\Q o H') X.xe s
def kE:TO:=λ_ H Q=>Q none H
def oy(t:TE):TO:=λσ H Q=>t σ H λx H1=>∃i,x= .int i/\Q (some i) H1
section
variable{X:Cx}{e:Expr}{te:TE}{lo hi:Option Expr}{tl th:TO}{pos p2:Pos}
theorem bz:PO X none kE:=by
 intro pins s σ H Q I h
 rw [evalPart_none]
 exact wpAny_pure ⟨none,H,I,.none,h⟩
theorem bA(h:PE X e te):PO X (some e) (oy te):=by
 intro pins s σ H Q I hw
 rw [evalPart_some]
 refine thn (h pins s σ H _ I hw) λu s1 ⟨x,H1,I1,r1,q1⟩=>?_
 obtain⟨i,rfl,q⟩:=q1
 obtain⟨t,rfl⟩:=r1
 exact⟨some i,H1,I1,.int i t,q⟩
def SlR(X:Cx)(r:V->Option Int->Option Int->Hp->VK->Prop):Prop:=
 ∀(pins:List (Addr×Obj)) (s:Shared) (σ:St) (H:Hp) (x:V) (v vl vu:Value) (lo hi:Option Int) (sl:Addr) (Q:VK),Inv X pins σ H s->RelV x v->s.heap.IsSliceOf sl vl vu .none->IsPart vl lo->IsPart vu hi->r x lo hi H Q->
  ∃T id,typeLookup (.type T) "__getitem__" =pure (some (.builtin id))/\s.TypeIs v T/\wpAny (model X.prog X.w) X.A (getItem v (.ref sl)) (EP X pins σ Q) X.xe s
def tSl(r:V->Option Int->Option Int->Hp->VK->Prop)(te:TE)(tl th:TO):TE:=λσ H Q=>te σ H λx H1=>tl σ H1 λl H2=>th σ H2 λu H3=>r x l u H3 Q
theorem bg{r:V->Option Int->Option Int->Hp->VK->Prop}(hr:SlR X r)(he:PE X e te)(hl:PO X lo tl)(hu:PO X hi th):PE X (.Subscript e (.Slice lo hi none p2) pos) (tSl r te tl th):=by
 intro pins s σ H Q I h
 refine Subscript_ (thn (he pins s σ H _ I h) λv s1 ⟨x,H1,I1,r1,q1⟩=>?_)
 refine wpAny_Slice (thn (hl pins s1 σ H1 _ I1 q1) λvl s2 ⟨l,H2,I2,pl,q2⟩=>thn (hu pins s2 σ H2 _ I2 q2) λvu s3 ⟨u,H3,I3,pu,q3⟩=>?_)
 rw [evalPart_none]
 refine wpAny_pure ?_
 have I4:Inv X pins σ H3 {s3 with heap:=s3.heap.push {cls:=.type "slice",data:=.fields #[vl,vu,.none]}}:=I3.kept (t':=s3.toks) λb ob q=>get?_push_of_some _ q
 obtain⟨T,id,hT,ht,hg⟩:=hr pins {s3 with heap:=s3.heap.push {cls:=.type "slice",data:=.fields #[vl,vu,.none]}} σ H3 x v vl vu l u s3.heap.objs.size Q I4 r1 (Heap.IsSliceOf.new ..) pl pu q3
 show wpAny (model X.prog X.w) X.A (subscriptTail e (.Slice lo hi none p2) v (.ref s3.heap.objs.size)) (EP X pins σ Q) X.xe {s3 with heap:=s3.heap.push {cls:=.type "slice",data:=.fields #[vl,vu,.none]}}
 exact tail_any (ops:=[.ref s3.heap.objs.size,v]) ht hT hg (by with_unfolding_all rfl)
def cw(xs:List V)(lo hi:Option Int):List V:=(xs.drop (HT.sIx xs.length 0 lo)).take (HT.sIx xs.length xs.length hi-HT.sIx xs.length 0 lo)
theorem kP(xs:List V)(lo hi:Option Int):(cw xs lo hi).length<=xs.length:=by
 unfold cw
 rw [length_take,length_drop]
 lia
def DV(K:PySem.W.Frag):V->Option Int->Option Int->Hp->VK->Prop:=λx lo hi H Q=>∃a xs,x= .ref a/\SqT K H a xs/\
 ¬(HT.sIx xs.length 0 lo=0/\HT.sIx xs.length xs.length hi=xs.length)/\∀p,H p=none->Q (.ref p) (upd H p (.tup (cw xs lo hi)))
theorem zQ:SlR X (DV X.K):=by
 intro pins s σ H x v vl vu lo hi sl Q I rx hs pl pu h
 obtain⟨a,xs,rfl,hx,hw,q⟩:=h
 cases rx
 obtain⟨its,r,ht,hz⟩:=I.tuple hx
 have hlen:its.toArray.size=xs.length:=by rw [size_toArray];exact r.length.symm
 refine⟨"tuple",_,PyProof.Rows.slot_tuple_getitem.lookup,ht.typeIs,?_⟩
 refine HT.kO ht hs pl pu (by rw [hlen];exact hw) ?_ (by rw [hlen];exact hz)
 rw [hlen]
 refine⟨.ref s.heap.objs.size,_,I.laid (t':=s.toks) (o:=.tup (cw xs lo hi)) (λb ob q=>get?_push_of_some _ q) (le_refl _) ?_,rfl,q _ (I.hok.fresh (le_refl _))⟩
 exact⟨le_trans (kP xs lo hi) hz,_,(r.drop (HT.sIx xs.length 0 lo)).take (HT.sIx xs.length xs.length hi-HT.sIx xs.length 0 lo),IsTup.new _ _⟩
def CL(K:PySem.W.Frag):R2:=λx y H Q=>∃a b xs ys,x= .ref a/\y= .ref b/\SqT K H a xs/\SqT K H b ys/\xs≠[]/\xs.length+ys.length<=sizeLine/\
 (ys= []->Q (.ref a) H)/\(ys≠[]->∀p,H p=none->Q (.ref p) (upd H p (.tup (xs++ys))))
theorem Vals.nil_iff{xs:List V}{us:List Value}(r:Vals xs us):us= []↔xs= []:=by
 cases r with
 | nil=>simp
 | cons _ _=>simp
theorem mF:OpR X (binaryOp .Add) (CL X.K):=by
 intro pins s σ H x y v u Q I rx ry h
 obtain⟨a,b,xs,ys,rfl,rfl,ha,hb,hx,hz,q1,q2⟩:=h
 cases rx
 cases ry
 obtain⟨its,r1,p1,_⟩:=I.tuple ha
 obtain⟨its2,r2,p2,_⟩:=I.tuple hb
 refine HT.xX p1 p2 (λz=>hx (r1.nil_iff.mp z)) (λz=>⟨.ref a,H,I,rfl,q1 (r2.nil_iff.mp z)⟩) (λz=>?_) (by rw [<-r1.length,<-r2.length];exact hz)
 refine⟨.ref s.heap.objs.size,_,I.laid (t':=s.toks) (o:=.tup (xs++ys)) (λb ob q=>get?_push_of_some _ q) (le_refl _) ?_,rfl,q2 (λw=>z (r2.nil_iff.mpr w)) _ (I.hok.fresh (le_refl _))⟩
 exact⟨by rw [length_append];exact hz,_,r1.append r2,IsTup.new _ _⟩
end
def ixN(n:Nat)(i:Int):Option Nat:=if 0<=i then (if i<n then some i.toNat else none) else if -(n:Int)<=i then some (i+n).toNat else none
def atI{α:Type}(xs:List α)(i:Int):Option α:=(ixN xs.length i).bind λj=>xs[j]?
theorem rm{n:Nat}{i:Int}{j:Nat}(h:ixN n i=some j):seqIndex? i n=some j/\j<n/\ -(n:Int)<=i/\i<n:=by
 unfold ixN at h
 by_cases h0:0<=i
 ·rw [if_pos h0] at h
  by_cases h1:i<n
  ·rw [if_pos h1] at h
   have e:i.toNat=j:=Option.some.inj h
   exact⟨by rw [seqIndex_of h0 h1,e],by lia,by lia,h1⟩
  ·rw [if_neg h1] at h;cases h
 ·rw [if_neg h0] at h
  by_cases h1: -(n:Int)<=i
  ·rw [if_pos h1] at h
   have e:(i+n).toNat=j:=Option.some.inj h
   exact⟨by rw [seqIndex_neg (by lia) h1,e],by lia,h1,by lia⟩
  ·rw [if_neg h1] at h;cases h
theorem mG{α:Type}{xs:List α}{i:Int}{v:α}(h:atI xs i=some v):∃j,seqIndex? i xs.length=some j/\xs[j]? =some v/\j<xs.length/\ -(xs.length:Int)<=i/\i<xs.length:=by
 unfold atI at h
 cases e:ixN xs.length i with
 | none=>rw [e] at h;cases h
 | some j=>
  rw [e] at h
  obtain⟨h1,h2,h3,h4⟩:=rm e
  exact⟨j,h1,h,h2,h3,h4⟩
theorem bU{α:Type}{xs:List α}{j:Nat}{v:α}(h:xs[j]? =some v):atI xs (j:Int)=some v:=by
 have hj:j<xs.length:=(List.getElem?_eq_some_iff.mp h).1
 have e:ixN xs.length (j:Int)=some j:=by
  unfold ixN
  rw [if_pos (by lia),if_pos (by lia)];simp
 unfold atI;rw [e];exact h
theorem eX{α:Type}(xs:List α)(v:α):atI (xs++[v]) (-1)=some v:=by
 have hl:(xs++[v]).length=xs.length+1:=by simp
 have e:ixN (xs++[v]).length (-1)=some xs.length:=by
  unfold ixN
  rw [hl,if_neg (by decide),if_pos (by lia)]
  congr 1
  lia
 unfold atI
 rw [e]
 show(xs++[v])[xs.length]? =some v
 simp
def xY(b:Expr):Prop:=∀o i,subscripted b false o i=operate [o,i] (getItem o i)
def IxR(X:Cx)(r:R2):Prop:=
 ∀(value slice:Expr) (pins:List (Addr×Obj)) (s:Shared) (σ:St) (H:Hp) (x y:V) (v u:Value) (Q:VK),Inv X pins σ H s->RelV x v->RelV y u->r x y H Q->
  subscripted slice false v u=operate [v,u] (getItem v u)->wpAny (model X.prog X.w) X.A (subscriptTail value slice v u) (EP X pins σ Q) X.xe s
def MtR (X : Cx) (id : String) (r : V → List V → Hp → VK → Prop) : Prop :=
  ∀ (pins : List (Addr × Obj)) (s : Shared) (σ : St) (H : Hp) (x : V) (xs : List V) (v : Value) (us : List Value) (Q : VK), Inv X pins σ H s → RelV x v → Vals xs us → r x xs H Q →
    wpAny (model X.prog X.w) X.A (call (.builtin id) (v :: us)) (EP X pins σ Q) X.xe s
section
variable{X:Cx}{a b:Expr}{ta tb:TE}{pos:Pos}
theorem ao{r:R2}(hr:IxR X r)(ha:PE X a ta)(hb:PE X b tb)(hs:xY b):PE X (.Subscript a b pos) (tOp r ta tb):=by
 intro pins s σ H Q I h
 exact Subscript_ (vY ha hb I h λv u s2 x y H2 I2 rx ry q=>hr a b pins s2 σ H2 x y v u Q I2 rx ry q (hs _ _))
def zR(K:PySem.W.Frag):R2:=λx y H Q=>∃p xs i v,x= .ref p/\y= .int i/\SqL K H p xs/\atI xs i=some v/\Q v H
def DW(K:PySem.W.Frag):R2:=λx y H Q=>∃p xs i v,x= .ref p/\y= .int i/\SqT K H p xs/\atI xs i=some v/\Q v H
def zS:R2:=λx y H Q=>∃z i c,x= .str z/\y= .int i/\z.length<=sizeLine/\atI z.cps.toList i=some c/\Q (.str ⟨#[c]⟩) H
theorem rn:IxR X (zR X.K):=by
 intro value slice pins s σ H x y v u Q I rx ry h hs
 obtain⟨p,xs,i,z,rfl,rfl,hq,he,q⟩:=h
 cases rx
 obtain⟨t,rfl⟩:=ry
 obtain⟨its,r,pl,hz⟩:=I.list hq
 obtain⟨j,h1,h2,h3,h4,h5⟩:=mG he
 obtain⟨w,ew,rw'⟩:=r.get h2
 have hl:=r.length
 have hn:=ia
 have fin:EP X pins σ Q w s:=⟨z,H,I,rw',q⟩
 by_cases h0:0<=i
 ·have hj:i.toNat=j:=by
   rw [seqIndex_of h0 h5] at h1
   exact Option.some.inj h1
  exact item_listR pl.isList h0 (by lia) (by rw [hj];simpa using ew) fin hs
 ·have hj:(i+(its.toArray.size:Int)).toNat=j:=by
   rw [seqIndex_neg (by lia) h4] at h1
   rw [size_toArray,<-hl]
   exact Option.some.inj h1
  exact subscriptTail_builtinR (x:=w) pl.isList.typeIs slot_list_getitem.lookup
   (wpAny_getItem_list_neg (Q:=λr s'=>r=w/\EP X pins σ Q r s') pl.isList (by lia) (by rw [size_toArray]<;>lia) (by lia) (by rw [hj];simpa using ew) ⟨rfl,fin⟩) hs
theorem zT:IxR X (DW X.K):=by
 intro value slice pins s σ H x y v u Q I rx ry h hs
 obtain⟨p,xs,i,z,rfl,rfl,hq,he,q⟩:=h
 cases rx
 obtain⟨t,rfl⟩:=ry
 obtain⟨its,r,pl,hz⟩:=I.tuple hq
 obtain⟨j,h1,h2,h3,h4,h5⟩:=mG he
 obtain⟨w,ew,rw'⟩:=r.get h2
 have hl:=r.length
 have hn:=ia
 have fin:EP X pins σ Q w s:=⟨z,H,I,rw',q⟩
 exact subscriptTail_builtinR (x:=w) pl.typeIs slot_tuple_getitem.lookup
  (getItem_tuple (j:=j) (Q:=λr s'=>r=w/\EP X pins σ Q r s') pl (by lia) (by lia) (by rw [size_toArray,<-hl];exact h1) (by simpa using ew) ⟨rfl,fin⟩) hs
theorem jh:IxR X zS:=by
 intro value slice pins s σ H x y v u Q I rx ry h hs
 obtain⟨z,i,c,rfl,rfl,hz,he,q⟩:=h
 obtain⟨t,rfl⟩:=rx
 obtain⟨t',rfl⟩:=ry
 obtain⟨j,h1,h2,h3,h4,h5⟩:=mG he
 have hl:z.cps.toList.length=z.length:=by simp [Str.length]
 rw [hl] at h1 h4 h5
 have hn:=ia
 exact tail_any (typeIs_str s z t) slot_str_getitem.lookup (getItem_str (c:=c) (by
  have e1:decide (i< -(2^63:Int))=false:=decide_eq_false (by lia)
  have e2:decide (i>=2^63)=false:=decide_eq_false (by lia)
  rw [e1,e2,Bool.or_false]) (by rw [h1];simpa using h2) ⟨.str ⟨#[c]⟩,H,I.tok _,⟨_,rfl⟩,q⟩) hs
theorem sH(its:List Value)(n j:Nat)(u:Value):Obj.mapSeq (·.setIfInBounds j u) {cls:=.type "list",data:=.seq its.toArray n}={cls:=.type "list",data:=.seq (its.set j u).toArray n}:=by
 simp [Obj.mapSeq]
theorem Inv.lst{pins:List (Addr×Obj)}{σ:St}{H:Hp}{s:Shared}{p:Addr}{xs:List V}(I:Inv X pins σ H s)(h:H p=some (.lst xs)):
 ∃(its:List Value) (n:Nat),Vals xs its/\s.heap.get? p=some {cls:=.type "list",data:=.seq its.toArray n}/\xs.length<=sizeLine:=by
 obtain⟨z,its,n,r,e⟩:=I.hok p _ h
 exact⟨its,n,r,e,z⟩
theorem Inv.lstUpd{pins:List (Addr×Obj)}{σ:St}{H:Hp}{s:Shared}{p:Addr}{xs ys:List V}{its its':List Value}{n n':Nat}{f:Obj->Obj}(I:Inv X pins σ H s)(h:H p=some (.lst xs))
 (ho:s.heap.get? p=some {cls:=.type "list",data:=.seq its.toArray n}) (hf:f {cls:=.type "list",data:=.seq its.toArray n}={cls:=.type "list",data:=.seq its'.toArray n'}) (r:Vals ys its') (hz:ys.length<=sizeLine) (t:Nat):
 Inv X pins σ (upd H p (.lst ys)) {s with heap:=s.heap.update p f,toks:=t}:=by
 have e:(s.heap.update p f).get? p=some {cls:=.type "list",data:=.seq its'.toArray n'}:=by
  rw [get?_update_self f ho (by rw [hf]<;>rfl),hf]
 refine I.write (x:=p) (e:=p) (by rw [h];trivial) (.inl rfl) (λb u hb q=>(get?_update_other _ _ (Ne.symm hb)).trans q) ⟨_,e⟩ ?_
 exact⟨hz,its',n',r,e⟩
def CM:V->V->V->Hp->(Hp->Prop)->Prop:=λo i v H Q=>∃p xs k j,o= .ref p/\i= .int k/\H p=some (.lst xs)/\ixN xs.length k=some j/\Q (upd H p (.lst (xs.set j v)))
theorem wf:sk X CM:=by
 intro pins s σ H o i v ov iv u Q I ro ri rv h
 obtain⟨p,xs,k,j,rfl,rfl,hp,hj,q⟩:=h
 cases ro
 obtain⟨t,rfl⟩:=ri
 obtain⟨its,n,r,ho,hz⟩:=I.lst hp
 obtain⟨h1,h2,h3,h4⟩:=rm hj
 have hl:=r.length
 have hn:=ia
 have I':Inv X pins σ (upd H p (.lst (xs.set j v))) {s with heap:=s.heap.update p (Obj.mapSeq (·.setIfInBounds j u))}:=
  I.lstUpd hp ho (sH its n j u) (r.set rv j) (by rw [List.length_set];exact hz) s.toks
 by_cases h0:0<=k
 ·have hk:k.toNat=j:=by
   rw [seqIndex_of h0 h4] at h1
   exact Option.some.inj h1
  exact PySem.W.ki_setAt ho h0 (by lia) (by rw [size_toArray,<-hl];exact h4) (by rw [hk];exact⟨_,I',q⟩)
 ·have hk:(k+(its.toArray.size:Int)).toNat=j:=by
   rw [seqIndex_neg (by lia) h3] at h1
   rw [size_toArray,<-hl]
   exact Option.some.inj h1
  exact PySem.W.ki_setBack ho (by lia) (by rw [size_toArray,<-hl];exact h3) (by lia) (by rw [hk];exact⟨_,I',q⟩)
theorem oV(lo hi:Option Int)(n:Nat):(sliceBounds lo hi none n).1=((HT.sIx n 0 lo:Nat):Int)/\(sliceBounds lo hi none n).2.1=((HT.sIx n n hi:Nat):Int)/\(sliceBounds lo hi none n).2.2=1:=by
 refine⟨?_,?_,rfl⟩
 ·cases lo with
  | none=>simp [sliceBounds,HT.sIx]
  | some i=>
   simp only [sliceBounds,HT.sIx,getD_none,show(1:Int)>0 by decide,if_true]
   by_cases h:i<0
   ·simp only [h,if_true]<;>lia
   ·simp only [h,if_false]<;>lia
 ·cases hi with
  | none=>simp [sliceBounds,HT.sIx]
  | some i=>
   simp only [sliceBounds,HT.sIx,getD_none,show(1:Int)>0 by decide,if_true]
   by_cases h:i<0
   ·simp only [h,if_true]<;>lia
   ·simp only [h,if_false]<;>lia
theorem og(its:List Value)(lo hi:Option Int):slicePick its.toArray lo hi none=((its.drop (HT.sIx its.length 0 lo)).take (HT.sIx its.length its.length hi-HT.sIx its.length 0 lo)).toArray:=by
 obtain⟨h1,h2,h3⟩:=oV lo hi its.toArray.size
 unfold slicePick
 rw [h1,h2,h3]
 simp only [sliceRange_one,pick_run,size_toArray]<;>rfl
def DY(K:PySem.W.Frag):V->Option Int->Option Int->Hp->VK->Prop:=λx lo hi H Q=>∃a xs,x= .ref a/\SqL K H a xs/\∀p,H p=none->Q (.ref p) (upd H p (.lst (cw xs lo hi)))
theorem rq:SlR X (DY X.K):=by
 intro pins s σ H x v vl vu lo hi sl Q I rx hs pl pu h
 obtain⟨a,xs,rfl,hx,q⟩:=h
 cases rx
 obtain⟨its,r,ht,hz⟩:=I.list hx
 have hlen:=r.length
 refine⟨"list",_,slot_list_getitem.lookup,ht.isList.typeIs,?_⟩
 refine wpAny_getItem_list_slice ht.isList hs pl pu .none (by simp) ?_ (by rw [size_toArray]<;>lia)
 rw [og,<-hlen]
 refine⟨.ref s.heap.objs.size,_,I.laid (t':=s.toks) (o:=.lst (cw xs lo hi)) (λb ob q=>get?_push_of_some _ q) (le_refl _) ?_,rfl,q _ (I.hok.fresh (le_refl _))⟩
 exact⟨le_trans (kP xs lo hi) hz,_,0,(r.drop (HT.sIx xs.length 0 lo)).take (HT.sIx xs.length xs.length hi-HT.sIx xs.length 0 lo),get?_push_size _ rfl⟩
def di:V->Bool
 | .non=>true
 | .bl _=>true
 | .int _=>true
 | .str _=>true
 | _=>false
def eqV:V->V->Bool
 | .non,.non=>true
 | .bl a,.bl b=>a==b
 | .bl a,.int b=>(if a then 1 else 0)==b
 | .int a,.bl b=>a==(if b then 1 else 0)
 | .int a,.int b=>a==b
 | .str a,.str b=>a==b
 | _,_=>false
theorem zU{A:Around}{s:Shared}{y x:V}{u v:Value}(ry:RelV y u)(rx:RelV x v)(fy:di y=true)(fx:di x=true):SeqAt.EqAt A s u v (eqV y x):=by
 cases y with
 | non=>
  cases ry
  cases x with
  | non=>cases rx;exact SeqAt.EqAt.same _
  | bl b=>cases rx;exact SeqAt.EqAt.none_bool b
  | int b=>obtain⟨t,rfl⟩:=rx;exact SeqAt.EqAt.none_int b t
  | str b=>obtain⟨t,rfl⟩:=rx;exact SeqAt.EqAt.none_str b t
  | _=>exact absurd (show false=true from fx) Bool.false_ne_true
 | bl a=>
  cases ry
  cases x with
  | non=>cases rx;exact SeqAt.EqAt.bool_none a
  | bl b=>cases rx;exact SeqAt.EqAt.bool_bool a b
  | int b=>obtain⟨t,rfl⟩:=rx;exact SeqAt.EqAt.bool_int a b t
  | str b=>obtain⟨t,rfl⟩:=rx;exact SeqAt.EqAt.bool_str a b t
  | _=>exact absurd (show false=true from fx) Bool.false_ne_true
 | int a=>
  obtain⟨t',rfl⟩:=ry
  cases x with
  | non=>cases rx;exact SeqAt.EqAt.int_none a t'
  | bl b=>cases rx;exact SeqAt.EqAt.int_bool a t' b
  | int b=>obtain⟨t,rfl⟩:=rx;exact SeqAt.EqAt.int_int a t' b t
  | str b=>obtain⟨t,rfl⟩:=rx;exact SeqAt.EqAt.int_str a t' b t
  | _=>exact absurd (show false=true from fx) Bool.false_ne_true
 | str a=>
  obtain⟨t',rfl⟩:=ry
  cases x with
  | non=>cases rx;exact SeqAt.EqAt.str_none a t'
  | bl b=>cases rx;exact SeqAt.EqAt.str_bool a t' b
  | int b=>obtain⟨t,rfl⟩:=rx;exact SeqAt.EqAt.str_int a t' b t
  | str b=>obtain⟨t,rfl⟩:=rx;exact SeqAt.EqAt.str_str a t' b t
  | _=>exact absurd (show false=true from fx) Bool.false_ne_true
 | _=>exact absurd (show false=true from fy) Bool.false_ne_true
def eqU(x:V)(u:Value):Bool:=match u with
 | .none=>eqV .non x
 | .bool b=>eqV (.bl b) x
 | .int i _=>eqV (.int i) x
 | .str z _=>eqV (.str z) x
 | _=>false
theorem uq{x y:V}{u:Value}(r:RelV y u)(f:di y=true):eqU x u=eqV y x:=by
 cases y with
 | non=>cases r;rfl
 | bl b=>cases r;rfl
 | int i=>obtain⟨t,rfl⟩:=r;rfl
 | str z=>obtain⟨t,rfl⟩:=r;rfl
 | _=>exact absurd (show false=true from f) Bool.false_ne_true
theorem jj{x:V}:∀{xs:List V} {us:List Value},Vals xs us->xs.all di=true->us.any (eqU x)=xs.any λy=>eqV y x
 | _,_,.nil,_=>rfl
 | y::xs,u::us,.cons r t,f=>by
  rw [List.all_cons,and_eq_true] at f
  rw [any_cons,any_cons,uq r f.1,jj t f.2]
theorem ie{A:Around}{s:Shared}{x:V}{v:Value}(rx:RelV x v)(fx:di x=true):∀{xs:List V} {us:List Value},Vals xs us->xs.all di=true->∀u∈us,SeqAt.EqAt A s u v (eqU x u)
 | _,_,.nil,_=>λu hu=>by cases hu
 | y::xs,u::us,.cons r t,f=>λu' hu=>by
  rw [List.all_cons,and_eq_true] at f
  rcases List.mem_cons.mp hu with rfl | hu
  ·rw [uq r f.1];exact zU r rx f.1 fx
  ·exact ie rx fx t f.2 u' hu
def inV(x:V)(xs:List V):Bool:=xs.any λy=>eqV y x
def rIn(K:PySem.W.Frag)(neg:Bool):R2:=λx y H Q=>∃p xs,y= .ref p/\(SqL K H p xs\/SqT K H p xs)/\di x=true/\xs.all di=true/\Q (.bl (if neg then !inV x xs else inV x xs)) H
theorem ur:OpR X (compareOp .In) (rIn X.K false):=by
 intro pins s σ H x y v u Q I rx ry h
 obtain⟨p,xs,rfl,hq,fx,fs,q⟩:=h
 cases ry
 rcases hq with hq | hq
 ·obtain⟨its,r,pl,hz⟩:=I.list hq
  refine SeqAt.in_listAt (eqU x) pl.isList (λw hw=>ie rx fx r fs w (by simpa using hw)) ⟨.bl _,H,I,rfl,?_⟩
  rw [show its.toArray.any (eqU x)=its.any (eqU x) by simp,jj r fs]
  exact q
 ·obtain⟨its,r,pl,hz⟩:=I.tuple hq
  refine SeqAt.in_tupleAt (eqU x) pl (λw hw=>ie rx fx r fs w (by simpa using hw)) ⟨.bl _,H,I,rfl,?_⟩
  rw [show its.toArray.any (eqU x)=its.any (eqU x) by simp,jj r fs]
  exact q
theorem j4:OpR X (compareOp .NotIn) (rIn X.K true):=by
 intro pins s σ H x y v u Q I rx ry h
 obtain⟨p,xs,rfl,hq,fx,fs,q⟩:=h
 cases ry
 rcases hq with hq | hq
 ·obtain⟨its,r,pl,hz⟩:=I.list hq
  refine SeqAt.notIn_listAt (eqU x) pl.isList (λw hw=>ie rx fx r fs w (by simpa using hw)) ⟨.bl _,H,I,rfl,?_⟩
  rw [show its.toArray.any (eqU x)=its.any (eqU x) by simp,jj r fs]
  exact q
 ·obtain⟨its,r,pl,hz⟩:=I.tuple hq
  refine SeqAt.notIn_tupleAt (eqU x) pl (λw hw=>ie rx fx r fs w (by simpa using hw)) ⟨.bl _,H,I,rfl,?_⟩
  rw [show its.toArray.any (eqU x)=its.any (eqU x) by simp,jj r fs]
  exact q
theorem ig:cy X (.builtin "len") (λxs H Q=>∃p ys,xs= [.ref p]/\(SqL X.K H p ys\/SqT X.K H p ys)/\Q (.int ys.length) H):=by
 intro pins s σ H xs us Q I r h
 obtain⟨p,ys,rfl,hq,q⟩:=h
 obtain⟨u,rfl,rx⟩:=eV r
 cases rx
 have hn:=ia
 rcases hq with hq | hq
 ·obtain⟨its,r',pl,hz⟩:=I.list hq
  have hlen:=r'.length
  exact Calls.call_len_list pl.isList (by simp only [size_toArray]<;>lia) ⟨.int ys.length,H,I.tok _,⟨s.toks+1,by rw [size_toArray,hlen]⟩,q⟩
 ·obtain⟨its,r',pl,hz⟩:=I.tuple hq
  have hlen:=r'.length
  exact len_tuple pl (by simp only [size_toArray]<;>lia) ⟨.int ys.length,H,I.tok _,⟨s.toks+1,by rw [size_toArray,hlen]⟩,q⟩
theorem dQ:cy X (.builtin "len") (λxs H Q=>∃z,xs= [.str z]/\z.length<=sizeLine/\Q (.int z.length) H):=by
 intro pins s σ H xs us Q I r h
 obtain⟨z,rfl,hz,q⟩:=h
 obtain⟨u,rfl,t,rfl⟩:=eV r
 have hn:=ia
 exact len_str (by lia) ⟨.int z.length,H,I.tok _,⟨_,rfl⟩,q⟩
theorem oW:cy X (.type "list") (λxs H Q=>∃p ys,xs= [.ref p]/\(SqL X.K H p ys\/SqT X.K H p ys)/\∀l,H l=none->Q (.ref l) (upd H l (.lst ys))):=by
 intro pins s σ H xs us Q I r h
 obtain⟨p,ys,rfl,hq,q⟩:=h
 obtain⟨u,rfl,rx⟩:=eV r
 cases rx
 have fin:∀(its:List Value),Vals ys its->ys.length<=sizeLine->∀(h':Heap) (c':Nat),(∀b o',s.heap.get? b=some o'->h'.get? b=some o')->
  h'.get? s.heap.objs.size=some {cls:=.type "list",dict:=none,data:=.seq its.toArray c',slots:= #[]}->EP X pins σ Q (.ref s.heap.objs.size) {s with heap:=h'}:=λits r' hz h' c' kp e=>
  ⟨.ref s.heap.objs.size,_,I.laid (t':=s.toks) kp (le_refl _) (show ObjOk X.prog X.w _ h' _ (.lst ys) from ⟨hz,its,c',r',e⟩),rfl,q _ (I.hok.fresh (le_refl _))⟩
 rcases hq with hq | hq
 ·obtain⟨its,r',pl,hz⟩:=I.list hq
  have hlen:=r'.length
  obtain⟨o,ho,hc,n,hd⟩:=pl.isList
  exact call_list_seq p (.inl rfl) ho hc hd (λh' c' kp e=>fin its r' hz h' c' kp e) (by simp only [size_toArray]<;>lia)
 ·obtain⟨its,r',pl,hz⟩:=I.tuple hq
  have hlen:=r'.length
  obtain⟨o,ho,hc,n,hd⟩:=pl
  exact call_list_seq p (.inr rfl) ho hc hd (λh' c' kp e=>fin its r' hz h' c' kp e) (by simp only [size_toArray]<;>lia)
def tyV (K : PySem.W.Frag) (T : String) (x : V) (H : Hp) : Prop := match x with
  | .str _ => T = "str"
  | .int _ => T = "int"
  | .ref p => (T = "list" ∧ ∃ xs, SqL K H p xs) ∨ (T = "tuple" ∧ ∃ o, K.lookup p = some o ∧ o.cls = .type "tuple" ∧ o.dict = none) ∨
      (T = "dict" ∧ ((∃ kvs, H p = some (.dK kvs)) ∨ ∃ kvs, H p = some (.dT kvs))) ∨ (T = "set" ∧ ∃ S n, H p = some (.set S n))
  | _ => False
theorem oX{pins:List (Addr×Obj)}{σ:St}{H:Hp}{s:Shared}{T:String}{x:V}{v:Value}(I:Inv X pins σ H s)(r:RelV x v)(ty:tyV X.K T x H):
 s.TypeIs v T/\∀a,v= .ref a->∃ob,s.heap.get? a=some ob/\ob.dict=none:=by
 cases x with
 | str z=>
  obtain⟨t,rfl⟩:=r
  cases (show T= "str" from ty)
  exact⟨typeIs_str s z t,λ_ e=>nomatch e⟩
 | int i=>
  obtain⟨t,rfl⟩:=r
  cases (show T= "int" from ty)
  exact⟨typeIs_int s i t,λ_ e=>nomatch e⟩
 | ref p=>
  cases r
  rcases ty with ⟨rfl,xs,hq⟩ | ⟨rfl,o,hk,hc,hd⟩ | ⟨rfl,hk⟩ | ⟨rfl,S,n,hk⟩
  ·obtain⟨its,_,pl,_⟩:=I.list hq
   refine⟨pl.isList.typeIs,λa e=>?_⟩
   cases e
   obtain⟨o,n,e,c,hd,_⟩:=pl
   exact⟨o,e,hd⟩
  ·refine⟨⟨o,I.kIn p o hk,hc⟩,λa e=>?_⟩
   cases e
   exact⟨o,I.kIn _ o hk,hd⟩
  ·have z:∃o,s.heap.get? p=some o/\o.ExactDict:=by
    rcases hk with ⟨kvs,hk⟩ | ⟨kvs,hk⟩
    ·obtain⟨_,_,_,_,o,_,_,e,ex,_⟩:=I.hok p _ hk
     exact⟨o,e,ex⟩
    ·obtain⟨_,_,_,_,o,_,_,e,ex,_⟩:=I.hok p _ hk
     exact⟨o,e,ex⟩
   obtain⟨o,e,ex⟩:=z
   refine⟨⟨o,e,ex.1⟩,λa e2=>?_⟩
   cases e2
   exact⟨o,e,ex.2.1⟩
  ·obtain⟨o,_,_,_,e,ex,_⟩:=I.hok p _ hk
   refine⟨⟨o,e,ex.1⟩,λa e2=>?_⟩
   cases e2
   exact⟨o,e,ex.2.1⟩
 | _=>exact False.elim ty
def zV (K : PySem.W.Frag) (T : String) (r : V → List V → Hp → VK → Prop) (to : TE) : TE := fun σ H Q => to σ H fun x H1 => tyV K T x H1 ∧ r x [] H1 Q
def tBM (K : PySem.W.Frag) (T : String) (r : V → List V → Hp → VK → Prop) (to : TE) (t : TA) : TE := fun σ H Q => to σ H fun x H1 => tyV K T x H1 ∧ t σ H1 fun xs H2 => r x xs H2 Q
variable{o e:Expr}{es:List Expr}{to:TE}{t:TA}{name:Str}{apos cpos:Pos}{T id:String}{r:V->List V->Hp->VK->Prop}
theorem oY(pa:PlainAttrs T)(slot:Slot T name id)(hty:typeOf (.builtin id)=pure (.type "method_descriptor"))(hm:MtR X id r)(ho:PE X o to)
 (hbase:attributeBase o name X.env (eval o X.env)=eval o X.env:=by rfl) (hline:(apos.endLine==cpos.line)=true:=by rfl):PE X (.Call (.Attribute o name apos) [] [] cpos) (zV X.K T r to):=by
 intro pins s σ H Q I h
 refine wpAny_Call_method0_late hbase hline (thn (ho pins s σ H _ I h) λv s1 ⟨x,H1,I1,r1,ty,q1⟩=>?_)
 obtain⟨h1,h2⟩:=oX I1 r1 ty
 exact⟨T,id,pa,slot,hty,h1,h2,Calls.callWith_builtin rfl (PySem.evalArgs_none (hm pins s1 σ H1 x [] v [] Q I1 r1 .nil q1))⟩
theorem lP(pa:PlainAttrs T)(slot:Slot T name id)(hty:typeOf (.builtin id)=pure (.type "method_descriptor"))(hm:MtR X id r)(ho:PE X o to)(ha:PA X (e::es) t)
 (hbase:attributeBase o name X.env (eval o X.env)=eval o X.env:=by rfl)
 (hfew:((backTo cpos (starEach (e::es) X.env)).all (λx=>!x.1)&&(backToKw cpos (keywordEach [] X.env)).all (λx=>x.1.isSome)
  && decide ((e::es).length+([]:List Keyword).length+(if ([]:List Keyword).isEmpty then 0 else 1)<30))=true:=by rfl)
 (hline:(apos.endLine==cpos.line)=true:=by rfl) (hs:starEach (e::es) X.env=(false,eval e X.env)::starEach es X.env:=by rfl) (hplain:(backTo cpos (starEach es X.env)).any (·.1)=false:=by rfl):
 PE X (.Call (.Attribute o name apos) (e::es) [] cpos) (tBM X.K T r to t):=by
 intro pins s σ H Q I h
 refine wpAny_Call_method_late hbase hfew hline rfl (thn (ho pins s σ H _ I h) λv s1 ⟨x,H1,I1,r1,ty,q1⟩=>?_)
 obtain⟨h1,h2⟩:=oX I1 r1 ty
 refine⟨T,id,pa,slot,hty,h1,h2,?_⟩
 have hA:=ha cpos pins s1 σ H1 _ I1 q1
 rw [hs] at hA⊢
 refine Calls.callWith_builtin (by show(false || (backTo cpos (starEach es X.env)).any (·.1))=false;rw [hplain]<;>rfl) (Calls.evalArgs_plain ?_)
 exact thn hA λus s2 ⟨vs,H2,I2,r2,q2⟩=>hm pins s2 σ H2 x vs v us Q I2 r1 r2 q2
/- xs.append(e),list.index on a module's tuple .. are MtR facts of 06m -/
end
def MtM (X : Cx) (id : String) (r : V → List V → Hp → VK → Prop) : Prop :=
  ∀ (pins : List (Addr × Obj)) (s : Shared) (σ : St) (H : Hp) (x : V) (xs : List V) (v : Value) (us : List Value) (Q : VK), Inv X pins σ H s → RelV x v → Vals xs us → r x xs H Q →
    wpAny (model X.prog X.w) X.A (call (.builtin id) (v :: us)) (EP X pins σ Q) X.xe s
theorem Vals.one:∀{x:V} {us:List Value},Vals [x] us->∃u,us= [u]/\RelV x u
 | _,_,.cons r .nil=>⟨_,rfl,r⟩
theorem Vals.zero:∀{us:List Value},Vals [] us->us= []
 | _,.nil=>rfl
theorem Vals.dropLast{xs:List V}{us:List Value}(h:Vals xs us):Vals xs.dropLast us.dropLast:=by
 induction h with
 | nil=>exact .nil
 | cons r t ih=>
  cases t with
  | nil=>exact .nil
  | cons q t'=>exact .cons r ih
theorem Vals.rep{xs:List V}{us:List Value}(h:Vals xs us):∀k:Nat,Vals (replicate k xs).flatten (replicate k us).flatten
 | 0=>.nil
 | k+1=>by
  rw [replicate_succ,replicate_succ,flatten_cons,flatten_cons]
  exact Vals.append h (Vals.rep h k)
theorem sI{α:Type}(l:List α):l.eraseIdx (l.length-1)=l.dropLast:=by
 induction l with
 | nil=>rfl
 | cons a r ih=>
  cases r with
  | nil=>rfl
  | cons b r=>
   have e:(a::b::r).length-1=((b::r).length-1)+1:=by
    have h1:(a::b::r).length=r.length+2:=rfl
    have h2:(b::r).length=r.length+1:=rfl
    lia
   rw [e,List.eraseIdx_cons_succ,ih]
   all_goals rfl
theorem j6(its:List Value):∀(k:Nat) (acc:List Value),
 List.foldl (λx1 x2=>x1++x2) acc.toArray (replicate k its.toArray)=(acc++(replicate k its).flatten).toArray
 | 0,acc=>by simp
 | k+1,acc=>by
  have e:acc.toArray++its.toArray=(acc++its).toArray:=by simp
  have e2:(acc++its)++(replicate k its).flatten=acc++(replicate (k+1) its).flatten:=by
   rw [replicate_succ,flatten_cons,append_assoc]
  rw [<-e2,<-j6 its k (acc++its),<-e,replicate_succ,foldl_cons]
section
variable{X:Cx}{pins:List (Addr×Obj)}{σ:St}{H:Hp}{s:Shared}{l b:Addr}{xs ys zs:List V}
theorem Inv.lset{its its':List Value}{n:Nat}{f:Array Value->Array Value}{t':Nat}(I:Inv X pins σ H s)(hH:H l=some (.lst xs))
 (e:s.heap.get? l=some {cls:=.type "list",data:=.seq its.toArray n}) (hf:f its.toArray=its'.toArray) (hv:Vals ys its') (hz:ys.length<=sizeLine):
 Inv X pins σ (upd H l (.lst ys)) {s with heap:=s.heap.update l (Obj.mapSeq f),toks:=t'}:=by
 have q:=PySem.IsL.update e f
 rw [hf] at q
 refine I.write (x:=l) (e:=l) (by rw [hH];exact trivial) (.inl rfl) (λb' u hb hu=>(get?_update_other s.heap (Obj.mapSeq f) (Ne.symm hb)).trans hu) ⟨_,q⟩ ?_
 exact⟨hz,its',_,hv,q⟩
theorem Inv.lnew{its:List Value}{t':Nat}(I:Inv X pins σ H s)(hv:Vals ys its)(hz:ys.length<=sizeLine):
 Inv X pins σ (upd H s.heap.objs.size (.lst ys)) {s with heap:=s.heap.push {cls:=.type "list",data:=.seq its.toArray},toks:=t'}:=
 I.laid (λ_ _ q=>get?_push_of_some _ q) (le_refl _) ⟨hz,its,0,hv,get?_push_size _ rfl⟩
theorem Inv.fresh(I:Inv X pins σ H s):H s.heap.objs.size=none:=I.hok.fresh (le_refl _)
theorem Inv.lstM(I:Inv X pins σ H s)(hH:H l=some (.lst xs)):xs.length<=sizeLine/\∃(its:List Value) (n:Nat),Vals xs its/\xs.length=its.length/\s.heap.get? l=some {cls:=.type "list",data:=.seq its.toArray n}:=by
 obtain⟨z,its,n,r,e⟩:=I.hok l _ hH
 exact⟨z,its,n,r,r.length,e⟩
theorem wg{n:Nat}(h:n<=sizeLine):Builtin.List.listTooLong n=false:=by
 unfold Builtin.List.listTooLong
 exact decide_eq_false (by lia)
end
section
variable{X:Cx}
def mH:V->List V->Hp->VK->Prop:=λx vs H Q=>∃l xs y,x= .ref l/\vs= [y]/\H l=some (.lst xs)/\xs.length<sizeLine/\Q .non (upd H l (.lst (xs++[y])))
theorem iJ:MtM X "list.append" mH:=by
 intro pins s σ H x vs v us Q I rx rv h
 obtain⟨l,xs,y,rfl,rfl,hH,hz,q⟩:=h
 cases rx
 obtain⟨u,rfl,ru⟩:=rv.one
 obtain⟨z,its,n,r,hl,e⟩:=I.lstM hH
 refine call_meets F.slot_list_append ⟨_,e,rfl⟩ F.entry_list_append (F.args_list_append_2 _ _) (PySem.list_append l its.toArray n u (by rw [size_toArray];lia)) ⟨e,?_⟩
 refine⟨.non,_,I.lset (its':=its++[u]) hH e (by simp) (r.append (.cons ru .nil)) ?_,rfl,q⟩
 rw [length_append,length_singleton]
 lia
def DZ:V->List V->Hp->VK->Prop:=λx vs H Q=>∃l xs y,x= .ref l/\vs= []/\H l=some (.lst xs)/\xs[xs.length-1]? =some y/\Q y (upd H l (.lst xs.dropLast))
theorem zW:MtM X "list.pop" DZ:=by
 intro pins s σ H x vs v us Q I rx rv h
 obtain⟨l,xs,y,rfl,rfl,hH,hy,q⟩:=h
 cases rx
 have hus:=rv.zero
 subst hus
 obtain⟨z,its,n,r,hl,e⟩:=I.lstM hH
 obtain⟨u,hu,ru⟩:=r.get hy
 have hy':its.toArray[its.toArray.size-1]? =some u:=by
  show its.toArray[its.length-1]? =some u
  rw [<-Array.getElem?_toList,<-hl]
  exact hu
 refine call_meets F.slot_list_pop ⟨_,e,rfl⟩ F.entry_list_pop (F.args_list_pop_1 _) (MeetsSeq.list_pop_last l its.toArray n u hy' (by rw [size_toArray];lia)) ⟨e,?_⟩
 refine⟨y,_,I.lset (its':=its.dropLast) hH e ?_ r.dropLast ?_,ru,q⟩
 ·show its.toArray.eraseIdxIfInBounds (its.toArray.size-1)=its.dropLast.toArray
  rw [size_toArray,List.eraseIdxIfInBounds_toArray,sI]
 ·rw [List.length_dropLast]
  lia
def D0:R2:=λx y H Q=>∃l b xs zs,x= .ref l/\y= .ref b/\H l=some (.lst xs)/\H b=some (.lst zs)/\xs.length+zs.length<=sizeLine/\∀p,H p=none->Q (.ref p) (upd H p (.lst (xs++zs)))
theorem zX:OpR X (binaryOp .Add) D0:=by
 intro pins s σ H x y v u Q I rx ry h
 obtain⟨l,b,xs,zs,rfl,rfl,hH,hB,hz,q⟩:=h
 cases rx
 cases ry
 obtain⟨z,its,n,r,hl,e⟩:=I.lstM hH
 obtain⟨z2,its2,n2,r2,hl2,e2⟩:=I.lstM hB
 refine PySem.P.add_list e e2 ?_ (by rw [size_toArray,size_toArray];lia)
 have ea:its.toArray++its2.toArray=(its++its2).toArray:=by simp
 rw [ea]
 exact⟨.ref _,_,I.lnew (t':=s.toks) (r.append r2) (by rw [length_append];lia),rfl,q _ I.fresh⟩
def D4:R2:=λx y H Q=>∃l k xs,x= .ref l/\y= .int k/\H l=some (.lst xs)/\ -(2^63)<=k/\k<2^63/\xs.length*k.toNat<=sizeLine/\
 ∀p,H p=none->Q (.ref p) (upd H p (.lst (replicate k.toNat xs).flatten))
theorem mI{α:Type}(xs:List α)(k:Nat):(replicate k xs).flatten.length=k*xs.length:=by
 induction k with
 | zero=>simp
 | succ k ih=>rw [replicate_succ,flatten_cons,length_append,ih,Nat.succ_mul,add_comm]
theorem zY:OpR X (binaryOp .Mult) D4:=by
 intro pins s σ H x y v u Q I rx ry h
 obtain⟨l,k,xs,rfl,rfl,hH,h1,h2,hz,q⟩:=h
 cases rx
 obtain⟨t,rfl⟩:=ry
 obtain⟨z,its,n,r,hl,e⟩:=I.lstM hH
 have hlen:its.toArray.size*k.toNat<=sizeLine:=by rw [size_toArray,<-hl];exact hz
 have hcap:¬its.toArray.size*k.toNat>(2^63-1)/8:=by
  have:(sizeLine:Nat)<=(2^63-1)/8:=by decide
  lia
 have hfit:¬(!Builtin.List.listFitsIndex k)=true:=by
  rw [fitsIndex_both h1 h2]
  exact Bool.false_ne_true
 have hlong:¬Builtin.List.listTooLong (its.toArray.size*k.toNat)=true:=by
  rw [wg hlen]
  exact Bool.false_ne_true
 have hnew:List.foldl (λx1 x2=>x1++x2) #[] (replicate (if its.toArray.isEmpty=true then 0 else k.toNat) its.toArray)=(replicate k.toNat its).flatten.toArray:=by
  have f0:∀m:Nat,List.foldl (λx1 x2=>x1++x2) #[] (replicate m its.toArray)=(replicate m its).flatten.toArray:=λm=>by
   have:=j6 its m []
   rw [nil_append] at this
   exact this
  rw [f0]
  cases its with
  | nil=>simp
  | cons a r'=>rw [if_neg (by simp)]
 refine wpAny_binaryOp_repeat_ref (T:="list") (U:="int") (by decide) ⟨_,e,rfl⟩ (λs'=>typeIs_int s' k t) noFill_list_mul F.fills_int_mul F.slot_int_rmul repeat_list F.slot_int_index.lookup
  (call_meets F.slot_int_rmul (typeIs_int s k t) F.entry_int_rmul (F.args_int_rmul_2 _ _) (int___rmul___int_list k t l its.toArray n)
   ⟨e,rfl,⟨_,e,rfl⟩,call_meets F.slot_list_mul ⟨_,e,rfl⟩ F.entry_list_mul (F.args_list_mul_2 _ _) (AutoListH.list___mul___list_int_3 l its.toArray n k t hfit hcap hlong) ⟨e,?_⟩⟩)
 rw [hnew]
 exact⟨.ref _,_,I.lnew (t':=s.toks) (r.rep k.toNat) (by rw [mI,mul_comm];exact hz),rfl,q _ I.fresh⟩
end
section
variable{prog:Program}{w:World}{A:Around}{E:Value->Shared->Prop}{s:Shared}
end
section
variable{X:Cx}
end
section
variable{κ:Type}[DecidableEq κ]
def cP(kvs:List (κ×V))(k:κ):Option V:=(kvs.find? λkv=>decide (kv.1=k)).map (·.2)
def zZ(kvs:List (κ×V))(k:κ)(v:V):List (κ×V):=
 if (kvs.any λkv=>decide (kv.1=k))=true then kvs.map (λkv=>if kv.1=k then (kv.1,v) else kv) else kvs++[(k,v)]
def dropK(kvs:List (κ×V))(k:κ):List (κ×V):=kvs.filter λkv=>decide (kv.1≠k)
theorem wk{p:κ×V}{r:List (κ×V)}{k:κ}(e:p.1=k):cP (p::r) k=some p.2:=by simp [cP,find?_cons,e]
theorem oZ{p:κ×V}{r:List (κ×V)}{k:κ}(e:¬p.1=k):cP (p::r) k=cP r k:=by simp [cP,find?_cons,e]
theorem RelO.isSome_eq{o:Option V}{u:Option Value}(r:RelO o u):o.isSome=u.isSome:=by
 cases o with
 | none=>cases u with
  | none=>rfl
  | some _=>exact(show False from r).elim
 | some _=>cases u with
  | none=>exact(show False from r).elim
  | some _=>rfl
theorem RelO.getD{o:Option V}{u:Option Value}{d:V}{d':Value}(r:RelO o u)(rd:RelV d d'):RelV (o.getD d) (u.getD d'):=by
 cases o with
 | none=>cases u with
  | none=>exact rd
  | some _=>exact(show False from r).elim
 | some _=>cases u with
  | none=>exact(show False from r).elim
  | some _=>exact r
theorem KV.val{kvs:List (κ×V)}{vs:List (κ×Value)}(r:KV kvs vs)(k:κ):RelO (cP kvs k) (valueAt vs k):=by
 unfold KV at r
 induction r with
 | nil=>exact True.intro
 | @cons p q ps qs h t ih=>
  obtain⟨h1,h2⟩:=h
  by_cases e:p.1=k
  ·have e':q.1=k:=h1.symm.trans e
   have b:valueAt (q::qs) k=some q.2:=by simp [valueAt,find?_cons,e']
   rw [wk e,b];exact h2
  ·have e':¬q.1=k:=λz=>e (h1.trans z)
   have b:valueAt (q::qs) k=valueAt qs k:=by simp [valueAt,find?_cons,e']
   rw [oZ e,b];exact ih
end
theorem sJ{P:Program}{w:World}{k:Key}{u:Value}(r:RelV (kV k) u):(cN P w).is k u=true:=by
 cases k with
 | inl i=>obtain⟨t,e⟩:=(show ∃t,u=Value.int i t from r);subst e;exact qJ P w i t
 | inr x=>obtain⟨t,e⟩:=(show ∃t,u=Value.str x t from r);subst e;exact qK P w x t
section
variable{P:Program}{w:World}{H:Hp}{h:Heap}{a:Addr}
end
section
variable{X:Cx}{pins:List (Addr×Obj)}{σ:St}{H:Hp}{s:Shared}{a:Addr}{y v:V}{u r:Value}{o:Option V}{A:Around}{E:Value->Shared->Prop}
end
section
variable{X:Cx}{pins:List (Addr×Obj)}{σ:St}{H:Hp}{s:Shared}{a:Addr}{kvs:List (Key×V)}{k:Key}{u:Value}{A:Around}{E:Value->Shared->Prop}
end
def z9(i:Expr):Prop:=∀ov iv,subscripted i false ov iv=operate [ov,iv] (getItem ov iv)
theorem xZ{prog:Program}{w:World}{A:Around}{E:Value->Shared->Prop}{s:Shared}{env:Env}{value slice:Expr}{pos:Pos}{T id:String}{Q:Value->Shared->Prop}
 (hl:typeLookup (.type T) "__getitem__" =pure (some (.builtin id))) (hs:z9 slice)
 (h:wpAny (model prog w) A (eval value env) (λo s₁=>wpAny (model prog w) A (eval slice env) (λi s₂=>s₂.TypeIs o T/\wpAny (model prog w) A (getItem o i) Q E s₂) E s₁) E s):
 wpAny (model prog w) A (eval (.Subscript value slice pos) env) Q E s:=by
 refine Subscript_ (wpAny_mono h (λo s₁ h₁=>wpAny_mono h₁ (λi s₂ h₂=>?_) λ_ _ x=>x) λ_ _ x=>x)
 obtain⟨hT,h₂⟩:=h₂
 unfold subscriptTail
 refine wpAny_bind ?_
 rw [getitemInPython_of_ne hT.not_modules]
 refine wpAny_bind (wpAny_specialOf hT hl ?_)
 have fin:wpAny (model prog w) A (subscripted slice false o i) (λr s₃=>wpAny (model prog w) A (letTemporaryGo value o r >>= λ_=>pure r) Q E s₃) E s₂:=by
  rw [hs o i]
  exact wpAny_operating (wpAny_mono h₂ (λr s₃ h₃=>wpAny_bind (wpAny_letTemporaryGo (wpAny_pure h₃))) λ_ _ x=>x)
 first
  | exact wpAny_pure (wpAny_bind fin)
  | exact wpAny_bind (wpAny_pure (wpAny_bind fin))
  | exact wpAny_bind fin
section
variable{X:Cx}{o i e value:Expr}{pos pos' tpos:Pos}{td ty tv:TE}
end
section
variable{X:Cx}{pos:Pos}
end
def ut:List (TE×TE)->St->Hp->(List (V×V)->Hp->Prop)->Prop
 | [],_,H,Q=>Q [] H
 | (tk,tv)::r,σ,H,Q=>tk σ H λx H1=>tv σ H1 λy H2=>ut r σ H2 λps H3=>Q ((x,y)::ps) H3
abbrev VV:List (V×V)->List (Value×Value)->Prop:=Paired λp q=>RelV p.1 q.1/\RelV p.2 q.2
def mergeK(kvs more:List (Key×V)):List (Key×V):=more.foldl (λacc kv=>zZ acc kv.1 kv.2) kvs
structure M1(X:Cx)(o:Expr)(m:Str)(apos:Pos)(e:Expr)(cpos:Pos):Prop where
 base:attributeBase o m X.env (eval o X.env)=eval o X.env
 few:((backTo cpos (starEach [e] X.env)).all (λx=>!x.1)&&(backToKw cpos (keywordEach [] X.env)).all (λx=>x.1.isSome)
  && decide (([e]:List Expr).length+([]:List Keyword).length+(if ([]:List Keyword).isEmpty then 0 else 1)<30))=true
 line:(apos.endLine==cpos.line)=true
 trees:backTo cpos (starEach [e] X.env)= [(false,eval e X.env)]
structure M2(X:Cx)(o:Expr)(m:Str)(apos:Pos)(e f:Expr)(cpos:Pos):Prop where
 base:attributeBase o m X.env (eval o X.env)=eval o X.env
 few:((backTo cpos (starEach [e,f] X.env)).all (λx=>!x.1)&&(backToKw cpos (keywordEach [] X.env)).all (λx=>x.1.isSome)
  && decide (([e,f]:List Expr).length+([]:List Keyword).length+(if ([]:List Keyword).isEmpty then 0 else 1)<30))=true
 line:(apos.endLine==cpos.line)=true
 trees:backTo cpos (starEach [e,f] X.env)= [(false,eval e X.env),(false,eval f X.env)]
section
variable{X:Cx}{pins:List (Addr×Obj)}{σ:St}{H:Hp}{s:Shared}{a:Addr}{y d:V}{u r:Value}{o:Option V}{A:Around}{E:Value->Shared->Prop}
end
section
variable{X:Cx}{o e f:Expr}{apos cpos:Pos}{td ty tx:TE}
end
section
variable{X:Cx}{pins:List (Addr×Obj)}{σ:St}{H:Hp}{s:Shared}{a:Addr}{kvs:List (Key×V)}{A:Around}{E:Value->Shared->Prop}
end
section
variable{X:Cx}{pins:List (Addr×Obj)}{σ:St}{H:Hp}{s:Shared}{a:Addr}{y:V}{u:Value}{A:Around}{E:Value->Shared->Prop}
end
end L2
namespace Att
open PySem PySem.W PySem.Calls PyProof.Rows
theorem lQ{P:Params}{h:Heap}:∀(ns:List Int) (vs:List Value),WellAll P h vs (ns.map WData.int)->IntsAre vs ns:=by
 intro ns
 induction ns with
 | nil=>
  intro vs w
  rw [map_nil] at w
  cases w
  exact .nil
 | cons n ns ih=>
  intro vs w
  rw [map_cons] at w
  cases w with
  | cons a b=>
   cases a
   exact .cons _ _ (ih _ b)
theorem uu{l:OpenLaw}{n:Nat}(hn:l.most=some n){P:Params}{h:Heap}{args:List WData}{vals:List Value}
 (hpre:l.row.toRowW.claim.pre args=true) (hwl:WellAll P h vals args):
 ∃a vs ns,vals= [Value.ref a]/\args= [WData.list (ns.map WData.int)]/\h.get? a=some {cls:=.type "list",data:=.seq vs.toArray}/\IntsAre vs ns/\ns.length<=n:=by
 have hsh:WShape.hasAll [] args [.list .int]=true:=(pre_splitW hpre).1
 have hc:l.pre.holds [] {args:=args}=true:=(pre_splitW hpre).2
 obtain⟨d,r,rfl,h1,h2⟩:=hasAllW_cons hsh
 obtain rfl:=hasAllW_nil h2
 obtain⟨xs,rfl,h3⟩:=hasW_list h1
 obtain⟨ns,rfl⟩:=items_int h3
 have hlen:ns.length<=n:=by
  unfold OpenLaw.pre at hc
  have h4:(WTm.not (.lt (.lit (.int (n:Int))) (.len (.arg 0)))).holds [] {args:=[.list (ns.map .int)]}=true:=by
   have h4:=(holds_andW hc).1
   rw [hn] at h4
   exact h4
  have h5:=condW_of h4 (w_not (w_lt w_lit (w_len_list (w_arg rfl))))
  rw [length_map] at h5
  refine Nat.le_of_not_lt λq=>?_
  have q':(n:Int)<((ns.length:Nat):Int):=by lia
  first
   | (rw [decide_eq_true q'] at h5;exact absurd h5 (by decide))
   | (simp at h5;lia)
 cases hwl with
 | cons w1 w2=>
  cases w2
  cases w1 with
  | list ho hall=>exact⟨_,_,ns,rfl,rfl,ho,lQ ns _ hall,hlen⟩
theorem uv(l:OpenLaw)(args:List WData):l.row.toRowW.claim.post args (.bool true) args=true:=
 postW_of (r:=l.row.toRowW) (X:=(true==true))
  (show WShape.has [] (.bool true) .bool=true by first | rfl | decide | simp [WShape.has,WShape.arms,WShape.armsAll])
  (show(WTm.eq .res (.lit (.bool true))).value [] {args:=args,res:=some (.bool true),after:=args}=some (.bool (true==true)) from w_eq_bool (w_res rfl) w_lit) rfl
theorem qL{l:OpenLaw}{n:Nat}{q:Program}{loose:List Str}{XP:(Str->Option Value)->Heap->Prop}{YP:World->Heap->Prop}{d:DefRec}
 (hn:l.most=some n) (hdf:d.params.defaults= [])
 (call:∀(w:World) (s₀ s₁:Shared) (mg mb:Str->Option Value) (fa:Addr) (o:Obj) (pm cd doc:Value) (a:Addr) (vs:List Value) (ns:List Int),
  Ground q loose [] XP w s₀ mg mb s₁.heap->YP w s₁.heap->
  s₁.heap.get? fa=some o->o.data= .func (docDef d.name d.params d.body d.scope pm cd doc)->s₁.heap.CodeRec cd d.name->mg d.name=some (.ref fa)->
  s₁.heap.get? a=some {cls:=.type "list",data:=.seq vs.toArray}->IntsAre vs ns->ns.length<=n->s₁.gens= #[]->
  codeAny (model l.prog w) callerA (.call (.ref fa) ⟨[.ref a],[]⟩) (λr s'=>r= .ok (.ret (.bool true))/\OldK s₁.heap s'.heap/\s'.os=s₁.os/\AllBare s'.gens) s₁):
 WalkO q loose XP YP l.row.toRowW d [] (λf vs=>PySem.call f vs):=by
 intro w s₀ s₁ mg mb G Y fa o pm cd doc dV kV ho hd hcd hD hmg hg args vals as hpre hlay hrd hwl hlo
 obtain rfl:dV= .none:=Dflts.none hD hdf
 obtain rfl:kV= .none:=Dflts.noKw hD
 obtain⟨a,vs,ns,rfl,rfl,hobj,hints,hlen⟩:=uu hn hpre hwl
 refine enter_call (codeAny_mono (call w s₀ s₁ mg mb fa o pm cd doc a vs ns G Y ho (fd_plain hd) hcd hmg hobj hints hlen hg) λr s' hq=>?_)
 obtain⟨rfl,h2,h3,h4⟩:=hq
 exact⟨.inl ⟨.bool true,.bool true,[],rfl,λ_=>rfl,.bool true,uv l _,λ_=>⟨List.Pairwise.nil,λ_ hm=>(nomatch hm)⟩⟩,h2,h3,h4⟩
section
variable{prog:Program}{w:World}{A:Around}{E:Value->Shared->Prop}{s:Shared}{K:Frag}
end
end Att
namespace L2
open PySem PySem.Spec PyProof.Rows
theorem nG:∀{vs:List Value} {ns:List Int},IntsAre vs ns->Vals (ns.map V.int) vs
 | _,_,.nil=>.nil
 | _,_,.cons n t h=>.cons ⟨t,rfl⟩ (nG h)
def wm(H:Hp):Prop:=∀b,H b=none\/∃o xs,H b=some (.frz o (.lst xs))
theorem wn{P:Program}{w:World}{K:PySem.W.Frag}{mg mb:Str->Option Value}{CX:CXT}{k:Nat}{fa a:Addr}{fd:FuncData}{x:Str}{sp:Sp}{s₁:Shared}{vs:List Value}{ns:List Int}
 (KX:K.In s₁.heap) (hns:s₁.heap.Ns mainGlobals mg) (hb:s₁.heap.Ns builtinsNs mb) (hbb:∀x:Str,x≠"__name__"->mb x=bootBuiltins x) (hlim:s₁.heap.NoLimit) (hg:s₁.gens= #[])
 (ha:s₁.heap.get? a=some {cls:=.type "list",data:=.seq vs.toArray}) (hi:IntsAre vs ns) (hl:ns.length<=sizeLine) (hr:Room k callerA)
 (F:∀base:Heap,K.In base->base.Ns mainGlobals mg->fP P w K mg base CX k fa fd [x] sp) (hbind:∀(s:Shared) (u:Value),BindsTo s fd ⟨[u],[]⟩ [(x,u)])
 (hsp:∀H:Hp,wm H->SqL K H a (ns.map V.int)->sp [.ref a] H (λv _=>v= .bl true) λ_ _ _=>False)
 (hCX:∀H e s',CX [] H s₁ (λ_ _ _=>False) e s'->False):
 codeAny (model P w) callerA (.call (.ref fa) ⟨[.ref a],[]⟩) (λr s'=>r= .ok (.ret (.bool true))/\OldK s₁.heap s'.heap/\s'.os=s₁.os/\AllBare s'.gens) s₁:=by
 have rv:=nG hi
 have lenV:=hi.length
 -- from an abstract heap in which nothing but the script may be tracked
 have core:∀H:Hp,wm H->SqL K H a (ns.map V.int)->HOk P w H s₁.heap->(∀b,H b≠none->b=a)->(H a≠none->K.lookup a=none)->
  codeAny (model P w) callerA (.call (.ref fa) ⟨[.ref a],[]⟩) (λr s'=>r= .ok (.ret (.bool true))/\OldK s₁.heap s'.heap/\s'.os=s₁.os/\AllBare s'.gens) s₁:=by
  intro H hO hS hok hA hK
  have base_of:∀{b:Addr} {o:Obj},s₁.heap.get? b=some o->H b=none->(jE s₁.heap H).get? b=some o:=λe n=>vR e n
  have noA:∀{b:Addr} {o:Obj} {es:Array DictEntry} {ep:Nat},s₁.heap.get? b=some o->o.data= .dict es ep->H b=none:=λ{b o es ep} e d=>by
   cases q:H b with
   | none=>rfl
   | some u=>
    have e':b=a:=hA b (by rw [q];simp)
    subst e'
    rw [ha] at e;cases e
    have d':Data.seq vs.toArray _=Data.dict es ep:=d
    cases d'
  have nsK:∀{b:Addr} {m:Str->Option Value},s₁.heap.Ns b m->(jE s₁.heap H).Ns b m:=λ{b m} ⟨o,es,ep,e,d,r⟩=>⟨o,es,ep,base_of e (noA e d),d,r⟩
  have hKb:K.In (jE s₁.heap H):=λb o e=>base_of (KX b o e) (by
   cases q:H b with
   | none=>rfl
   | some u=>
    have e':b=a:=hA b (by rw [q];simp)
    subst e'
    rw [hK (by rw [q];simp)] at e;cases e)
  have hM:Mod K mg (jE s₁.heap H):=⟨hKb,nsK hns,⟨mb,nsK hb,hbb⟩,let ⟨mc,h1,h2⟩:=hlim;⟨mc,nsK h1,h2⟩⟩
  have e0:sD P w K mg (jE s₁.heap H) callerA [] s₁ H:=⟨rfl,hM,λb o e=>xU e,Nat.le_of_eq (ua _ _),trivial,λb hb=>absurd (show b∈([]:List Addr) from hb) (by simp),hok,.of_eq hg⟩
  refine codeAny_mono ((F _ hKb (nsK hns)).run callerA [] s₁ H ⟨[.ref a],[]⟩ [.ref a] [.ref a] _ _ hr e0 (hbind s₁ (.ref a)) (.cons rfl .nil) (hsp H hO hS)) λr s' h=>?_
  cases r with
  | error e=>exact(hCX H e s' h).elim
  | ok fl=>
   cases fl with
   | next=>exact False.elim h
   | brk=>exact False.elim h
   | cont=>exact False.elim h
   | ret u=>
    obtain⟨v,H',os,bare,un,hok',r',q⟩:=h
    have q':v= .bl true:=q
    subst q'
    obtain rfl:u=Value.bool true:=r'
    refine⟨rfl,OldK.of_keep λb o e=>?_,os,bare⟩
    cases q:H b with
    | none=>exact un.keep b o e q (by intro z;exact absurd (show b∈([]:List Addr) from z) (by simp)) (by simp)
    | some u=>
     rcases hO b with z | ⟨ob,xs,z⟩
     ·rw [q] at z;cases z
     ·have z2:=un.frzs b ob _ z
      obtain⟨e1,_⟩:=hok b _ z
      obtain⟨e2,_⟩:=hok' b _ z2
      rw [e] at e1;cases e1
      exact e2
 cases hk:K.lookup a with
 | some o=>
  -- the script is one of the module's own objects
  have e:=KX a o hk
  rw [ha] at e
  cases e
  refine core (λ_=>none) (λ_=>.inl rfl) (.inr ⟨_,vs.toArray,_,hk,rfl,rfl,rfl,by rw [size_toArray,lenV];exact hl,by simpa using rv⟩) (λb u z=>by have z':(none:Option HO)=some u:=z;cases z') (λb z=>absurd rfl z) λz=>absurd rfl z
 | none=>
  refine core (λb=>if b=a then some (.frz {cls:=.type "list",data:=.seq vs.toArray} (.lst (ns.map V.int))) else none) (λb=>?_) (.inl (.inr ⟨{cls:=.type "list",data:=.seq vs.toArray},if_pos rfl⟩)) (λb u z=>?_) (λb z=>?_) λ_=>hk
  ·by_cases hb:b=a
   ·exact .inr ⟨_,_,if_pos hb⟩
   ·exact .inl (if_neg hb)
  ·by_cases hb:b=a
   ·have z':=(if_pos hb).symm.trans z
    cases z'
    subst hb
    exact⟨ha,by rw [length_map];exact hl,vs,_,rv,ha⟩
   ·have z':=(if_neg hb).symm.trans z
    cases z'
  ·by_cases hb:b=a
   ·exact hb
   ·exact absurd (if_neg hb) z
end L2
/- THE LAST THEOREM (shape;LID,My.* are yours):
 My.Adr:a structure of the addresses that your layer names (classes,functions);My.Txt K t:a structure (Prop) of the equations over K;
 My.txt_mk:{K} {implicit addresses ..} (e1:nsIn K mainGlobals "law" =some (some (.ref f))) (e2:K.lookup f=some ⟨oc,od,.func (fnOf "law" "law" params body scope dV kV doc pm an cdv ct),sl⟩) (e3:codeIn K cdv "law" =true) ..:∃t,My.Txt K t
set_option maxRecDepth 100000 in
set_option maxHeartbeats 0 in
theorem PySem.Challenge.cw_LID_holds : PySem.Challenge.rw_LID.Holds := by
 w_on;o_law;k_head;(case hw=>w_witness2)
 k_fill
 refine L2.walk_of (l:=PySem.Challenge.rw_LID) (n:=63) (k:=40) (x:="script") (CX:=λw=>..) (sp:=λ_=>My.sp_law) rfl (by decide) rfl ⟨rfl,by decide,by decide⟩ (λw h Y=>kIn_of Y) ?F ?S ?C
 case F=>
  intro w mg fa h KX G hmg
  have T:∃t,My.Txt (L2.KOf KX) t:=by
   dsimp only [L2.KOf] -- K must stand as «<heap const> w.params» for k_is
   refine' My.txt_mk ?e1 ?e2 ?e3 ..
   (case e1=>PySem.W.k_is) -- in the order: a name -> its address -> its object -> its parts
   (case e2=>PySem.W.k_is)
   ..
  obtain⟨t,T⟩:=T
  have e0:=hmg.symm.trans (PySem.W.mg_of KX G T.law)
  cases e0 -- fa is the law's own address
  exact⟨_,λs u=>.of_eq rfl,λbase kb nb=>My.law_fn T kb nb⟩ -- if «.of_eq rfl» comes too early: refine' ⟨_, ?b, fun base kb nb => My.law_fn T kb nb⟩; exact fun s u => .of_eq rfl
 case S=>exact λw H a ns hl hO hS=>..
 case C=>exact ..
(the tactic k_is has no namespace:write k_is) -/
namespace L2
open PySem PySem.Spec PyProof.Rows
def jk(s:Stmt):Arguments:=match s with
 | .FunctionDef _ a _ _ _ _ _ _ _ _=>a
 | _=>{posonlyargs:=[],args:=[],vararg:=none,kwonlyargs:=[],kw_defaults:=[],kwarg:=none,defaults:=[]}
def fq(s:Stmt):List Stmt:=match s with
 | .FunctionDef _ _ b _ _ _ _ _ _ _=>b
 | _=>[]
def au(s:Stmt):Scope:=match s with
 | .FunctionDef _ _ _ _ _ _ sc _ _ _=>sc
 | _=>{kind:=.function,names:=[],isGenerator:=false,isCoroutine:=false}
abbrev CX0:CXT:=λ_ _ _ _ _ _=>False
abbrev E0:XK:=λ_ _ _=>False
theorem xq{X:Cx}:ic CX0 X E0:=λ_ _ _ _ _ _ _ h=>h.elim
structure Fun(K:PySem.W.Frag)(x qual:Str)(st:Stmt)(f:Addr)(fd:FuncData):Prop where
 ex:∃(oc:Value) (od:Option Addr) (kV doc pm:Value) (an:Option Addr) (cdv ct:Value) (osl:Array (Option Value)),
  fd=PySem.W.fnOf x qual (jk st) (fq st) (au st) .none kV doc pm an cdv ct/\K.lookup f=some ⟨oc,od,.func fd,osl⟩/\PySem.W.codeIn K cdv qual=true
 kp:PySem.W.keepIn K (.ref f)=true
section
variable{P:Program}{w:World}{K:PySem.W.Frag}{mg:Str->Option Value}{base:Heap}
theorem Fun.ok{x qual:Str}{st:Stmt}{f:Addr}{fd:FuncData}{N ps:List Str}{k:Nat}{sp:Sp}(F:Fun K x qual st f fd)(S:aC N ps (au st))(len:∀vs H Q E,sp vs H Q E->vs.length=ps.length)
 (hbody:∀(cdv:Value) (A:Around) (outer:List Env) (s:Shared) (H:Hp) (vs:List V) (Q:VK) (E:XK),Room k (A.deeper (envOfC qual (au st) s.heap.objs.size f cdv))->sp vs H Q E->
  ∃t,PSs (bX CX0 P w K mg base N qual (au st) f cdv A outer s H E).nox (fq st) t/\t {nx:=λ_ H'=>Q .non H',rt:=Q} (start N vs) H):fP P w K mg base CX0 (k+1) f fd ps sp:=by
 obtain⟨oc,od,kV,doc,pm,an,cdv,ct,osl,rfl,lk,hcd⟩:=F.ex
 refine ow lk hcd S len λA outer s H vs Q E hr hsp=>?_
 obtain⟨t,h,q⟩:=hbody cdv A outer s H vs Q E hr hsp
 exact⟨t,h.nox,q⟩
end
theorem nH{n:Nat}(h:n<=1000):n<sizeLine:=Nat.lt_of_le_of_lt h (by decide)
section
variable{X:Cx}
theorem pv(i:Nat){x:Str}{pos:Pos}(hN:X.N[i]? =some x:=by rfl)(hv:Vis X.env.scope x:=by first | exact Or.inl rfl | exact Or.inr (Or.inl rfl) | exact Or.inr (Or.inr rfl))(hd:(x==("__debug__":Str))=false:=by decide)
 (hcd:(x==("__classdict__":Str))=false:=by decide):PE X (.Name x pos) (cJ i):=zt hN hv hd hcd
end
theorem cK{A B:Prop}(h:B):if false=true then A else B:=by
 rw [if_neg Bool.false_ne_true]
 exact h
theorem cX{A B:Prop}(h:A):if true=true then A else B:=by
 rw [if_pos rfl]
 exact h
theorem aY{c A B:Prop}[Decidable c](h1:c->A)(h2:¬c->B):if c then A else B:=by
 by_cases h:c
 ·rw [if_pos h]
  exact h1 h
 ·rw [if_neg h]
  exact h2 h
def Same(H H':Hp):Prop:=∀b o,H b=some o->H' b=some o
theorem Same.refl(H:Hp):Same H H:=λ_ _ h=>h
theorem Same.trans{H H1 H2:Hp}(a:Same H H1)(b:Same H1 H2):Same H H2:=λc o h=>b c o (a c o h)
theorem Same.free{H H':Hp}(e:Same H H'){l:Addr}(h:H' l=Option.none):H l=Option.none:=by
 cases q:H l with
 | none=>rfl
 | some o=>
  rw [e l o q] at h
  cases h
section
variable{X:Cx}
end
section
variable{κ:Type}[DecidableEq κ]
end
end L2
set_option maxHeartbeats 4000000
namespace L2
open PySem PySem.Spec PyProof.Rows
mutual
inductive Rp (K:PySem.W.Frag) (H:Hp):V->PyData->Prop
 | non:Rp K H .non .none
 | bl (b:Bool):Rp K H (.bl b) (.bool b)
 | int (i:Int):Rp K H (.int i) (.int i)
 | str (x:Str):Rp K H (.str x) (.str x)
 | lst {a:Addr} {xs:List V} {ds:List PyData}:H a=some (.lst xs)->RpL K H xs ds->Rp K H (.ref a) (.list ds)
 | tup {a:Addr} {xs:List V} {ds:List PyData}:H a=some (.tup xs)->RpL K H xs ds->Rp K H (.ref a) (.tuple ds)
inductive RpL (K:PySem.W.Frag) (H:Hp):List V->List PyData->Prop
 | nil:RpL K H [] []
 | cons {x:V} {d:PyData} {xs:List V} {ds:List PyData}:Rp K H x d->RpL K H xs ds->RpL K H (x::xs) (d::ds)
end
theorem Same.tupq{K:PySem.W.Frag}{H H':Hp}{a:Addr}{xs:List V}(e:Same H H')(h:SqT K H a xs):SqT K H' a xs:=by
 rcases h with (h | ⟨o,h⟩) | h
 ·exact .inl (.inl (e _ _ h))
 ·exact .inl (.inr ⟨o,e _ _ h⟩)
 ·exact .inr h
mutual
theorem Rp.mono{K:PySem.W.Frag}{H H':Hp}(g:Same H H'):∀{v:V} {d:PyData},Rp K H v d->Rp K H' v d
 | _,_,.non=>.non
 | _,_,.bl b=>.bl b
 | _,_,.int i=>.int i
 | _,_,.str x=>.str x
 | _,_,.lst h r=>.lst (g _ _ h) (RpL.mono g r)
 | _,_,.tup h r=>.tup (g _ _ h) (RpL.mono g r)
theorem RpL.mono{K:PySem.W.Frag}{H H':Hp}(g:Same H H'):∀{vs:List V} {ds:List PyData},RpL K H vs ds->RpL K H' vs ds
 | _,_,.nil=>.nil
 | _,_,.cons h r=>.cons (Rp.mono g h) (RpL.mono g r)
end
mutual
theorem Rp.reads{X:Cx}{pins:List (Addr×Obj)}{σ:St}{H:Hp}{s:Shared}(I:Inv X pins σ H s):∀{v:V} {d:PyData} {u:Value},Rp X.K H v d->RelV v u->∃as,Reads s.heap u d as
 | _,_,_,.non,r=>by cases r;exact⟨_,.none⟩
 | _,_,_,.bl b,r=>by cases r;exact⟨_,.bool b⟩
 | _,_,_,.int i,r=>by obtain⟨t,rfl⟩:=r;exact⟨_,.int i t⟩
 | _,_,_,.str x,r=>by obtain⟨t,rfl⟩:=r;exact⟨_,.str x t⟩
 | _,_,_,.lst h q,r=>by
  cases r
  obtain⟨its,rv,⟨o,n,e,hc,hd,hs⟩,_⟩:=I.list (SqL.of h)
  obtain⟨as,ra⟩:=RpL.reads I q rv
  exact⟨_,.list e hc hs (by simpa using ra)⟩
 | _,_,_,.tup h q,r=>by
  cases r
  obtain⟨its,rv,⟨o,e,hc,n,hs⟩,_⟩:=I.tuple (SqT.of h)
  obtain⟨as,ra⟩:=RpL.reads I q rv
  exact⟨_,.tuple e hc hs (by simpa using ra)⟩
theorem RpL.reads{X:Cx}{pins:List (Addr×Obj)}{σ:St}{H:Hp}{s:Shared}(I:Inv X pins σ H s):∀{vs:List V} {ds:List PyData} {us:List Value},RpL X.K H vs ds->Vals vs us->∃as,ReadsAll s.heap us ds as
 | _,_,_,.nil,.nil=>⟨_,.nil⟩
 | _,_,_,.cons h q,.cons r t=>by
  obtain⟨as,ra⟩:=Rp.reads I h r
  obtain⟨bs,rb⟩:=RpL.reads I q t
  exact⟨_,.cons ra rb⟩
end
theorem bt{H:Hp}{p:Addr}(h:H p=none)(o:HO):Same H (upd H p o):=λb u q=>by rw [aO (bN q h)];exact q
section
variable{X:Cx}
def Aa(K:PySem.W.Frag):R2:=λx y H Q=>∃d e,Rp K H x d/\Rp K H y e/\SeqAt.shaped d=true/\SeqAt.shaped e=true/\Q (.bl (PyData.eqv d e)) H
theorem Ab(hu:X.A.units+64<cLine):OpR X (compareOp .Eq) (Aa X.K):=by
 intro pins s σ H x y v u Q I rx ry h
 obtain⟨d,e,hx,hy,sd,se,q⟩:=h
 obtain⟨as,ra⟩:=hx.reads I rx
 obtain⟨bs,rb⟩:=hy.reads I ry
 exact eq_dataH ra rb sd se hu ⟨.bl _,H,I,rfl,q⟩
theorem x5 {n : Str} {T : String} {pos : Pos} (hg : Gl X n) (hm : X.mg n = none) (hv : bootBuiltins n = some (.type T)) (hn : n ≠ "__name__" := by decide) (hd : (n == ("__debug__" : Str)) = false := by decide) : PE X (.Name n pos) (tC (.ty T)) :=
  xW hg hm hv rfl hn hd
end
def ii:R2:=λx y H Q=>∃p i xs v,x= .ref p/\y= .int i/\(H p=some (.tup xs)\/H p=some (.lst xs))/\atI xs i=some v/\Q v H
theorem av{X:Cx}:IxR X ii:=by
 intro value slice pins s σ H x y v u Q I rx ry h hs
 obtain⟨p,i,xs,z,rfl,rfl,hq,he,q⟩:=h
 rcases hq with hq | hq
 ·exact zT value slice pins s σ H _ _ v u Q I rx ry ⟨p,xs,i,z,rfl,rfl,SqT.of hq,he,q⟩ hs
 ·exact rn value slice pins s σ H _ _ v u Q I rx ry ⟨p,xs,i,z,rfl,rfl,SqL.of hq,he,q⟩ hs
theorem lR{α:Type}{a:α}{l:List α}:atI (a::l) 0=some a:=bU (j:=0) rfl
theorem xr{α:Type}{a b:α}{l:List α}:atI (a::b::l) 1=some b:=bU (j:=1) rfl
theorem xt{α:Type}{a b c:α}{l:List α}:atI (a::b::c::l) 2=some c:=bU (j:=2) rfl
theorem CN{α:Type}{a b c d:α}{l:List α}:atI (a::b::c::d::l) 3=some d:=bU (j:=3) rfl
theorem CO{α:Type}{a b c d e:α}{l:List α}:atI (a::b::c::d::e::l) 4=some e:=bU (j:=4) rfl
theorem eU{α:Type}{xs:List α}{i:Int}(h0:0<=i)(h1:i<xs.length):∃v,atI xs i=some v/\v∈xs/\xs[i.toNat]? =some v:=by
 have hk:i.toNat<xs.length:=by lia
 have e:((i.toNat:Nat):Int)=i:=by lia
 refine⟨xs[i.toNat],?_,getElem_mem hk,getElem?_eq_getElem hk⟩
 have:=bU (xs:=xs) (j:=i.toNat) (v:=xs[i.toNat]) (getElem?_eq_getElem hk)
 rwa [e] at this
theorem dD{H:Hp}{o:HO}{R:Addr->Hp->Prop}(h:∀p H',H p=none->Same H H'->H' p=some o->R p H'):∀p,H p=none->R p (upd H p o):=λp hp=>h p _ hp (bt hp o) aX
theorem sz{n:Nat}(h:n<=1000):(n<=sizeLine)=True:=eq_true (le_of_lt (nH h))
theorem mn1{n:Nat}:min 1 (n+1)=1:=by lia
theorem mn2{n:Nat}:min 2 (n+2)=2:=by lia
theorem na2:Int.natAbs 2=2:=rfl
theorem D6:Int.natAbs 10=10:=rfl
theorem sz0:(0<=sizeLine)=True:=sz (by decide)
theorem sz1:(1<=sizeLine)=True:=sz (by decide)
theorem sz2:(2<=sizeLine)=True:=sz (by decide)
theorem sz3:(3<=sizeLine)=True:=sz (by decide)
theorem sz4:(4<=sizeLine)=True:=sz (by decide)
theorem sz5:(5<=sizeLine)=True:=sz (by decide)
theorem sz6:(6<=sizeLine)=True:=sz (by decide)
theorem o8 {a b : String} : (Str.ofString a = Str.ofString b) = (a = b) := by
  apply propext
  constructor
  · intro h
    rw [Str.ofString_eq_toList, Str.ofString_eq_toList] at h
    injection h with h
    have h2 : a.toList.map Char.toNat = b.toList.map Char.toNat := by simpa using congrArg Array.toList h
    have inj : ∀ c d : Char, c.toNat = d.toNat → c = d := fun c d e => Char.ext (UInt32.toNat_inj.mp e)
    exact String.toList_inj.mp (List.map_inj_right (fun c d e => inj c d e) |>.mp h2)
  · rintro rfl; rfl
theorem RpL.nil_inv{K:PySem.W.Frag}{H:Hp}{vs:List V}(h:RpL K H vs []):vs= []:=by cases h;rfl
theorem RpL.cons_inv{K:PySem.W.Frag}{H:Hp}{vs:List V}{d:PyData}{ds:List PyData}(h:RpL K H vs (d::ds)):∃x xs,vs=x::xs/\Rp K H x d/\RpL K H xs ds:=by cases h with | cons a b=>exact⟨_,_,rfl,a,b⟩
theorem Rp.str_inv{K:PySem.W.Frag}{H:Hp}{v:V}{x:Str}(h:Rp K H v (.str x)):v= .str x:=by cases h;rfl
theorem Rp.int_inv{K:PySem.W.Frag}{H:Hp}{v:V}{x:Int}(h:Rp K H v (.int x)):v= .int x:=by cases h;rfl
theorem Rp.tup_inv{K:PySem.W.Frag}{H:Hp}{v:V}{ds:List PyData}(h:Rp K H v (.tuple ds)):∃a xs,v= .ref a/\H a=some (.tup xs)/\RpL K H xs ds:=by cases h with | tup a b=>exact⟨_,_,rfl,a,b⟩
theorem Rp.tup1{K:PySem.W.Frag}{H:Hp}{v:V}{d:PyData}(h:Rp K H v (.tuple [d])):∃a x,v= .ref a/\H a=some (.tup [x])/\Rp K H x d:=by
 obtain⟨a,xs,rfl,ha,r⟩:=h.tup_inv
 obtain⟨x,xs,rfl,hx,r⟩:=r.cons_inv
 cases r.nil_inv
 exact⟨a,x,rfl,ha,hx⟩
theorem Rp.tup2{K:PySem.W.Frag}{H:Hp}{v:V}{d e:PyData}(h:Rp K H v (.tuple [d,e])):∃a x y,v= .ref a/\H a=some (.tup [x,y])/\Rp K H x d/\Rp K H y e:=by
 obtain⟨a,xs,rfl,ha,r⟩:=h.tup_inv
 obtain⟨x,xs,rfl,hx,r⟩:=r.cons_inv
 obtain⟨y,xs,rfl,hy,r⟩:=r.cons_inv
 cases r.nil_inv
 exact⟨a,x,y,rfl,ha,hx,hy⟩
theorem Rp.tup3{K:PySem.W.Frag}{H:Hp}{v:V}{d e f:PyData}(h:Rp K H v (.tuple [d,e,f])):∃a x y z,v= .ref a/\H a=some (.tup [x,y,z])/\Rp K H x d/\Rp K H y e/\Rp K H z f:=by
 obtain⟨a,xs,rfl,ha,r⟩:=h.tup_inv
 obtain⟨x,xs,rfl,hx,r⟩:=r.cons_inv
 obtain⟨y,xs,rfl,hy,r⟩:=r.cons_inv
 obtain⟨z,xs,rfl,hz,r⟩:=r.cons_inv
 cases r.nil_inv
 exact⟨a,x,y,z,rfl,ha,hx,hy,hz⟩
def gv:V->Option Key
 | .int i=>some (.inl i)
 | .str x=>some (.inr x)
 | _=>none
theorem sK{y:V}{k:Key}(h:gv y=some k):y=kV k:=by
 cases y<;>simp only [gv,Option.some.injEq,reduceCtorEq] at h<;>subst h<;>rfl
section
variable{X:Cx}{i o e value:Expr}{ty td te tv:TE}{pos pos' apos cpos:Pos}
def D8(to te:TE):TE:=λσ H Q=>to σ H λx H1=>∃l xs,x= .ref l/\H1 l=some (.lst xs)/\te σ H1 λy H2=>mH (.ref l) [y] H2 Q
theorem Ac(ho:PE X o td)(he:PE X e te)
 (hbase:attributeBase o "append" X.env (eval o X.env)=eval o X.env:=by rfl)
 (hfew:((backTo cpos (starEach [e] X.env)).all (λx=>!x.1)&&(backToKw cpos (keywordEach [] X.env)).all (λx=>x.1.isSome)
  && decide ([e].length+([]:List Keyword).length+(if ([]:List Keyword).isEmpty then 0 else 1)<30))=true:=by rfl)
 (hline:(apos.endLine==cpos.line)=true:=by rfl) (hs:starEach [e] X.env= [(false,eval e X.env)]:=by rfl):
 PE X (.Call (.Attribute o "append" apos) [e] [] cpos) (D8 td te):=by
 intro pins s σ H Q I h
 refine wpAny_Call_method_late hbase hfew hline rfl (thn (ho pins s σ H _ I h) λv s1 ⟨x,H1,I1,r1,l,xs,ex,hl,q1⟩=>?_)
 subst ex
 obtain⟨h1,h2⟩:=oX (T:="list") I1 r1 (Or.inl ⟨rfl,xs,SqL.of hl⟩)
 refine⟨"list",_,PySem.F.plainAttrs_list,PySem.F.slot_list_append,PySem.F.type_list_append,h1,h2,?_⟩
 have hA:=(q0 he ad (hs:=by rw [hs];rfl)) cpos pins s1 σ H1 (λvs H2=>mH (.ref l) vs H2 Q) I1 q1
 rw [hs] at hA⊢
 refine Calls.callWith_builtin (by rfl) (Calls.evalArgs_plain ?_)
 exact thn hA λus s2 ⟨vs,H2,I2,r2,q2⟩=>iJ pins s2 σ H2 _ vs v us Q I2 r1 r2 q2
end
theorem x6{a b:Str}:iS (.str a) (.str b)=true:=rfl
theorem x8{a b:Int}:iS (.int a) (.int b)=true:=rfl
theorem ya{a b:Bool}:iS (.bl a) (.bl b)=true:=rfl
theorem yb:iS .non .non=true:=rfl
theorem yc{b:Str}:iS .non (.str b)=true:=rfl
theorem ye{b:Str}:iS (.str b) .non=true:=rfl
theorem yf{b:Int}:iS .non (.int b)=true:=rfl
theorem yg{b:Int}:iS (.int b) .non=true:=rfl
theorem yh{a:Str}:gv (.str a)=some (.inr a):=rfl
theorem yi{a:Int}:gv (.int a)=some (.inl a):=rfl
theorem Ad{a:Str}:di (.str a)=true:=rfl
theorem Ae{a:Int}:di (.int a)=true:=rfl
theorem Af:di .non=true:=rfl
theorem Ag{a:Bool}:di (.bl a)=true:=rfl
theorem eK{x:V}:inV x []=false:=rfl
theorem bR{x y:V}{l:List V}:inV x (y::l)=(eqV y x || inV x l):=rfl
theorem dj{a b:Str}:eqV (.str a) (.str b)=decide (a=b):=by
 show(a==b)=_
 rw [Bool.eq_iff_iff];simp
theorem Ah{a b:Int}:eqV (.int a) (.int b)=decide (a=b):=by
 show(a==b)=_
 rw [Bool.eq_iff_iff];simp
theorem D9{CX:CXT}{P:Program}{w:World}{K:PySem.W.Frag}{mg:Str->Option Value}{base:Heap}{N:List Str}{qual:Str}{scope:Scope}{f:Addr}{cd:Value}{A:Around}{outer:List Env}{s:Shared}{H:Hp}{E:XK}:(bX CX P w K mg base N qual scope f cd A outer s H E).K=K:=rfl
section
variable{X:Cx}
def o9(neg:Bool):R2:=λx y H Q=>∃p xs,y= .ref p/\(H p=some (.tup xs)\/H p=some (.lst xs))/\di x=true/\xs.all di=true/\Q (.bl (if neg then !inV x xs else inV x xs)) H
theorem dR:OpR X (compareOp .In) (o9 false):=by
 intro pins s σ H x y v u Q I rx ry h
 obtain⟨p,xs,rfl,hq,fx,fs,q⟩:=h
 exact ur pins s σ H x _ v u Q I rx ry ⟨p,xs,rfl,hq.symm.imp SqL.of SqT.of,fx,fs,q⟩
theorem uw:OpR X (compareOp .NotIn) (o9 true):=by
 intro pins s σ H x y v u Q I rx ry h
 obtain⟨p,xs,rfl,hq,fx,fs,q⟩:=h
 exact j4 pins s σ H x _ v u Q I rx ry ⟨p,xs,rfl,hq.symm.imp SqL.of SqT.of,fx,fs,q⟩
def xu(n:Nat)(t:TGs):TG:=λv σ H Q=>∃a xs,v= .ref a/\H a=some (.tup xs)/\xs.length=n/\t xs σ H Q
theorem dO{es:List Expr}{k:Nat}{t:TGs}{pos:Pos}(n:Nat)(hc:X.calm=true)(h:PGs X es t)
 (hn:(assignEach es X.env).length=n:=by rfl) (hst:(assignEach es X.env).findIdx? (·.1)=none:=by rfl):PG X (.Tuple es k pos) (xu n t):=by
 intro pins s σ H v u Q I r hw
 obtain⟨a,xs,e1,hq,hl,hw⟩:=hw
 exact ud hc h hn hst pins s σ H v u Q I r ⟨a,xs,e1,SqT.of hq,hl,hw⟩
def tM(t:TE):TE:=λσ H Q=>∃Q1:VK,t σ H Q1/\∀v H',Q1 v H'->Q v H'
theorem PE.up{e:Expr}{t:TE}(h:PE X e t):PE X e (tM t):=by
 intro pins s σ H Q I hq
 obtain⟨Q1,h1,h2⟩:=hq
 exact thn (h pins s σ H Q1 I h1) λu s' ⟨v,H',I',r,q⟩=>⟨v,H',I',r,h2 v H' q⟩
def sL:V->Option Int->Option Int->Hp->VK->Prop:=λx lo hi H Q=>∃a xs,x= .ref a/\
 ((H a = some (.tup xs) ∧ ¬ (HT.sIx xs.length 0 lo = 0 ∧ HT.sIx xs.length xs.length hi = xs.length) ∧ ∀ p H', H p = none → Same H H' → H' p = some (.tup (cw xs lo hi)) → Q (.ref p) H') ∨
  (H a=some (.lst xs)/\∀p H',H p=none->Same H H'->H' p=some (.lst (cw xs lo hi))->Q (.ref p) H'))
theorem fQ:SlR X sL:=by
 intro pins s σ H x v vl vu lo hi sl Q I rx hs pl pu h
 obtain⟨a,xs,rfl,⟨ha,hn,q⟩ | ⟨ha,q⟩⟩:=h
 ·exact zQ pins s σ H _ v vl vu lo hi sl Q I rx hs pl pu ⟨a,xs,rfl,SqT.of ha,hn,dD q⟩
 ·exact rq pins s σ H _ v vl vu lo hi sl Q I rx hs pl pu ⟨a,xs,rfl,SqL.of ha,dD q⟩
def Ea(K:PySem.W.Frag):V->Option Int->Option Int->Hp->VK->Prop:=λx lo hi H Q=>∃a xs,x= .ref a/\SqL K H a xs/\∀p H',H p=none->Same H H'->H' p=some (.lst (cw xs lo hi))->Q (.ref p) H'
theorem Ai:SlR X (Ea X.K):=by
 intro pins s σ H x v vl vu lo hi sl Q I rx hs pl pu h
 obtain⟨a,xs,rfl,ha,q⟩:=h
 exact rq pins s σ H _ v vl vu lo hi sl Q I rx hs pl pu ⟨a,xs,rfl,ha,dD q⟩
def tMA(t:TA):TA:=λσ H Q=>∃Q1:List V->Hp->Prop,t σ H Q1/\∀vs H',Q1 vs H'->Q vs H'
theorem PA.up{es:List Expr}{t:TA}(h:PA X es t):PA X es (tMA t):=by
 intro pos pins s σ H Q I hq
 obtain⟨Q1,h1,h2⟩:=hq
 exact thn (h pos pins s σ H Q1 I h1) λus s' ⟨vs,H',I',r,q⟩=>⟨vs,H',I',r,h2 vs H' q⟩
def xv(t:TA):TE:=λσ H Q=>t σ H λxs H1=>xs.length<=sizeLine/\∀p H',H1 p=none->Same H1 H'->H' p=some (.tup xs)->Q (.ref p) H'
def oA(t:TA):TE:=λσ H Q=>t σ H λxs H1=>xs.length<=sizeLine/\∀p H',H1 p=none->Same H1 H'->H' p=some (.lst xs)->Q (.ref p) H'
theorem az{es:List Expr}{t:TA}{pos:Pos}{x1}(h:PA X es t):PE X (.Tuple es x1 pos) (xv t):=λpins s σ H Q I hq=>
 zM h.up pins s σ H Q I ⟨_,hq,λ_ _ q=>⟨q.1,dD q.2⟩⟩
theorem ak{es:List Expr}{t:TA}{pos:Pos}(h:PA X es t):PE X (.List es pos) (oA t):=λpins s σ H Q I hq=>
 zN h.up pins s σ H Q I ⟨_,hq,λ_ _ q=>⟨q.1,dD q.2⟩⟩
structure Mu(H:Hp)(l:Addr)(o:HO)(H':Hp):Prop where
 at_:H' l=some o
 else_:∀a,a≠l->H' a=H a
theorem Mu.mk'{H:Hp}{l:Addr}{o:HO}:Mu H l o (upd H l o):=⟨aX,λ_ h=>aO h⟩
theorem Mu.old{H H':Hp}{l a:Addr}{o u:HO}(m:Mu H l o H')(h:H a=some u)(n:a≠l):H' a=some u:=by rw [m.else_ a n];exact h
theorem Mu.same{H0 H H':Hp}{l:Addr}{o:HO}(m:Mu H l o H')(g:Same H0 H)(n:H0 l=none):Same H0 H':=λa u h=>m.old (g a u h) (bN h n)
def xx(to te:TE):TE:=λσ H Q=>to σ H λx H1=>∃l xs,x= .ref l/\H1 l=some (.lst xs)/\te σ H1 λy H2=>∃ys,H2 l=some (.lst ys)/\ys.length<sizeLine/\∀H3,Mu H2 l (.lst (ys++[y])) H3->Q .non H3
theorem bp{o e:Expr}{td te:TE}{apos cpos:Pos}(ho:PE X o td)(he:PE X e te)
 (hbase:attributeBase o "append" X.env (eval o X.env)=eval o X.env:=by rfl)
 (hfew:((backTo cpos (starEach [e] X.env)).all (λx=>!x.1)&&(backToKw cpos (keywordEach [] X.env)).all (λx=>x.1.isSome)
  && decide ([e].length+([]:List Keyword).length+(if ([]:List Keyword).isEmpty then 0 else 1)<30))=true:=by rfl)
 (hline:(apos.endLine==cpos.line)=true:=by rfl) (hs:starEach [e] X.env= [(false,eval e X.env)]:=by rfl):
 PE X (.Call (.Attribute o "append" apos) [e] [] cpos) (xx td te):=λpins s σ H Q I h=>
 Ac ho.up he.up hbase hfew hline hs pins s σ H Q I ⟨_,h,λ_ _ ⟨l,xs,e1,h1,q⟩=>⟨l,xs,e1,h1,_,q,λy _ ⟨ys,h2,hz,q⟩=>⟨l,ys,y,rfl,rfl,h2,hz,q _ .mk'⟩⟩⟩
def rA:List (V×V)->Option (List (Key×V))
 | []=>some []
 | (x,y)::r=>(gv x).bind λk=>(rA r).bind λl=>some ((k,y)::l)
def sM(a:Addr)(o:HO)(g:TG)(tb:TS)(D:Ends):List V->St->Hp->Prop
 | [],σ,H=>H a=some o/\D.nx σ H
 | x::r,σ,H=>H a=some o/\g x σ H λσ2 H2=>tb {D with nx:=sM a o g tb D r,ct:=sM a o g tb D r,bk:=D.nx} σ2 H2
end
def hoT:HO->Option String
 | .lst _=>some "list"
 | .tup _=>some "tuple"
 | .dK _=>some "dict"
 | _=>none
def tyG(H:Hp):V->Option String
 | .non=>some "NoneType"
 | .bl _=>some "bool"
 | .int _=>some "int"
 | .str _=>some "str"
 | .ref a=>(H a).bind hoT
 | _=>none
theorem CP{H:Hp}:tyG H .non=some "NoneType":=rfl
theorem CQ{H:Hp}{x:Bool}:tyG H (.bl x)=some "bool":=rfl
theorem CS{H:Hp}{x:Int}:tyG H (.int x)=some "int":=rfl
theorem CU{H:Hp}{x:Str}:tyG H (.str x)=some "str":=rfl
theorem CV{H:Hp}{a:Addr}:tyG H (.ref a)=(H a).bind hoT:=rfl
theorem CY{xs:List V}:hoT (.lst xs)=some "list":=rfl
theorem CZ{xs:List V}:hoT (.tup xs)=some "tuple":=rfl
theorem C4{xs:List (Key×V)}:hoT (.dK xs)=some "dict":=rfl
theorem Aj{K:PySem.W.Frag}:kitOne K (.type "int") (.type "int")=some true:=rfl
theorem Ak{K:PySem.W.Frag}:kitOne K (.type "int") (.type "tuple")=some false:=rfl
theorem Al{K:PySem.W.Frag}:kitOne K (.type "int") (.type "list")=some false:=rfl
theorem Am{K:PySem.W.Frag}:kitOne K (.type "int") (.type "str")=some false:=rfl
theorem An{K:PySem.W.Frag}:kitOne K (.type "int") (.type "bool")=some false:=rfl
theorem Ao{K:PySem.W.Frag}:kitOne K (.type "int") (.type "dict")=some false:=rfl
theorem Ap{K:PySem.W.Frag}:kitOne K (.type "NoneType") (.type "int")=some false:=rfl
theorem Aq{K:PySem.W.Frag}:kitOne K (.type "NoneType") (.type "tuple")=some false:=rfl
theorem Ar{K:PySem.W.Frag}:kitOne K (.type "NoneType") (.type "list")=some false:=rfl
theorem As{K:PySem.W.Frag}:kitOne K (.type "NoneType") (.type "str")=some false:=rfl
theorem Au{K:PySem.W.Frag}:kitOne K (.type "NoneType") (.type "bool")=some false:=rfl
theorem Av{K:PySem.W.Frag}:kitOne K (.type "NoneType") (.type "dict")=some false:=rfl
theorem Aw{K:PySem.W.Frag}:kitOne K (.type "tuple") (.type "int")=some false:=rfl
theorem Ax{K:PySem.W.Frag}:kitOne K (.type "tuple") (.type "tuple")=some true:=rfl
theorem Ay{K:PySem.W.Frag}:kitOne K (.type "tuple") (.type "list")=some false:=rfl
theorem Az{K:PySem.W.Frag}:kitOne K (.type "tuple") (.type "str")=some false:=rfl
theorem AA{K:PySem.W.Frag}:kitOne K (.type "tuple") (.type "bool")=some false:=rfl
theorem AB{K:PySem.W.Frag}:kitOne K (.type "tuple") (.type "dict")=some false:=rfl
theorem AC{K:PySem.W.Frag}:kitOne K (.type "list") (.type "int")=some false:=rfl
theorem AD{K:PySem.W.Frag}:kitOne K (.type "list") (.type "tuple")=some false:=rfl
theorem AE{K:PySem.W.Frag}:kitOne K (.type "list") (.type "list")=some true:=rfl
theorem AF{K:PySem.W.Frag}:kitOne K (.type "list") (.type "str")=some false:=rfl
theorem AG{K:PySem.W.Frag}:kitOne K (.type "list") (.type "bool")=some false:=rfl
theorem AH{K:PySem.W.Frag}:kitOne K (.type "list") (.type "dict")=some false:=rfl
theorem AI{K:PySem.W.Frag}:kitOne K (.type "str") (.type "int")=some false:=rfl
theorem AJ{K:PySem.W.Frag}:kitOne K (.type "str") (.type "tuple")=some false:=rfl
theorem AK{K:PySem.W.Frag}:kitOne K (.type "str") (.type "list")=some false:=rfl
theorem AL{K:PySem.W.Frag}:kitOne K (.type "str") (.type "str")=some true:=rfl
theorem AM{K:PySem.W.Frag}:kitOne K (.type "str") (.type "bool")=some false:=rfl
theorem AN{K:PySem.W.Frag}:kitOne K (.type "str") (.type "dict")=some false:=rfl
theorem AO{K:PySem.W.Frag}:kitOne K (.type "bool") (.type "int")=some true:=rfl
theorem AQ{K:PySem.W.Frag}:kitOne K (.type "bool") (.type "tuple")=some false:=rfl
theorem AR{K:PySem.W.Frag}:kitOne K (.type "bool") (.type "list")=some false:=rfl
theorem AS{K:PySem.W.Frag}:kitOne K (.type "bool") (.type "str")=some false:=rfl
theorem AT{K:PySem.W.Frag}:kitOne K (.type "bool") (.type "bool")=some true:=rfl
theorem AU{K:PySem.W.Frag}:kitOne K (.type "bool") (.type "dict")=some false:=rfl
theorem AV{K:PySem.W.Frag}:kitOne K (.type "dict") (.type "int")=some false:=rfl
theorem AW{K:PySem.W.Frag}:kitOne K (.type "dict") (.type "tuple")=some false:=rfl
theorem AX{K:PySem.W.Frag}:kitOne K (.type "dict") (.type "list")=some false:=rfl
theorem AY{K:PySem.W.Frag}:kitOne K (.type "dict") (.type "str")=some false:=rfl
theorem AZ{K:PySem.W.Frag}:kitOne K (.type "dict") (.type "bool")=some false:=rfl
theorem A0{K:PySem.W.Frag}:kitOne K (.type "dict") (.type "dict")=some true:=rfl
def dA:Expr->Bool
 | .Starred _ _=>false
 | _=>true
theorem fw{e:Expr}{es:List Expr}{env:Env}(h:dA e=true):starEach (e::es) env=(false,eval e env)::starEach es env:=by
 cases e with
 | Starred v q=>exact absurd (show false=true from h) Bool.false_ne_true
 | _=>rfl
theorem eY{pos:Pos}{env:Env}:∀{es:List Expr},es.all dA=true->(backTo pos (starEach es env)).any (·.1)=false
 | [],_=>rfl
 | e::es,h=>by
  rw [List.all_cons,and_eq_true] at h
  rw [fw h.1]
  show(false || (backTo pos (starEach es env)).any (·.1))=false
  rw [eY h.2]
  rfl
section
variable{X:Cx}{e:Expr}{es:List Expr}{te:TE}{t:TA}{x:Str}{p pos:Pos}{id T:String}{r:List V->Hp->VK->Prop}
theorem aa(ha:PE X e te)(hr:PA X es t)(hn:dA e=true:=by rfl):PA X (e::es) (gS te t):=q0 ha hr (fw hn)
theorem aN(hc:cy X (.builtin id) r)(hg:Gl X x)(hm:X.mg x=none)(hv:bootBuiltins x=some (.builtin id))(ha:PA X (e::es) t)(hn:x≠"__name__":=by decide)(hdb:(x==("__debug__":Str))=false:=by decide)
 (hs:(e::es).all dA=true:=by rfl):PE X (.Call (.Name x p) (e::es) [] pos) (tCB r t):=
 wc hc hg hm hv ha hn hdb (fw (Bool.and_eq_true_iff.mp hs).1) (eY (Bool.and_eq_true_iff.mp hs).2)
theorem dL(hc:cy X (.type T) r)(hg:Gl X x)(hm:X.mg x=none)(hv:bootBuiltins x=some (.type T))(ha:PA X (e::es) t)(hn:x≠"__name__":=by decide)(hdb:(x==("__debug__":Str))=false:=by decide)
 (hs:(e::es).all dA=true:=by rfl):PE X (.Call (.Name x p) (e::es) [] pos) (tCB r t):=
 uo hc hg hm hv ha hn hdb (fw (Bool.and_eq_true_iff.mp hs).1) (eY (Bool.and_eq_true_iff.mp hs).2)
end
structure DefAt(K:PySem.W.Frag)(mg:Str->Option Value)(x:Str)(st:Stmt)(ps:List Str):Prop where
 ex:∃f fd,mg x=some (.ref f)/\Fun K x x st f fd/\Binds K fd ps []
structure OkD(P:Program)(w:World)(K:PySem.W.Frag)(mg:Str->Option Value)(base:Heap)(n:Nat)(x:Str)(ps:List Str)(sp:Sp):Prop where
 ex:∃f fd,mg x=some (.ref f)/\PySem.W.keepIn K (.ref f)=true/\Binds K fd ps []/\fP P w K mg base CX0 n f fd ps sp
def sN(sp:Sp)(t:TA):TE:=λσ H Q=>t σ H λvs H1=>sp vs H1 Q E0
section
variable{P:Program}{w:World}{K:PySem.W.Frag}{mg:Str->Option Value}{base:Heap}{x:Str}{st:Stmt}{N ps:List Str}{k:Nat}{sp:Sp}
theorem DefAt.ok(D:DefAt K mg x st ps)(S:aC N ps (au st))(len:∀vs H Q E,sp vs H Q E->vs.length=ps.length)
 (hbody:∀(f:Addr) (cdv:Value) (A:Around) (outer:List Env) (s:Shared) (H:Hp) (vs:List V) (Q:VK) (E:XK),Room k (A.deeper (envOfC x (au st) s.heap.objs.size f cdv))->sp vs H Q E->
  ∃t,PSs (bX CX0 P w K mg base N x (au st) f cdv A outer s H E).nox (fq st) t/\t {nx:=λ_ H'=>Q .non H',rt:=Q} (start N vs) H):OkD P w K mg base (k+1) x ps sp:=by
 obtain⟨f,fd,hm,F,hb⟩:=D.ex
 exact⟨f,fd,hm,F.kp,hb,F.ok S len (hbody f)⟩
theorem DefAt.never(D:DefAt K mg x st ps)(n:Nat)(h:∀vs H Q E,¬sp vs H Q E):OkD P w K mg base n x ps sp:=by
 obtain⟨f,fd,hm,F,hb⟩:=D.ex
 exact⟨f,fd,hm,F.kp,hb,⟨λvs H Q E q=>absurd q (h vs H Q E),λA outer s H args us vs Q E _ _ _ _ q=>absurd q (h vs H Q E)⟩⟩
end
section
variable{X:Cx}{k n:Nat}{ps:List Str}{sp:Sp}{x:Str}{p pos:Pos}{e:Expr}{es:List Expr}{t:TA}
theorem aA(G:OkD X.prog X.w X.K X.mg X.base k x ps sp)(hr:Room n X.A)(hg:Gl X x)(ha:PA X (e::es) t)(hk:k<=n:=by lia)(hdb:(x==("__debug__":Str))=false:=by decide)
 (hs:(e::es).all dA=true:=by rfl):PE X (.Call (.Name x p) (e::es) [] pos) (sN sp t):=by
 obtain⟨f,fd,hm,kp,hb,F⟩:=G.ex
 intro pins s σ H Q I h
 refine rf F (hr.mono hk) hg hm kp hb .nil xq ha hdb (fw (Bool.and_eq_true_iff.mp hs).1) (eY (Bool.and_eq_true_iff.mp hs).2) pins s σ H Q I ?_
 have e:(λvs H1=>sp (vs++[]) H1 Q E0)=λvs H1=>sp vs H1 Q E0:=by funext vs H1;rw [append_nil]
 show t σ H λvs H1=>sp (vs++[]) H1 Q E0
 rw [e]
 exact h
theorem yj(G:OkD X.prog X.w X.K X.mg X.base k x ps sp)(hr:Room n X.A)(hg:Gl X x)(hk:k<=n:=by lia)(hdb:(x==("__debug__":Str))=false:=by decide):
 PE X (.Call (.Name x p) [] [] pos) (sN sp jH):=by
 obtain⟨f,fd,hm,kp,hb,F⟩:=G.ex
 exact wa F (hr.mono hk) hg hm kp hb .nil xq hdb
end
def oB(K:PySem.W.Frag):Sp:=λvs H Q _=>∃(a:Addr) (ns:List Int),vs= [.ref a]/\SqL K H a (ns.map V.int)/\ns.length<=63/\∀H',Q (.bl true) H'
structure Fly(h:Heap)(x T:Addr)(cls fl:Value):Prop where
 ex:∃oe vs oT ts,h.get? x=some oe/\oe.cls=cls/\oe.dict=none/\oe.data= .fields vs/\vs[1]? =some (.ref T)/\T≠x/\h.get? T=some oT/\oT.data= .fields ts/\ts[3]? =some fl
def CXr(P:Program)(w:World):CXT:=λouter H s E e s'=>∃(x T:Addr) (cls:Value) (H':Hp),e= .ref x/\s'.os=s.os/\AllBare s'.gens/\Un (frs outer) [] H H' s.heap s'.heap/\HOk P w H' s'.heap/\
 Fly s'.heap x T cls .none/\s.heap.get? x=none/\s.heap.get? T=none/\H' x=none/\H' T=none/\E cls none H'
structure Kept(x:Addr)(ts fr:List Addr)(h h':Heap):Prop where
 keep:∀b o,h.get? b=some o->b≠x->b∉ts->b∉fr->h'.get? b=some o
 slot:∀b o,h.get? b=some o->b≠x->b∉ts->∃sl,h'.get? b=some {o with slots:=sl}
theorem jl(o:Obj)(f:Array Value->Array Value):(o.mapFields f).dict=o.dict:=by
 cases o with | mk c d dt sl=>cases dt<;>rfl
section
variable{M:Model}{A:Around}{E:Value->Shared->Prop}{s:Shared}{base:Heap}{env:Env}{outer:List Env}{L x:Addr}{oe:Obj}{vs:Array Value}{Q:Unit->Shared->Prop}
theorem kQ{head:Value}{had:Bool}(hfr:A.frames=some (env::outer))(hl:s.heap.FunFrames base (env::outer))(hf:env.frame=some L)(hx:s.heap.get? x=some oe)(hd:oe.data= .fields vs)(hsz:1<vs.size)(hdc:oe.dict=none)
 (h:∀h' T,Kept x [] (frs (env::outer)) s.heap h'->s.heap.get? T=none->Fly h' x T oe.cls (rawInt L)->Q () {s with heap:=h'}):
 wpAny M A (do let a <-frameOf env;let pl <-entryPlaceOf L had;let b <-EntryCells.newEntry head a .none (rawInt L) .none pl;setField (.ref x) 1 b) Q E s:=by
 have xfr:x∉frs (env::outer):=λz=>by
  obtain⟨_,o,q,no⟩:=hl.mem z
  exact no vs (by rw [hx] at q;cases q;exact hd)
 refine wpAny_bind (wpAny_frameOf_fun hfr hl hf λg so=>wpAny_bind (wpAny_entryPlaceOf λpl hpl=>?_))
 unfold EntryCells.newEntry newFields
 refine wpAny_bind (wpAny_newObj_type ?_ (hpl.sizeOk5 _ _ _ _ _))
 have gx:g.get? x=some oe:=(so.2.1 x xfr).trans hx
 have gx':=get?_push_of_some (h:=g) {cls:=.type "traceback",dict:=none,data:=.fields ([head,.ref L,.none,rawInt L,.none]++(if pl.isEmpty then replicate 6 Value.none else pl)).toArray} gx
 have ne:g.objs.size≠x:=ne_of_gt (lt_size gx)
 have nd:=Obj.data_mapFields hd (·.setIfInBounds 1 (Value.ref g.objs.size))
 have hT:=(get?_update_other (g.push {cls:=.type "traceback",dict:=none,data:=.fields ([head,.ref L,.none,rawInt L,.none]++(if pl.isEmpty then replicate 6 Value.none else pl)).toArray}) (Obj.mapFields (·.setIfInBounds 1 (Value.ref g.objs.size))) (Ne.symm ne)).trans (get?_push_size g rfl)
 refine wpAny_setField gx' hd hsz (h _ g.objs.size ⟨λb o q n1 _ n3=>?_,λb o q n1 _=>?_⟩ (get?_none_of_le (by rw [so.1];exact le_refl _)) ⟨_,_,_,_,get?_update_self _ gx' (Obj.isFreed_of_fields nd),Obj.cls_mapFields _ _,(jl _ _).trans hdc,nd,by simp [hsz],ne,hT,rfl,by simp⟩)
 ·rw [get?_update_other _ _ (Ne.symm n1)]
  exact get?_push_of_some _ ((so.2.1 b n3).trans q)
 ·obtain⟨sl,r⟩:=so.2.2 b o q
  exact⟨sl,by rw [get?_update_other _ _ (Ne.symm n1)];exact get?_push_of_some _ r⟩
theorem sO(hfr:A.frames=some (env::outer))(hl:s.heap.FunFrames base (env::outer))(hf:env.frame=some L)(hx:s.heap.get? x=some oe)(hd:oe.data= .fields vs)(h1:vs[1]? =some .none)(hdc:oe.dict=none)
 (h:∀h' T,Kept x [] (frs (env::outer)) s.heap h'->s.heap.get? T=none->Fly h' x T oe.cls (rawInt L)->Q () {s with heap:=h'}):wpAny M A (noteFrame (.ref x) env) Q E s:=by
 unfold noteFrame
 simp only [hf]
 refine wpAny_bind (wpAny_field hx hd h1 ?_)
 rw [if_neg (by decide)]
 exact kQ hfr hl hf hx hd (Array.getElem?_eq_some_iff.mp h1).1 hdc h
theorem nI{T:Addr}{cls:Value}(hfr:A.frames=some (env::outer))(hl:s.heap.FunFrames base (env::outer))(hf:env.frame=some L)(F:Fly s.heap x T cls .none)
 (h:∀h' T',Kept x [T] (frs (env::outer)) s.heap h'->s.heap.get? T'=none->Fly h' x T' cls (rawInt L)->Q () {s with heap:=h'}):wpAny M A (noteFrame (.ref x) env) Q E s:=by
 obtain⟨oe,vs,oT,ts,hx,hc,hdc,hd,h1,ne,hT,hdT,h3⟩:=F.ex
 subst hc
 unfold noteFrame
 simp only [hf]
 refine wpAny_bind (wpAny_field hx hd h1 ?_)
 rw [if_pos (by simp)]
 refine wpAny_bind (wpAny_field hT hdT h3 ?_)
 rw [if_neg (by simp [rawInt])]
 refine wpAny_bind (wpAny_setField hT hdT (Array.getElem?_eq_some_iff.mp h3).1 ?_)
 have ot:∀b,b≠T->(s.heap.update T (Obj.mapFields (·.setIfInBounds 3 Value.none))).get? b=s.heap.get? b:=λb n=>get?_update_other _ _ (Ne.symm n)
 have Tself:=get?_update_self (Obj.mapFields (·.setIfInBounds 3 Value.none)) hT (Obj.isFreed_of_fields (Obj.data_mapFields hdT _))
 refine kQ (base:=base) hfr (hl.of_keeps λb o q no=>⟨o,(ot b λz=>no ts (by rw [z,hT] at q;cases q;exact hdT)).trans q,rfl⟩) hf ((ot x (Ne.symm ne)).trans hx) hd (Array.getElem?_eq_some_iff.mp h1).1 hdc λh' T' k n f=>h h' T' ⟨λb o q n1 n2 n3=>?_,λb o q n1 n2=>?_⟩ ?_ f
 ·exact k.keep b o ((ot b λz=>n2 (by rw [z];exact mem_singleton_self _)).trans q) n1 (by simp) n3
 ·exact k.slot b o ((ot b λz=>n2 (by rw [z];exact mem_singleton_self _)).trans q) n1 (by simp)
 ·by_cases z:T'=T
  ·subst z;rw [Tself] at n;cases n
  ·exact(ot T' z).symm.trans n
theorem dS{T:Addr}{cls fl:Value}(F:Fly s.heap x T cls fl)(h:∀h',(∀b,b≠T->h'.get? b=s.heap.get? b)->Fly h' x T cls .none->Q () {s with heap:=h'}):wpAny M A (setFlight (.ref x) none) Q E s:=by
 obtain⟨oe,vs,oT,ts,hx,hc,hdc,hd,h1,ne,hT,hdT,h3⟩:=F.ex
 unfold setFlight
 refine wpAny_bind (wpAny_field hx hd h1 ?_)
 rw [if_pos (by simp)]
 have ot:∀b,b≠T->(s.heap.update T (Obj.mapFields (·.setIfInBounds 3 ((none:Option Addr).elim Value.none λf=>rawInt f)))).get? b=s.heap.get? b:=λb n=>get?_update_other _ _ (Ne.symm n)
 have sz:=(Array.getElem?_eq_some_iff.mp h3).1
 exact wpAny_setField hT hdT sz (h _ ot ⟨oe,vs,_,_,(ot x (Ne.symm ne)).trans hx,hc,hdc,hd,h1,ne,get?_update_self _ hT (Obj.isFreed_of_fields (Obj.data_mapFields hdT _)),Obj.data_mapFields hdT _,by simp [sz]⟩)
end
section
variable{X:Cx}{pins:List (Addr×Obj)}{σ:St}{H1:Hp}{s1:Shared}
theorem Inv.tracked(I:Inv X pins σ H1 s1){b:Addr}{u:HO}(h:H1 b=some u):∃o,s1.heap.get? b=some o:=by
 have hb:=I.hok.lt h
 have:=I.hok b u h
 cases u with
 | lst xs=>obtain⟨_,_,_,_,e⟩:=this;exact⟨_,e⟩
 | tup xs=>obtain⟨_,_,_,o,e,_⟩:=this;exact⟨_,e⟩
 | dK kvs=>obtain⟨_,_,_,_,o,_,_,e,_⟩:=this;exact⟨_,e⟩
 | dT kvs=>obtain⟨_,_,_,_,o,_,_,e,_⟩:=this;exact⟨_,e⟩
 | set S n=>obtain⟨o,_,_,_,e,_⟩:=this;exact⟨_,e⟩
 | ins C dx fs=>obtain⟨_,_,_,e,_⟩:=this;exact⟨_,e⟩
 | own y=>exact this
 | xd fs=>obtain⟨_,⟨_,_,_,e,_⟩,_⟩:=this;exact⟨_,e⟩
 | rng lo hi=>obtain⟨_,_,_,e⟩:=this;exact⟨_,e⟩
 | frz ob u=>obtain⟨e,_⟩:=this;exact⟨_,e⟩
 | tbl ps=>exact⟨_,this⟩
 | met f y=>exact⟨_,this⟩
 | ext φ=>obtain⟨_,e,_⟩:=this;exact e
end
section
variable{P:Program}{w:World}{K:PySem.W.Frag}{mg:Str->Option Value}{base:Heap}{N:List Str}{qual:Str}{scope:Scope}{f:Addr}{cd:Value}{A:Around}{outer:List Env}{s:Shared}{H:Hp}{E:XK}
theorem mJ{CX:CXT}{pins:List (Addr×Obj)}{σ:St}{H1:Hp}{s1:Shared}(I:Inv (bX CX P w K mg base N qual scope f cd A outer s H E) pins σ H1 s1){x T:Addr}{ts:List Addr}{cls:Value}{h':Heap}
 (hx:s.heap.get? x=none) (hxt:H1 x=none) (hts:∀b∈ts,s.heap.get? b=none/\H1 b=none) (he:E cls none H1) (k:Kept x ts (frs (bX CX P w K mg base N qual scope f cd A outer s H E).stack) s1.heap h')
 (hT:s1.heap.get? T=none) (F:Fly h' x T cls .none):CXr P w outer H s E (.ref x) {s1 with heap:=h'}:=by
 have Lf:s.heap.objs.size<=(envOfC qual scope s.heap.objs.size f cd).locals:=I.ok.above
 have trk:∀b u,H1 b=some u->∀o,s1.heap.get? b=some o->h'.get? b=some o:=λb u hb o e=>by
  refine k.keep b o e (λz=>(by rw [z,hxt] at hb;cases hb)) (λz=>(by rw [(hts b z).2] at hb;cases hb)) λz=>?_
  rw [I.stkFree b z] at hb;cases hb
 have old:∀b o,s.heap.get? b=some o->b≠x/\b∉ts/\(b∉frs outer->b∉frs (bX CX P w K mg base N qual scope f cd A outer s H E).stack):=λb o e=>by
  refine⟨λz=>(by rw [z,hx] at e;cases e),λz=>(by rw [(hts b z).1] at e;cases e),λn z=>?_⟩
  rcases List.mem_cons.mp (I.stkSub b z) with q | q
  ·have:b<s.heap.objs.size:=lt_size e
   have q':b=(envOfC qual scope s.heap.objs.size f cd).locals:=q
   rw [q'] at this
   exact absurd (lt_of_lt_of_le this Lf) (lt_irrefl _)
  ·exact n q
 have ub:Un (frs outer) [] H H1 s.heap s1.heap:=I.base
 have hTs:s.heap.get? T=none:=by
  cases q:s.heap.get? T with
  | none=>rfl
  | some o=>
   obtain⟨o1,r⟩:=ub.there T o q (by simp)
   rw [hT] at r;cases r
 have hTH:H1 T=none:=by
  cases q:H1 T with
  | none=>rfl
  | some u=>
   obtain⟨o1,r⟩:=I.tracked q
   rw [hT] at r;cases r
 refine⟨x,T,cls,H1,rfl,I.os,I.bare,?_,?_,F,hx,hTs,hxt,hTH,he⟩
 ·refine⟨λb o e n1 n2 n3=>?_,λb o e n1 n2 n3=>?_,ub.free,λb o e n3=>?_,ub.tups,ub.frzs,ub.tbls⟩
  ·obtain⟨m1,m2,m3⟩:=old b o e
   exact k.keep b o (ub.keep b o e n1 n2 n3) m1 m2 (m3 n2)
  ·obtain⟨sl,q⟩:=ub.slot b o e n1 n2 n3
   obtain⟨m1,m2,_⟩:=old b o e
   obtain⟨sl',r⟩:=k.slot b _ q m1 m2
   exact⟨sl',r⟩
  ·obtain⟨o1,r⟩:=ub.there b o e n3
   obtain⟨m1,m2,_⟩:=old b o e
   obtain⟨sl,q⟩:=k.slot b o1 r m1 m2
   exact⟨_,q⟩
 ·intro a o q
  refine(I.hok a o q).stay (λb u hb r=>?_) (λ_ z=>z) λ_ _ z=>z
  rcases hb with rfl | hb
  ·exact trk b o q u r
  ·exact trk b _ hb u r
theorem Kept.flew{x T:Addr}{ts fr:List Addr}{h h' h'':Heap}(k:Kept x ts fr h h')(hT:h.get? T=none)(o:∀b,b≠T->h''.get? b=h'.get? b):Kept x ts fr h h'':=
 have n:∀b o,h.get? b=some o->b≠T:=λb o q z=>by rw [z,hT] at q;cases q
 ⟨λb u q n1 n2 n3=>(o b (n b u q)).trans (k.keep b u q n1 n2 n3),λb u q n1 n2=>let ⟨sl,r⟩:=k.slot b u q n1 n2;⟨sl,(o b (n b u q)).trans r⟩⟩
theorem Inv.raised{X:Cx}{pins:List (Addr×Obj)}{σ:St}{H1 H':Hp}{s1 s':Shared}(I:Inv X pins σ H1 s1)(os:s'.os=s1.os)(bare:AllBare s'.gens)(un:Un (frs X.stack) [] H1 H' s1.heap s'.heap)(hok:HOk X.prog X.w H' s'.heap):Inv X pins σ H' s':=by
 obtain⟨hh,g,d,t,os'⟩:=s'
 obtain rfl:os'=s1.os:=os
 exact I.call (h':=hh) (g':=g) (d':=d) (t':=t) (ch:=[]) un hok bare (λb z=>absurd z (by simp))
theorem cA:ic (CXr P w) (bX (CXr P w) P w K mg base N qual scope f cd A outer s H E) E:=by
 intro pins σ H1 s1 e s' I h
 obtain⟨x,T,cls,H',rfl,os,bare,un,hok,F,hx,hT,hxH,hTH,he⟩:=h
 have I':=I.raised os bare un hok
 have fresh:∀b,s1.heap.get? b=none->s.heap.get? b=none:=λb hb=>by
  cases q:s.heap.get? b with
  | none=>rfl
  | some o=>
   obtain⟨o1,r⟩:=I.base.there b o q (by simp [bX])
   rw [hb] at r;cases r
 show wpAny (model P w) (A.deeper (envOfC qual scope s.heap.objs.size f cd)) (leaving (envOfC qual scope s.heap.objs.size f cd) (.ref x)) _ _ s'
 unfold leaving
 refine wpAny_bind (nI (base:=base) I'.ok.frames I'.stack rfl F λh' T' k n f'=>?_)
 refine dS f' λh'' o f''=>?_
 exact mJ I' (ts:=[T]) (fresh x hx) hxH (λb hb=>by cases List.mem_singleton.mp hb;exact⟨fresh T hT,hTH⟩) he (k.flew n o) n f''
theorem Ba{pins:List (Addr×Obj)}{σ:St}{H1:Hp}{s1:Shared}(I:Inv (bX (CXr P w) P w K mg base N qual scope f cd A outer s H E) pins σ H1 s1){x:Addr}{cls:Value}{us:List Value}{h1:Heap}(hm:Heap.MadeExcOf s1.heap h1 x cls us)(he:E cls none H1):
 (bX (CXr P w) P w K mg base N qual scope f cd A outer s H E).xe (.ref x) {s1 with heap:=h1}:=by
 have I':Inv (bX (CXr P w) P w K mg base N qual scope f cd A outer s H E) pins σ H1 {s1 with heap:=h1}:=I.kept (t':=s1.toks) hm.keeps
 have fresh:s.heap.get? x=none:=by
  cases q:s.heap.get? x with
  | none=>rfl
  | some o=>
   obtain⟨o1,r⟩:=I.base.there x o q (by simp [bX])
   rw [hm.new] at r;cases r
 have hxH:H1 x=none:=by
  cases q:H1 x with
  | none=>rfl
  | some u=>
   obtain⟨o1,r⟩:=I.tracked q
   rw [hm.new] at r;cases r
 obtain⟨t,ht,_,_⟩:=hm.there
 show wpAny (model P w) (A.deeper (envOfC qual scope s.heap.objs.size f cd)) (leaving (envOfC qual scope s.heap.objs.size f cd) (.ref x)) _ _ {s1 with heap:=h1}
 unfold leaving
 refine wpAny_bind (sO (base:=base) I'.ok.frames I'.stack rfl ht rfl rfl rfl λh' T' k n f'=>?_)
 refine dS f' λh'' o f''=>?_
 exact mJ I' (ts:=[]) fresh hxH (λb hb=>by cases hb) he (k.flew n o) n f''
end
def veM:List Value:=[.type "ValueError",.type "Exception",.type "BaseException",.type "object"]
structure cB(K:PySem.W.Frag)(mg:Str->Option Value)(x:Str)(C:Addr):Prop where
 gl:mg x=some (.ref C)
 ok:PySem.W.excIn K C veM "ValueError.__new__" =true
theorem yk{K:PySem.W.Frag}{h:Heap}{C:Addr}{bmB:List Value}{newId:String}(kin:K.In h)(ok:PySem.W.excIn K C bmB newId=true):
 ∃(tl:List Value) (N:Addr) (nm qn:Str) (bs:List Value) (hd:Bool) (sn:List Str) (sub:List Value) (ab:Bool) (col:Option Bool) (dd:Option Addr) (k0 k1 k2 k3 k5:Option Value) (mN:Str->Option Value),
  h.get? C=some (excClassObj nm qn C N bs tl hd sn sub ab col dd k0 k1 k2 k3 k5 newId)/\h.Ns N mN/\mN "__init__" =none/\OwnTail h bmB tl:=by
 unfold PySem.W.excIn at ok
 split at ok
 next dd cd sl lk=>
  split at ok
  next C1 tl k0 k1 k2 k3 nn k5 em es=>
   have parts:((((C1=C/\nn=newId)/\cd.hasDel=false)/\PySem.W.tailIn K bmB tl=true)/\PySem.W.nsOkIn K cd.ns=true)/\PySem.W.nsIn K cd.ns "__init__" =some none:=by
    simpa only [and_eq_true,beq_iff_eq,Bool.not_eq_true'] using ok
   obtain⟨⟨⟨⟨⟨p1,p2⟩,p3⟩,p4⟩,p5⟩,p6⟩:=parts
   subst p1 p2
   cases cd
   simp only at em p3 p5 p6
   subst em p3
   have:sl= #[k0,k1,k2,k3,some (.builtin nn),k5]:=by
    cases sl
    simp only at es
    rw [es]
   subst this
   exact⟨tl,_,_,_,_,_,_,_,_,_,dd,k0,k1,k2,k3,k5,_,kin _ _ lk,Heap.Ns.of_isNs (PySem.W.isNs_of_in kin p5),PySem.W.nsMap_none_of_in kin p5 p6,PySem.W.tail_of_in kin p4⟩
  next=>cases ok
 next=>cases ok
def ux(X:Cx)(E:XK):Prop:=∀(pins:List (Addr×Obj)) (σ:St) (H:Hp) (s:Shared) (x:Addr) (cls:Value) (us:List Value) (h1:Heap),Inv X pins σ H s->Heap.MadeExcOf s.heap h1 x cls us->E cls none H->X.xe (.ref x) {s with heap:=h1}
def uy(C:Addr)(t:TA)(E:XK):TS:=λ_ σ H=>t σ H λvs H1=>vs.length<=sizeLine/\E (.ref C) none H1
section
variable{X:Cx}{E:XK}{x:Str}{C:Addr}{np cpos pos:Pos}{e:Expr}{es:List Expr}{t:TA}
theorem bS(hx:ux X E)(hc:X.calm=true)(O:cB X.K X.mg x C)(hg:Gl X x)(ha:PA X (e::es) t)(hdb:(x==("__debug__":Str))=false:=by decide)(hs:(e::es).all dA=true:=by rfl):
 PS X (.Raise (some (.Call (.Name x np) (e::es) [] cpos)) none pos) (uy C t E):=by
 intro pins s σ H D I h
 obtain⟨tl,N,nm,qn,bs,hd,sn,sub,ab,col,dd,k0,k1,k2,k3,k5,mN,hC,hN,hni,T⟩:=yk I.mod.kin O.ok
 have h1:=fw (es:=es) (env:=X.env) (Bool.and_eq_true_iff.mp hs).1
 refine wpAny_Raise_call_subU (C:=C) (nm:=nm) (q:=qn) (N:=N) (bs:=bs) (bm:=tl) (hdct:=hd) (sn:=sn) (sub:=sub) (ab:=ab) (col:=col) (dd:=dd) (k0:=k0) (k1:=k1) (k2:=k2) (k3:=k3) (k5:=k5)
  PySem.F.excBase_ValueError (by decide +kernel) PySem.F.excBase_ValueError (mN:=mN) (T.hasType (by decide +kernel)) (I.ok.hd hc) (eY hs) hni (gX I hg O.gl ⟨rfl,?_⟩ hdb)
 have hA:=ha cpos pins s σ H _ I h
 rw [h1] at hA⊢
 refine Calls.evalArgs_plain (thn hA λus s2 ⟨vs,H2,I2,r,z,q⟩=>⟨rfl,by show us.length<=sizeLine;rw [<-r.length];exact z,I2.bk _ _ hC,hN.keeps I2.bk,T.keeps I2.bk,λh' x' hm=>hx pins σ H2 s2 x' _ us h' I2 hm q⟩)
end
section
variable{P:Program}{w:World}{K:PySem.W.Frag}{mg:Str->Option Value}{base:Heap}{N:List Str}{qual:Str}{scope:Scope}{f:Addr}{cd:Value}{A:Around}{outer:List Env}{s:Shared}{H:Hp}{E:XK}
theorem bx:ux (bX (CXr P w) P w K mg base N qual scope f cd A outer s H E) E:=λ_ _ _ _ _ _ _ _ I hm he=>Ba I hm he
theorem k9:PassesOwn (model P w) (bX (CXr P w) P w K mg base N qual scope f cd A outer s H E).A (bX (CXr P w) P w K mg base N qual scope f cd A outer s H E).env (bX (CXr P w) P w K mg base N qual scope f cd A outer s H E).xe:=PassesOwn.leaving
end
structure OkR(P:Program)(w:World)(K:PySem.W.Frag)(mg:Str->Option Value)(base:Heap)(n:Nat)(x:Str)(ps:List Str)(sp:Sp):Prop where
 ex:∃f fd,mg x=some (.ref f)/\PySem.W.keepIn K (.ref f)=true/\Binds K fd ps []/\fP P w K mg base (CXr P w) n f fd ps sp
def xy(sp:Sp)(E:XK)(t:TA):TE:=λσ H Q=>t σ H λvs H1=>sp vs H1 Q E
section
variable{P:Program}{w:World}{K:PySem.W.Frag}{mg:Str->Option Value}{base:Heap}{x:Str}{st:Stmt}{N ps:List Str}{k:Nat}{sp:Sp}
theorem OkD.toR{n:Nat}(G:OkD P w K mg base n x ps sp):OkR P w K mg base n x ps sp:=by
 obtain⟨f,fd,a,b,c,d⟩:=G.ex
 refine⟨f,fd,a,b,c,d.len,λA outer s H args us vs Q E hr he hb hv hs=>?_⟩
 refine codeAny_mono (d.run A outer s H args us vs Q E hr he hb hv hs) λr s' h=>?_
 cases r with
 | error e=>exact False.elim h
 | ok fl=>cases fl<;>exact h
theorem DefAt.okR(D:DefAt K mg x st ps)(S:aC N ps (au st))(len:∀vs H Q E,sp vs H Q E->vs.length=ps.length)
 (hbody:∀(f:Addr) (cdv:Value) (A:Around) (outer:List Env) (s:Shared) (H:Hp) (vs:List V) (Q:VK) (E:XK),Room k (A.deeper (envOfC x (au st) s.heap.objs.size f cdv))->sp vs H Q E->
  ∃t,PSs (bX (CXr P w) P w K mg base N x (au st) f cdv A outer s H E) (fq st) t/\t {nx:=λ_ H'=>Q .non H',rt:=Q} (start N vs) H):OkR P w K mg base (k+1) x ps sp:=by
 obtain⟨f,fd,hm,F,hb⟩:=D.ex
 refine⟨f,fd,hm,F.kp,hb,?_⟩
 obtain⟨oc,od,kV,doc,pm,an,cdv,ct,osl,rfl,lk,hcd⟩:=F.ex
 exact ow lk hcd S len λA outer s H vs Q E hr hsp=>hbody f cdv A outer s H vs Q E hr hsp
theorem DefAt.neverR(D:DefAt K mg x st ps)(n:Nat)(h:∀vs H Q E,¬sp vs H Q E):OkR P w K mg base n x ps sp:=(D.never n h).toR
end
section
variable{X:Cx}{E:XK}{k n:Nat}{ps:List Str}{sp:Sp}{x:Str}{p pos:Pos}{e:Expr}{es:List Expr}{t:TA}
theorem br(G:OkR X.prog X.w X.K X.mg X.base k x ps sp)(hx:ic (CXr X.prog X.w) X E)(hr:Room n X.A)(hg:Gl X x)(ha:PA X (e::es) t)(hk:k<=n:=by lia)(hdb:(x==("__debug__":Str))=false:=by decide)
 (hs:(e::es).all dA=true:=by rfl):PE X (.Call (.Name x p) (e::es) [] pos) (xy sp E t):=by
 obtain⟨f,fd,hm,kp,hb,F⟩:=G.ex
 intro pins s σ H Q I h
 refine rf F (hr.mono hk) hg hm kp hb .nil hx ha hdb (fw (Bool.and_eq_true_iff.mp hs).1) (eY (Bool.and_eq_true_iff.mp hs).2) pins s σ H Q I ?_
 have e:(λvs H1=>sp (vs++[]) H1 Q E)=λvs H1=>sp vs H1 Q E:=by funext vs H1;rw [append_nil]
 show t σ H λvs H1=>sp (vs++[]) H1 Q E
 rw [e]
 exact h
end
abbrev Cx.marked(X:Cx)(x:Addr):Cx:={X with A:=X.A.mark (some (.ref x)),calm:=false,xe:=λ_ _=>False}
section
variable{X:Cx}{pins:List (Addr×Obj)}{σ:St}{H:Hp}{s:Shared}
theorem Inv.marked(I:Inv X pins σ H s)(x:Addr):Inv (X.marked x) pins σ H s:=
 have ok:=I.ok
 ⟨⟨ok.mod,ok.kind,ok.glob,ok.blt,ok.above,ok.inj,ok.has,ok.cab,λz=>absurd z Bool.false_ne_true,ok.frames,ok.stk,ok.exf,ok.bs,ok.bsz,ok.noex,ok.exfs,ok.funs,ok.frf⟩,I.os,I.bare,I.base,I.loc,I.cell,I.free,I.freeC,I.pin,I.hok,I.len⟩
theorem Inv.unmarked{x:Addr}(I:Inv (X.marked x) pins σ H s)(ok:X.Ok):Inv X pins σ H s:=⟨ok,I.os,I.bare,I.base,I.loc,I.cell,I.free,I.freeC,I.pin,I.hok,I.len⟩
structure Far(X:Cx)(pins:List (Addr×Obj))(b:Addr):Prop where
 old:X.s₀.heap.get? b=none
 loc:b≠X.env.locals
 cel:∀y c,X.env.cells.lookup y=some c->c≠b
 pin:∀p∈X.pn++pins,p.1≠b
theorem Inv.far(I:Inv X pins σ H s){b:Addr}(h:s.heap.get? b=none)(hex:X.ex= []):Far X pins b where
 old:=by
  cases q:X.s₀.heap.get? b with
  | none=>rfl
  | some o=>
   obtain⟨o1,r⟩:=I.base.there b o q (by rw [hex];simp)
   rw [h] at r;cases r
 loc:=λz=>by
  obtain⟨m,⟨o,_,_,q,_⟩,_⟩:=I.loc
  rw [<-z,h] at q;cases q
 cel:=λy c e z=>by
  obtain⟨v,o,q,_⟩:=I.cell y c e
  rw [z,h] at q;cases q
 pin:=λp hp z=>by
  have q:=(I.pin p hp).1
  rw [z,h] at q;cases q
theorem Inv.noted{x:Addr}{ts:List Addr}{h':Heap}{tk:Nat}(I:Inv X pins σ H s)(k:Kept x ts (frs X.stack) s.heap h')(fx:Far X pins x)(hx:H x=none)(ft:∀b∈ts,Far X pins b/\H b=none):Inv X pins σ H {s with heap:=h',toks:=tk}:=by
 have far:∀b,(b=x\/b∈ts)->Far X pins b/\H b=none:=λb hb=>by
  rcases hb with rfl | hb
  ·exact⟨fx,hx⟩
  ·exact ft b hb
 have nf:∀b,¬(Far X pins b/\H b=none)->b≠x/\b∉ts:=λb n=>⟨λz=>n (far b (.inl z)),λz=>n (far b (.inr z))⟩
 have slot:∀b o,s.heap.get? b=some o->¬(Far X pins b/\H b=none)->∃sl,h'.get? b=some {o with slots:=sl}:=λb o q n=>k.slot b o q (nf b n).1 (nf b n).2
 have keep:∀b o,s.heap.get? b=some o->¬(Far X pins b/\H b=none)->b∉frs X.stack->h'.get? b=some o:=λb o q n n3=>k.keep b o q (nf b n).1 (nf b n).2 n3
 have s0:∀b o,X.s₀.heap.get? b=some o->¬(Far X pins b/\H b=none):=λb o q z=>by rw [z.1.old] at q;cases q
 refine⟨I.ok,I.os,I.bare,⟨λb o e n1 n2 n3=>?_,λb o e n1 n2 n3=>?_,I.base.free,λb o e n3=>?_,I.base.tups,I.base.frzs,I.base.tbls⟩,?_,λy c e=>?_,I.free,I.freeC,λp hp=>?_,λa o q=>?_,I.len⟩
 ·refine keep b o (I.base.keep b o e n1 n2 n3) (s0 b o e) λz=>?_
  rcases List.mem_cons.mp (I.stkSub b z) with q | q
  ·have l1:b<X.s₀.heap.objs.size:=lt_size e
   rw [q] at l1
   exact absurd (lt_of_lt_of_le l1 I.ok.above) (lt_irrefl _)
  ·exact n2 q
 ·obtain⟨sl,q⟩:=I.base.slot b o e n1 n2 n3
  obtain⟨sl',r⟩:=slot b _ q (s0 b o e)
  exact⟨sl',r⟩
 ·obtain⟨o1,q⟩:=I.base.there b o e n3
  obtain⟨sl',r⟩:=slot b _ q (s0 b o e)
  exact⟨_,r⟩
 ·obtain⟨m,⟨o,es,ep,q,hd,hk⟩,hl⟩:=I.loc
  obtain⟨sl,r⟩:=slot _ o q λz=>z.1.loc rfl
  refine⟨m,⟨_,es,ep,r,hd,hk⟩,λi y v a b c=>?_⟩
  obtain⟨u,ru,l⟩:=hl i y v a b c
  refine⟨u,ru,?_⟩
  rcases l with l | ⟨l,cc,e,o',q',hd'⟩
  ·exact .inl l
  ·obtain⟨sl',r'⟩:=slot cc o' q' λz=>z.1.cel y cc e rfl
   exact .inr ⟨l,cc,e,_,r',hd'⟩
 ·obtain⟨v,o,q,hd⟩:=I.cell y c e
  obtain⟨sl,r⟩:=slot c o q λz=>z.1.cel y c e rfl
  exact⟨v,_,r,hd⟩
 ·obtain⟨p1,p2,p3,p4,p5⟩:=I.pin p hp
  refine⟨keep p.1 p.2 p1 (λz=>z.1.pin p hp rfl) λz=>?_,p2,p3,p4,p5⟩
  rcases List.mem_cons.mp (I.stkSub p.1 z) with q | q
  ·exact p3 q
  ·exact p4 q
 ·refine(I.hok a o q).stay (λb u hb r=>?_) (λ_ z=>z) λ_ _ z=>z
  have tr:∀{c:Addr} {w':HO},H c=some w'->∀u,s.heap.get? c=some u->h'.get? c=some u:=λ{c w'} hc u r=>
   keep c u r (λz=>by rw [z.2] at hc;cases hc) λz=>by rw [I.stkFree c z] at hc;cases hc
  rcases hb with rfl | hb
  ·exact tr q u r
  ·exact tr hb u r
theorem Inv.track{x:Addr}{o:HO}(I:Inv X pins σ H s)(fx:Far X pins x)(hx:H x=none)(ho:ObjOk X.prog X.w (upd H x o) s.heap x o):Inv X pins σ (upd H x o) s:=by
 have H0:X.H₀ x=none->∀b u,X.H₀ b=some u->b≠x:=λz b u q e=>by rw [e,z] at q;cases q
 refine⟨I.ok,I.os,I.bare,⟨I.base.keep,I.base.slot,λb q e n1 n3=>?_,I.base.there,λb xs q=>?_,λb a u q=>?_,λb ps q=>?_⟩,I.loc,I.cell,?_,λy c e=>?_,λp hp=>?_,λa u q=>?_,I.len⟩
 ·rw [aO (λz=>by rw [z,fx.old] at e;cases e)]
  exact I.base.free b q e n1 n3
 ·have r:=I.base.tups b xs q
  rw [aO (bN r hx)];exact r
 ·have r:=I.base.frzs b a u q
  rw [aO (bN r hx)];exact r
 ·obtain⟨more,r⟩:=I.base.tbls b ps q
  exact⟨more,by rw [aO (bN r hx)];exact r⟩
 ·rw [aO (Ne.symm fx.loc)];exact I.free
 ·rw [aO (fx.cel y c e)];exact I.freeC y c e
 ·obtain⟨p1,p2,p3,p4,p5⟩:=I.pin p hp
  exact⟨p1,by rw [aO (fx.pin p hp)];exact p2,p3,p4,p5⟩
 ·by_cases z:a=x
  ·subst z;rw [aX] at q;cases q;exact ho
  ·rw [aO z] at q
   exact(I.hok a u q).stay (λb v _ r=>r) (λb r=>by rw [aO (bN r hx)];exact r) λb xs r=>by rw [aO (bN r hx)];exact r
theorem Inv.gone{i:Nat}{n:Str}{h':Heap}{tk:Nat}{m:Str->Option Value}{v:Option Value}(I:Inv X pins σ H s)(nd:X.N.Nodup)(hi:X.N[i]? =some n)
 (hl:∀(j:Nat) (x:Str) (v:V),X.N[j]? =some x->σ[j]? =some (some v)->Vis X.env.scope x->∃u,RelV v u/\zr X.env s.heap m x u)
 (hn:h'.Ns X.env.locals λy=>if y=n then v else m y) (hs:Heap.SameBut X.env.locals s.heap h'):Inv X pins (σ.set i none) H {s with heap:=h',toks:=tk}:=by
 have s0:∀b o,X.s₀.heap.get? b=some o->b≠X.env.locals:=λb o e z=>by
  have l1:b<X.s₀.heap.objs.size:=lt_size e
  rw [z] at l1
  exact absurd (lt_of_lt_of_le l1 I.ok.above) (lt_irrefl _)
 refine⟨I.ok,I.os,I.bare,⟨λb o e n1 n2 n3=>(hs.2 b (s0 b o e)).trans (I.base.keep b o e n1 n2 n3),λb o e n1 n2 n3=>?_,I.base.free,λb o e n3=>?_,I.base.tups,I.base.frzs,I.base.tbls⟩,⟨_,hn,λj y w a b c=>?_⟩,λy c e=>?_,I.free,I.freeC,λp hp=>?_,λa o q=>?_,by rw [List.length_set];exact I.len⟩
 ·obtain⟨sl,q⟩:=I.base.slot b o e n1 n2 n3
  exact⟨sl,(hs.2 b (s0 b o e)).trans q⟩
 ·obtain⟨o1,q⟩:=I.base.there b o e n3
  exact⟨o1,(hs.2 b (s0 b o e)).trans q⟩
 ·have ji:j≠i:=λz=>by
   subst z
   rw [List.getElem?_set] at b
   split at b
   ·split at b<;>cases b
   ·rename_i q;exact q rfl
  rw [List.getElem?_set_ne (Ne.symm ji)] at b
  obtain⟨u,ru,l⟩:=hl j y w a b c
  have yn:y≠n:=λz=>by
   subst z
   exact ji ((getElem?_inj (List.getElem?_eq_some_iff.mp a).1 nd).mp (a.trans hi.symm))
  refine⟨u,ru,?_⟩
  rcases l with ⟨l1,l2⟩ | ⟨l,cc,e,o',q',hd'⟩
  ·exact .inl ⟨l1,by show(if y=n then v else m y)=_;rw [if_neg yn];exact l2⟩
  ·exact .inr ⟨l,cc,e,o',(hs.2 cc (I.cne y cc e)).trans q',hd'⟩
 ·obtain⟨w,o,q,hd⟩:=I.cell y c e
  exact⟨w,o,(hs.2 c (I.cne y c e)).trans q,hd⟩
 ·obtain⟨p1,p2,p3,p4,p5⟩:=I.pin p hp
  exact⟨(hs.2 p.1 p3).trans p1,p2,p3,p4,p5⟩
 ·refine(I.hok a o q).stay (λb u hb r=>(hs.2 b λz=>?_).trans r) (λ_ z=>z) λ_ _ z=>z
  rcases hb with rfl | hb
  ·rw [z,I.free] at q;cases q
  ·rw [z,I.free] at hb;cases hb
end
def oC(x C:Addr)(h:Heap):Prop:=∃ox,PySem.W.InstAt h x ox C none
def j7(x C:Addr):HO:=.ext (oC x C)
theorem Fly.exc{h:Heap}{x T C:Addr}{fl:Value}(F:Fly h x T (.ref C) fl):oC x C h:=by
 obtain⟨oe,vs,oT,ts,hx,hc,hdc,hd,_⟩:=F.ex
 refine⟨oe,hx,hc,?_,?_⟩
 ·cases oe with | mk c d dt sl=>cases hd;rfl
 ·rw [hdc];exact True.intro
theorem ym{P:Program}{w:World}{H:Hp}{h:Heap}{x C:Addr}(e:oC x C h):ObjOk P w H h x (j7 x C):=by
 refine⟨e,?_,λh1 h2 q k=>?_⟩
 ·obtain⟨ox,i⟩:=e;exact⟨ox,i.at_⟩
 ·obtain⟨ox,i⟩:=q
  refine⟨ox,k _ i.at_,i.cls,i.no,?_⟩
  have z:=i.dict
  revert z
  cases ox.dict with
  | none=>exact λ_=>True.intro
  | some d=>exact λz=>z.elim
section
open PySem.W
theorem yo{prog:Program}{w:World}{A:Around}{E:Value->Shared->Prop}{Q:Option Value->Shared->Prop}{s:Shared}{K:PySem.W.Frag}{x C:Addr}{ox:Obj}{odo:Option Obj}(X:K.In s.heap)(I:InstAt s.heap x ox C odo)
 (hga:findIn K (.ref C) "__getattribute__" =some (some (.builtin "BaseException.__getattribute__"))) (hgt:findIn K (.ref C) "__getattr__" =some none)
 (hf:findObj K C odo "__class__" =some (.bind (.builtin "getset_descriptor.__get__") (.builtin "object.__class__"))) (hmB:mroIn K C (.type "BaseException")=some true) (hmO:mroIn K C (.type "object")=some true)
 (k:Q (some (.ref C)) {s with toks:=s.toks+1}):wpAny (model prog w) A (getAttr? (.ref x) "__class__") Q E s:=by
 obtain⟨hh,g,d,t,os⟩:=s
 have L0:=I.type (M:=model prog w)
 have L1:=looks_findIn (M:=model prog w) X hga
 have L2:=looks_findIn (M:=model prog w) X hgt
 have L3:=looks_mroIn (M:=model prog w) X hmB
 have L4:=looks_find (M:=model prog w) X I hf
 unfold getAttr? getAttrBy? getAttrBy
 refine wpAny_bind (wpAny_mkText (wpAny_bind (wpAny_attempt (wpAny_holding (wpAny_bind (L0.at (wpAny_bind (L1.at ?_))))))))
 show wpAny _ _ (getAttrByItsOwn _ _ _ _ _ _) _ _ _
 unfold getAttrByItsOwn
 refine wpAny_bind (L2.at ?_)
 refine wpAny_bind (wpAny_attempt (wpAny_holding ?_))
 show wpAny _ _ (boundAndCalled _ _ _) _ _ _
 unfold boundAndCalled
 have FB:=PySem.F.attrBase_ValueError
 rw [FB.ga.bind (.ref x)]
 refine wpAny_bind (wpAny_pure ?_)
 refine wpAny_call (codeAny_call_builtin FB.ga.plain F.entry_bexc_ga ?_)
 have hk:builtinKind "BaseException.__getattribute__" =some .slot:=by decide +kernel
 have hsplit:splitId "BaseException.__getattribute__" =some ("BaseException","__getattribute__"):=by decide +kernel
 have ha:=F.args_bexc_ga (.ref x) (.str "__class__" t)
 simp only [checkBuiltinCall,hk,hsplit]
 refine wpAny_bind ?_
 unfold isInstance
 repeat (first | assumption | (with_reducible refine wpAny_call (class_get (ox:=ox) (od:=odo) X I hmO ?_)) | lk | wp_step)
end
structure j8(K:PySem.W.Frag)(C:Addr):Prop where
 ga:PySem.W.findIn K (.ref C) "__getattribute__" =some (some (.builtin "BaseException.__getattribute__"))
 gt:PySem.W.findIn K (.ref C) "__getattr__" =some none
 mroB:PySem.W.mroIn K C (.type "BaseException")=some true
 cls:(PySem.W.clsIn K C).isSome=true
 fnd:PySem.W.findIn K (.ref C) "__class__" =some (some (.builtin "object.__class__"))
 spc:PySem.W.specialIn K (.builtin "object.__class__") "__get__" =some (some (.builtin "getset_descriptor.__get__"))
 tak:PySem.W.takesIn K (.builtin "object.__class__")=some true
 mro:PySem.W.mroIn K C (.type "object")=some true
theorem pc{K:PySem.W.Frag}{x C:Addr}(p:j8 K C):PySem.W.KitX K (.ref x) (.ref C) (oC x C) where
 ty:=λ_ _ _ ⟨_,i⟩=>i.type
 it:=λM h X _=>by
  obtain⟨cd,hc⟩:=Option.isSome_iff_exists.mp p.cls
  unfold PySem.W.clsIn at hc
  split at hc
  ·next c' d' cd' sl' ho=>
   intro A' Q' E' s' k q
   unfold isType loadHead
   exact wpAny_bind (wpAny_loadPart (k _ _ (X _ _ ho)) (wpAny_pure q))
  ·cases hc
 ne:=λh tp dd its n sl X htp=>by
  obtain⟨cd,hc⟩:=Option.isSome_iff_exists.mp p.cls
  refine Bool.eq_false_iff.mpr λq=>?_
  obtain rfl:C=tp:=Value.ref.inj (beq_iff_eq.mp q)
  unfold PySem.W.clsIn at hc
  split at hc
  ·next c' d' cd' sl' ho=>
   have z:=(X _ _ ho).symm.trans htp
   cases z
  ·cases hc
 ca:=λ{prog w A E Q s} X e k=>by
  obtain⟨ox,i⟩:=e
  have hf:PySem.W.findObj K C none "__class__" =some (.bind (.builtin "getset_descriptor.__get__") (.builtin "object.__class__")):=by
   obtain⟨cd,hc⟩:=Option.isSome_iff_exists.mp p.cls
   unfold PySem.W.findObj
   simp [hc,p.fnd,p.spc,p.tak]
  exact yo X i p.ga p.gt hf p.mroB p.mro k
def eL(K:PySem.W.Frag):List V->Hp->VK->Prop:=λxs H Q=>∃x C c cv b,xs= [.ref x,c]/\H x=some (j7 x C)/\j8 K C/\(c= .ref cv/\kitOne K (.ref C) (.ref cv)=some b/\Q (.bl b) H)
theorem bB{X:Cx}:cy X (.builtin "isinstance") (eL X.K):=by
 intro pins s σ H xs us Q I r h
 obtain⟨x,C,c,cv,b,rfl,hx,p,rfl,e,q⟩:=h
 obtain⟨u,w',rfl,ru,rw'⟩:=sB r
 cases ru
 cases rw'
 obtain⟨ex,_,_⟩:=(show ObjOk X.prog X.w H s.heap x (j7 x C) from I.hok x _ hx)
 exact kia_one (pc p) I.kIn ex e (λz=>nomatch z) λtk=>⟨.bl b,H,I.tok _,rfl,q⟩
def pe(K:PySem.W.Frag):List V->Hp->VK->Prop:=λxs H Q=>∃x C T b,xs= [.ref x,.ty T]/\H x=some (j7 x C)/\j8 K C/\kitOne K (.ref C) (.type T)=some b/\Q (.bl b) H
theorem oh{X:Cx}:cy X (.builtin "isinstance") (pe X.K):=by
 intro pins s σ H xs us Q I r h
 obtain⟨x,C,T,b,rfl,hx,p,e,q⟩:=h
 obtain⟨u,w',rfl,ru,rw'⟩:=sB r
 cases ru
 cases rw'
 obtain⟨ex,_,_⟩:=(show ObjOk X.prog X.w H s.heap x (j7 x C) from I.hok x _ hx)
 exact kia_one (pc p) I.kIn ex e (λz=>nomatch z) λtk=>⟨.bl b,H,I.tok _,rfl,q⟩
abbrev TX:=St->Hp->VK->XK->Prop
def PEX(X:Cx)(e:Expr)(t:TX):Prop:=
 ∀(pins:List (Addr×Obj)) (s:Shared) (σ:St) (H:Hp) (Q:VK) (E:XK),Inv X pins σ H s->t σ H Q E->
  wpAny (model X.prog X.w) X.A (eval e X.env) (EP X pins σ Q) (λev s'=>∃H1 s1,Inv X pins σ H1 s1/\CXr X.prog X.w X.stack H1 s1 E ev s') s
def uz(sp:Sp)(t:TA):TX:=λσ H Q E=>t σ H λvs H1=>sp vs H1 Q E
section
variable{X:Cx}{k n:Nat}{ps:List Str}{sp:Sp}{x:Str}{p pos:Pos}{e:Expr}{es:List Expr}{t:TA}
theorem yp(G:OkR X.prog X.w X.K X.mg X.base k x ps sp)(hr:Room n X.A)(hg:Gl X x)(ha:PA X.nox (e::es) t)(hk:k<=n:=by lia)(hdb:(x==("__debug__":Str))=false:=by decide)
 (hs:(e::es).all dA=true:=by rfl):PEX X (.Call (.Name x p) (e::es) [] pos) (uz sp t):=by
 obtain⟨f,fd,hm,kp,hb,F⟩:=G.ex
 intro pins s σ H Q E I h
 refine wpAny_Call_Name_kw (gX I hg hm ?_ hdb)
 have hA:=ha pos pins s σ H _ (I.wish _) h
 refine callWith_K (h₀:=X.base) I.ok.mod.kin kp (wpAny_mono hA (λus s1 ⟨vs,H1,I1,r,q⟩=>⟨I1.unwish.kIn,?_⟩) λ_ _ z=>z.elim) (fw (Bool.and_eq_true_iff.mp hs).1) (eY (Bool.and_eq_true_iff.mp hs).2)
 have I1:=I1.unwish
 have hl:us.length=ps.length:=by rw [<-r.length];exact F.len _ _ _ _ q
 have bs:=hb s1 us I1.kIn (by rw [append_nil];exact hl)
 rw [append_nil] at bs
 refine wpAny_call (codeAny_mono (F.run X.A X.stack s1 H1 ⟨us,[]⟩ us vs Q E (hr.mono hk) I1.env0 bs r q) λfl s' z=>?_)
 cases fl with
 | error ev=>exact⟨H1,s1,I1,z⟩
 | ok fl=>
  cases fl with
  | ret u=>exact I1.after z
  | next=>exact False.elim z
  | brk=>exact False.elim z
  | cont=>exact False.elim z
end
def xz(K:PySem.W.Frag)(B:Addr)(i:Nat)(t:TX)(th:TS):TS:=λD σ H=>t σ H (λ_ H1=>D.nx σ H1) λcls _ H1=>∃C,cls= .ref C/\PySem.W.exmOne K (.ref C) (.ref B)=some true/\
 ∀x H2,H1 x=none->Same H1 H2->H2 x=some (j7 x C)->th {nx:=λσ' H'=>D.nx (σ'.set i none) H',rt:=D.rt,bk:=λσ' H'=>D.bk (σ'.set i none) H',ct:=λσ' H'=>D.ct (σ'.set i none) H'} (σ.set i (some (.ref x))) H2
section
variable{X:Cx}{B:Addr}{i:Nat}{n cx:Str}{e:Expr}{b0:Stmt}{suite:List Stmt}{ep np hpos pos:Pos}{t:TX}{th:TS}
theorem yq(hstk:X.stack=X.env::X.outer)(hfr:X.env.frame=some X.env.locals)(hex:X.ex= [])(hb:PEX X e t)(hg:Gl X cx)(hm:X.mg cx=some (.ref B))(nd:X.N.Nodup)(hi:X.N[i]? =some n)(hlo:X.env.scope.names.lookup n=some .local)
 (hh:∀x,PSs (X.marked x) (b0::suite) th) (hs:swapsWith e none ep.line X.env=pure false:=by rfl) (hdb:(cx==("__debug__":Str))=false:=by decide):
 PS X (.Try [.Expr e ep] [.ExceptHandler (some (.Name cx np)) (some n) (b0::suite) hpos] [] [] pos) (xz X.K B i t th):=by
 intro pins s σ H D I h
 refine wpAny_Try_except (wpAny_execs_cons (wpAny_Expr_any (wpAny_mono (hb pins s σ H _ _ I h) (λv s1 ⟨y,H1,I1,r1,q1⟩=>wpAny_execs_nil (wpAny_execs_nil ⟨σ,H1,I1,q1⟩)) λev s' hx=>?_) I.quiet hs))
 obtain⟨H1,s1,I1,x,T,cls,H',rfl,os,bare,un,hok,F,hx,hT,hxH,hTH,C,rfl,hex1,hth⟩:=hx
 have I':=I1.raised os bare un hok
 have fx:Far X pins x:=I1.far hx hex
 have fT:Far X pins T:=I1.far hT hex
 have hA:X.A.frames=some (X.env::X.outer):=by rw [<-hstk];exact I.ok.frames
 have hF:s'.heap.FunFrames X.base (X.env::X.outer):=by rw [<-hstk];exact I'.stack
 refine nI hA hF hfr F λh2 T2 k2 n2 f2=>dS f2 λh3 o3 f3=>?_
 have k3:Kept x [T] (frs X.stack) s'.heap h3:=by rw [hstk];exact k2.flew n2 o3
 have I3:Inv X pins σ H' {s' with heap:=h3}:=I'.noted (tk:=s'.toks) k3 fx hxH (λb hb=>by cases List.mem_singleton.mp hb;exact⟨fT,hTH⟩)
 have fT2:Far X pins T2:=I'.far n2 hex
 have hT2H:H' T2=none:=by
  cases q:H' T2 with
  | none=>rfl
  | some u=>
   obtain⟨o1,r⟩:=I'.tracked q
   rw [n2] at r;cases r
 have LT:PySem.W.Looks (model X.prog X.w) h3 (typeOf (.ref x)) (.ref C):=by
  obtain⟨ox,i⟩:=f3.exc
  exact i.type
 have M3:=I3.marked x
 refine wpAny_handleBy_cons (codeAny_handlers_test (gX M3 hg hm ?_ hdb)) (by intro q;cases q)
 refine(PySem.W.exm_one I3.kIn LT hex1).at (codeAny_handlers_suite_as ?_)
 refine dS f3 λh4 o4 f4=>?_
 have I4:Inv X pins σ H' {s' with heap:=h4}:=by
  refine I3.noted (x:=x) (ts:=[T2]) (tk:=s'.toks) ⟨λb o q n1 n2 n3=>?_,λb o q n1 n2=>?_⟩ fx hxH (λb hb=>by cases List.mem_singleton.mp hb;exact⟨fT2,hT2H⟩)
  ·exact(o4 b λz=>n2 (by rw [z];exact mem_singleton_self _)).trans q
  ·exact⟨o.slots,(o4 b λz=>n2 (by rw [z];exact mem_singleton_self _)).trans q⟩
 have I5:=I4.track (o:=j7 x C) fx hxH (ym f4.exc)
 refine kW (X:=X) (v:=.ref x) I5 nd hi (.inl hlo) rfl (λs6 I6=>?_) (.inr hlo)
 have hth':=hth x (upd H' x (j7 x C)) hxH (bt hxH _) aX
 refine wpAny_mono (hh x pins s6 _ _ _ (I6.marked x) hth') (λfl s7 q7=>?_) λ_ _ z=>z.elim
 have fin:∀{σ':St} {H7:Hp} {R:Shared->Prop},Inv (X.marked x) pins σ' H7 s7->(∀s8,Inv X pins (σ'.set i none) H7 s8->R s8)->wpAny (model X.prog X.w) X.A (do bindName X.env n .none;unbindBehindTheSuite X.env n hpos) (λ_ s8=>R s8) X.xe s7:=λ{σ' H7 R} M7 hR=>by
  have I7:=M7.unmarked I.ok
  obtain⟨m,hn,hl⟩:=I7.loc
  exact wpAny_nameGoes_keeps hlo hn (by rw [I7.ok.kind];rfl) λh8 v hn8 hs8=>hR _ (I7.gone nd hi hl hn8 hs8)
 cases fl with
 | next=>obtain⟨σ7,H7,M7,q⟩:=q7;exact fin M7 λs8 I8=>⟨_,_,I8,q⟩
 | brk=>obtain⟨σ7,H7,M7,q⟩:=q7;exact fin M7 λs8 I8=>⟨_,_,I8,q⟩
 | cont=>obtain⟨σ7,H7,M7,q⟩:=q7;exact fin M7 λs8 I8=>⟨_,_,I8,q⟩
 | ret u=>obtain⟨v,σ7,H7,M7,rv,q⟩:=q7;exact fin M7 λs8 I8=>⟨v,_,_,I8,rv,q⟩
end
abbrev Cx.comp(X:Cx)(scope:Scope)(cl:List (Str×Addr))(N:List Str)(C:Addr)(fp:List Addr)(s₀:Shared)(H₀:Hp):Cx:=
 {X with N:=N,s₀:=s₀,H₀:=H₀,env:=compEnvC scope cl C X.env,outer:=X.stack,ex:=fp,fn:=λ_=>false,pn:=[],xe:=λ_ _=>False}
structure iK(X:Cx)(scope:Scope)(cl:List (Str×Addr))(N:List Str)(cap:List Nat):Prop where
 kind:scope.kind= .function
 clos:X.Ok->closureFor scope X.env=pure cl
 ncell:∀y∈scope.names,y.2≠.cell
 names:∀y∈scope.names,y.2= .local->scope.names.lookup y.1=some .local
 nd:N.Nodup
 has:∀y,((relabel scope X.env).names.lookup y=some .cell\/(relabel scope X.env).names.lookup y=some .free)->∃c,cl.lookup y=some c
 sub:X.Ok->∀y c,cl.lookup y=some c->X.env.cells.lookup y=some c
 len:N.length=cap.length+1
 cap:∀(j i:Nat) (y:Str),N[j+1]? =some y->cap[j]? =some i->X.N[i]? =some y/\Vis X.env.scope y/\X.env.kindOf y≠some .local/\((relabel scope X.env).names.lookup y=some .cell\/(relabel scope X.env).names.lookup y=some .free)
def cC(σ:St)(cap:List Nat):St:=cap.map λi=>(σ[i]?).join
def lS(cap:List Nat)(wi:TI)(tc:TT)(te:TE):TE:=λσ H Q=>wi σ H λJ H1=>∀D,H1 D=none->∃W:Nat->Nat->Hp->Prop,(∃m,W 0 m (upd H1 D (.lst [])))/\∀i m H,W i m H->
 (J.stop i H/\Q (.ref D) H)\/(J.go i H/\∀x H',J.yld i H x H'->tc (some x::cC σ cap) H' λb H2=>if b=true then te (some x::cC σ cap) H2 λv H3=>∃ys,H3 D=some (.lst ys)/\ys.length<sizeLine/\∃m',m'<m/\W (i+1) m' (upd H3 D (.lst (ys++[v])))
  else ∃m',m'<m/\W (i+1) m' H2)
section
variable{X:Cx}{pins:List (Addr×Obj)}{σ:St}{H:Hp}{s:Shared}{scope:Scope}{cl:List (Str×Addr)}{N:List Str}{cap:List Nat}
theorem Inv.enter{fp:List Addr}{h':Heap}{tk:Nat}(S:iK X scope cl N cap)(I:Inv X pins σ H s)(f:∀b∈fp,cW X pins H b/\b<s.heap.objs.size)(hn:h'.Ns s.heap.objs.size λ_=>none)
 (k:∀b o,s.heap.get? b=some o->h'.get? b=some o):Inv (X.comp scope cl N s.heap.objs.size fp s H) [] (none::cC σ cap) H {s with heap:=h',toks:=tk}:=by
 have nC:∀b o,s.heap.get? b=some o->b≠s.heap.objs.size:=λb o e=>ne_of_lt (lt_size e)
 have ok:=I.ok
 have cellOut:∀y c,cl.lookup y=some c->∃v,s.heap.IsCell c v:=λy c e=>I.cell y c (S.sub I.ok y c e)
 refine⟨⟨ok.mod,?_,ok.glob,ok.blt,le_refl _,λx y c a b=>ok.inj x y c (S.sub I.ok x c a) (S.sub I.ok y c b),S.has,λ_ _ z=>absurd z Bool.false_ne_true,ok.hd,ok.frames,.inl rfl,λb hb=>⟨ne_of_lt (f b hb).2,λy c e=>(f b hb).1.2.2.2.2.1 y c (S.sub I.ok y c e)⟩,I.bs,le_trans ok.bsz I.sz,λb o e hb=>?_,λb hb z=>?_,I.stack,I.stkFree⟩,
  rfl,I.bare,Un.kept k,⟨_,hn,λi y v a b c=>?_⟩,λy c e=>?_,I.hok.fresh (le_refl _),λy c e=>I.freeC y c (S.sub I.ok y c e),λp hp=>by simp at hp,I.hok.kept k,?_⟩
 ·exact S.kind
 ·have:=(f b hb).1.2.2.2.1
  rcases this with z | z
  ·exact ok.noex b o e z
  ·have l1:=lt_size e
   exact absurd (lt_of_lt_of_le l1 (le_trans ok.bsz z)) (lt_irrefl _)
 ·rcases List.mem_cons.mp (I.stkSub b z) with q | q
  ·exact(f b hb).1.2.1 q
  ·exact(f b hb).1.2.2.1 q
 ·cases i with
  | zero=>simp at b
  | succ j=>
   simp only [List.getElem?_cons_succ] at b
   unfold cC at b
   rw [getElem?_map] at b
   cases e:cap[j]? with
   | none=>rw [e] at b;cases b
   | some i=>
    rw [e] at b
    have b:(σ[i]?).join=some v:=by simpa using b
    obtain⟨p1,p2,p3,p4⟩:=S.cap j i y a e
    have b':σ[i]? =some (some v):=by
     cases q:σ[i]? with
     | none=>rw [q] at b;cases b
     | some w=>rw [q] at b;exact congrArg some b
    obtain⟨m,hm,hl⟩:=I.loc
    obtain⟨u,ru,l⟩:=hl i y v p1 b' p2
    refine⟨u,ru,.inr ⟨p4,?_⟩⟩
    rcases l with l | ⟨l,c0,e0,o',q',hd'⟩
    ·exact absurd l.1 p3
    ·obtain⟨c,ec⟩:=S.has y p4
     have:=S.sub I.ok y c ec
     rw [e0] at this
     cases this
     exact⟨c0,ec,o',k _ _ q',hd'⟩
 ·obtain⟨v,o,q,hd⟩:=cellOut y c e
  exact⟨v,o,k _ _ q,hd⟩
 ·show(none::cC σ cap).length=N.length
  rw [S.len,length_cons]
  unfold cC
  rw [length_map]
end
def PTs(X:Cx)(ifs:List Expr)(t:TT):Prop:=
 ∀(pins:List (Addr×Obj)) (s:Shared) (σ:St) (H:Hp) (Q:Bool->Hp->Prop),Inv X pins σ H s->t σ H Q->
  wpAny (model X.prog X.w) X.A (forIn ifs true λc r=>if r=true then do let ok <-isTrue c X.env (eval c X.env);pure (ForInStep.yield ok) else pure (ForInStep.yield r)) (TP X pins σ Q) X.xe s
def pi:TT:=λ_ H Q=>Q true H
theorem dB{X:Cx}:PTs X [] pi:=λ_ _ _ H _ I h=>wpAny_tests_nil ⟨H,I,h⟩
theorem mK{X:Cx}{c:Expr}{t:TT}(h:PT X c t):PTs X [c] t:=λpins s σ H Q I q=>wpAny_tests_one (h pins s σ H Q I q)
section
variable{X:Cx}{scope:Scope}{cl:List (Str×Addr)}{N:List Str}{cap:List Nat}{x:Str}{px pos:Pos}{iter elt:Expr}{ifs:List Expr}{wi:TI}{tc:TT}{te:TE}
theorem uA{use:Option (Value->Sem Unit)}{Qv:Value->Shared->Prop}{pins:List (Addr×Obj)}{s:Shared}{σ:St}{H:Hp}{Q:VK}{pos':Pos}(S:iK X scope cl N cap)(hc:X.calm=true)(hi:PI X (.Name x px) iter wi)(hx:N[0]? =some x)(hxl:scope.names.lookup x=some .local)
 (ht:∀C fp s₀ H₀,PTs (X.comp scope cl N C fp s₀ H₀) ifs tc) (he:∀C fp s₀ H₀,PE (X.comp scope cl N C fp s₀ H₀) elt te) (hs:∀x,foldedSetIterable iter X.env x=pure x)
 (I:Inv X pins σ H s) (h:lS cap wi tc te σ H Q)
 (fin:∀(D C:Addr) (H6:Hp) (s6:Shared) (m:Str->Option Value),Inv X pins σ H6 s6->cW X pins H6 C->s6.heap.Ns C m->Q (.ref D) H6->compPost (model X.prog X.w) X.A X.xe use Qv (.ref D) C (.ok .next) s6):
 wpAny (model X.prog X.w) X.A (comprehension (.ListComp elt [⟨.Name x px,iter,ifs,0⟩] scope pos) scope X.env pos' (newList []) false (eval iter X.env) use) Qv X.xe s:=by
 refine wpAny_comprehension_free (use:=use) rfl hs (S.clos I.ok) S.kind S.names (thn (hi pins s σ H _ I h) λv s1 h1=>thn h1 λitv s2 h2=>?_)
 obtain⟨it,fp,tn,J,H2,rfl,I2,T,st2,f2,q⟩:=h2
 obtain⟨W,⟨m0,w0⟩,turn⟩:=q s2.heap.objs.size (I2.hok.fresh (le_refl _))
 have I3:Inv X pins σ (upd H2 s2.heap.objs.size (.lst [])) {s2 with heap:=s2.heap.push {cls:=.type "list",dict:=none,data:=.seq ([]:List Value).toArray}}:=
  I2.laid (t':=s2.toks) (λb u e=>get?_push_of_some _ e) (le_refl _) ⟨zero_le _,[],0,.nil,get?_push_size _ rfl⟩
 refine wpAny_newObj_type (wpAny_newFunctionEnv S.ncell (by intro y hy;simp at hy) (λh4 hns hsb=>?_) S.kind)
 generalize hs3:({s2 with heap:=s2.heap.push {cls:=.type "list",dict:=none,data:=.seq ([]:List Value).toArray}}:Shared)=s3 at I3 hns hsb⊢
 have f3:∀b∈fp,cW X pins (upd H2 s2.heap.objs.size (.lst [])) b/\b<s3.heap.objs.size:=λb hb=>by
  obtain⟨o,ho,_⟩:=T.obj _ _ st2 b hb
  have l1:b<s2.heap.objs.size:=lt_size ho
  refine⟨⟨?_,(f2 b hb).2⟩,?_⟩
  ·rw [aO (ne_of_lt l1)];exact(f2 b hb).1
  ·rw [<-hs3,size_push];exact lt_succ_of_lt l1
 have nsN:h4.Ns s3.heap.objs.size λ_=>none:=by
  have:=hns
  simpa using this
 have keep4:∀b o,s3.heap.get? b=some o->h4.get? b=some o:=λb o e=>(hsb.2 b (ne_of_lt (lt_size e))).trans (get?_push_of_some _ e)
 have Ic:=I3.enter (tk:=s3.toks+([]:List (Str×Value)).length) S f3 nsN keep4
 have st4:tn 0 h4:=T.keep _ _ _ st2 λb hb o e=>keep4 b o (by rw [<-hs3];exact get?_push_of_some _ e)
 have stat:∀{H':Hp},(∀b∈fp,H' b=none)->∀b∈fp,cW (X.comp scope cl N s3.heap.objs.size fp s3 (upd H2 s2.heap.objs.size (.lst []))) [] H' b:=λhn b hb=>
  ⟨hn b hb,ne_of_lt (f3 b hb).2,λz=>(List.mem_cons.mp (I3.stkSub b z)).elim (λq=>(f3 b hb).1.2.1 q) λq=>(f3 b hb).1.2.2.1 q,.inl hb,λy c e=>(f3 b hb).1.2.2.2.2.1 y c (S.sub I.ok y c e),λp hp=>by simp at hp⟩
 have out:∀{ox:Option V} {H6:Hp} {s6:Shared},Inv (X.comp scope cl N s3.heap.objs.size fp s3 (upd H2 s2.heap.objs.size (.lst []))) [] (ox::cC σ cap) H6 s6->Q (.ref s2.heap.objs.size) H6->
  compPost (model X.prog X.w) X.A X.xe use Qv (Value.ref s2.heap.objs.size) s3.heap.objs.size (.ok .next) s6:=λ{ox H6 s6} I6 q6=>by
  obtain⟨m,hm,_⟩:=I6.loc
  have Io:Inv X pins σ H6 s6:=I3.call' I6.os I6.base I6.hok I6.bare λb hb=>⟨(f3 b hb).1.2.2.2.1,(f3 b hb).1.2.1,(f3 b hb).1.2.2.2.2.1,(f3 b hb).1.2.2.2.2.2⟩
  exact fin _ _ _ _ m Io (I3.fpOk (b:=s3.heap.objs.size) (H':=H6) (le_refl _) I6.free) hm q6
 have loop:codeAny (model X.prog X.w) X.A (.compLoop (.ListComp elt [⟨.Name x px,iter,ifs,0⟩] scope pos) 0 (.ref it) (.ref s2.heap.objs.size) (compEnvC scope cl s3.heap.objs.size X.env))
  (compPost (model X.prog X.w) X.A X.xe use Qv (Value.ref s2.heap.objs.size) s3.heap.objs.size) {s3 with heap:=h4,toks:=s3.toks+([]:List (Str×Value)).length}:=by
  refine codeAny_compLoop_tests (λn s'=>∃i ox H',Inv (X.comp scope cl N s3.heap.objs.size fp s3 (upd H2 s2.heap.objs.size (.lst []))) [] (ox::cC σ cap) H' s'/\tn i s'.heap/\(∀b∈fp,H' b=none)/\W i n H') ?_ m0 ⟨0,none,_,Ic,st4,λb hb=>(f3 b hb).1.1,w0⟩
  rintro n s5 ⟨i,ox,H5,I5,st5,fr5,w5⟩
  rcases turn i n H5 w5 with ⟨stop,qd⟩ | ⟨go,step⟩
  ·refine wpAny_mono (T.done (X.comp scope cl N s3.heap.objs.size fp s3 (upd H2 s2.heap.objs.size (.lst []))) rfl rfl rfl hc i [] s5 _ H5 (λ_ _=>False) I5 (stat fr5) st5 stop) (λr s6 ⟨hr,I6⟩=>?_) λ_ _ z=>z.elim
   subst hr
   exact out I6 qd
  ·refine wpAny_mono (T.item (X.comp scope cl N s3.heap.objs.size fp s3 (upd H2 s2.heap.objs.size (.lst []))) rfl rfl rfl hc i [] s5 _ H5 (λ_ _=>False) I5 (stat fr5) st5 go) (λr s6 ⟨u,hr,h6⟩=>?_) λ_ _ z=>z.elim
   subst hr
   have hgx:PG (X.comp scope cl N s3.heap.objs.size fp s3 (upd H2 s2.heap.objs.size (.lst []))) (.Name x px) (gr 0):=aw (i:=0) S.nd hx (.inl (lookup_relabel_local hxl)) (.inr (lookup_relabel_local hxl))
   refine(show wpAny (model X.prog X.w) X.A (letOwnedTupleGo (.Name x px) (.ref it) u >>= λ_=>assign (.Name x px) (compEnvC scope cl s3.heap.objs.size X.env) u) _ _ s6 from wpAny_bind (wpAny_mono h6 (λ_ s7 ⟨v,H7,I7,r7,y7,st7,fr7⟩=>?_) λ_ _ z=>z.elim))
   have I7':=I7.pinned (stat fr7) (T.obj _ _ st7)
   have again:∀{v':V} {H9:Hp} {s9:Shared},Inv (X.comp scope cl N s3.heap.objs.size fp s3 (upd H2 s2.heap.objs.size (.lst []))) ([]++hY fp s7.heap) (some v'::cC σ cap) H9 s9->(∃m',m'<n/\W (i+1) m' H9)->
    ∃m',m'<n/\∃i ox H',Inv (X.comp scope cl N s3.heap.objs.size fp s3 (upd H2 s2.heap.objs.size (.lst []))) [] (ox::cC σ cap) H' s9/\tn i s9.heap/\(∀b∈fp,H' b=none)/\W i m' H':=λ{v' H9 s9} I9 ⟨m',lt,w'⟩=>by
    refine⟨m',lt,i+1,some v',H9,I9.unpinned,T.keep _ _ _ st7 λb hb o e=>(I9.pin (b,o) (mem_append_right _ (mem_append_right _ (de hb e)))).1,λb hb=>?_,w'⟩
    obtain⟨o,e,d⟩:=T.obj _ _ st7 b hb
    exact(I9.pin (b,o) (mem_append_right _ (mem_append_right _ (de hb e)))).2.1
   refine wpAny_mono (hgx _ s7 (ox::cC σ cap) H7 v u (λσ' H'=>σ'=some v::cC σ cap/\H'=H7) I7' r7 ⟨rfl,rfl⟩) (λ_ s8 ⟨σ8,H8,I8,e8,e8'⟩=>?_) λ_ _ z=>z.elim
   subst e8 e8'
   refine wpAny_mono (ht _ _ _ _ _ s8 _ H8 _ I8 (step v H8 y7)) (λb s9 ⟨H9,I9,q9⟩=>?_) λ_ _ z=>z.elim
   cases b with
   | false=>exact again I9 q9
   | true=>
    refine wpAny_mono (he _ _ _ _ _ s9 _ H9 _ I9 q9) (λu' s10 ⟨v',H10,I10,r10,ys,hD,hz,q10⟩=>?_) λ_ _ z=>z.elim
    refine wpAny_mono (iJ (X:=X.comp scope cl N s3.heap.objs.size fp s3 (upd H2 s2.heap.objs.size (.lst []))) _ s10 _ H10 (.ref s2.heap.objs.size) [v'] (.ref s2.heap.objs.size) [u'] (λ_ H'=>∃m',m'<n/\W (i+1) m' H') I10 rfl (.cons r10 .nil) ⟨_,ys,v',rfl,rfl,hD,hz,q10⟩) (λ_ s11 ⟨_,H11,I11,_,q11⟩=>again I11 q11) λ_ _ z=>z.elim
 exact codeAny_compStart_list loop (T.self _ 0 _ _ _ st4 loop)
theorem mL(S:iK X scope cl N cap)(hc:X.calm=true)(hi:PI X (.Name x px) iter wi)(hx:N[0]? =some x)(hxl:scope.names.lookup x=some .local)
 (ht:∀C fp s₀ H₀,PTs (X.comp scope cl N C fp s₀ H₀) ifs tc) (he:∀C fp s₀ H₀,PE (X.comp scope cl N C fp s₀ H₀) elt te) (hs:∀x,foldedSetIterable iter X.env x=pure x:=by intro _;rfl):
 PE X (.ListComp elt [⟨.Name x px,iter,ifs,0⟩] scope pos) (lS cap wi tc te):=by
 intro pins s σ H Q I h
 rw [eval_ListComp]
 refine uA S hc hi hx hxl ht he hs I h λD C H6 s6 m Io Cf hm q6=>?_
 exact⟨m,hm,λh' sb=>⟨.ref D,H6,Io.turned (it:=C) (t':=s6.toks) (λb o n e=>(sb.2 b n).trans e) Cf.1 Cf.2.1 Cf.2.2.2.1 Cf.2.2.2.2.1 Cf.2.2.2.2.2,rfl,q6⟩⟩
end
def Its(x:Str):It:=⟨λi _=>i<x.cps.size,λi H v H'=>H'=H/\∃c,x.cps[i]? =some c/\v= .str ⟨#[c]⟩,λi _=>x.cps.size<=i⟩
theorem sP{P:Program}{w:World}{K:PySem.W.Frag}{tg:Expr}(x:Str)(t:Tok)(it:Addr):kY P w K tg (Its x) [it] it (λi h=>h.IsStrIter it "str_ascii_iterator" x t i) where
 mem:=mem_singleton_self _
 obj:=λi h st b hb=>by
  obtain rfl:=List.mem_singleton.mp hb
  obtain⟨o,e,c,d⟩:=st
  exact⟨o,e,λv z=>by rw [d] at z;cases z⟩
 keep:=λi h h' ⟨o,e,c,d⟩ k=>⟨o,k it (mem_singleton_self _) o e,c,d⟩
 item:=by
  intro X hP hw hK hc i pins s σ H E I hf st hg
  subst hP hw hK
  obtain⟨f0,f1,f2,f3,f4,f5⟩:=hf it (mem_singleton_self _)
  have hi:i<x.cps.size:=hg
  refine wpAny_pyNext_ascii_item st (c:=x.cps[i]) (Array.getElem?_eq_getElem hi) λh' st' sb=>?_
  have I1:Inv X pins σ H {s with heap:=h',toks:=s.toks+1}:=I.turned (t':=s.toks+1) (λb o hb e=>(sb.2 b hb).trans e) f0 f1 f3 f4 f5
  obtain⟨o,e,c,d⟩:=id st'
  exact⟨_,rfl,ou (s:={s with heap:=h',toks:=s.toks+1}) e c d (by decide) ⟨.str ⟨#[x.cps[i]]⟩,H,I1,⟨_,rfl⟩,⟨rfl,_,Array.getElem?_eq_getElem hi,rfl⟩,st',λb hb=>(hf b hb).1⟩⟩
 done := by
   intro X hP hw hK hc i pins s σ H E I hf st hg
   subst hP hw hK
   obtain⟨f0,f1,f2,f3,f4,f5⟩:=hf it (mem_singleton_self _)
   have hi:x.cps.size<=i:=hg
   exact wpAny_pyNext_ascii_end (I.ok.hd hc) st (Array.getElem?_eq_none hi) λh' eb=>⟨rfl,I.turned (t':=s.toks) (λb o hb e=>eb b o hb e) f0 f1 f3 f4 f5⟩
 self:=λ_ _ _ _ _ st h=>wpAny_pyIter_striter_ascii st h
theorem uB{P:Program}{w:World}{K:PySem.W.Frag}{tg:Expr}(x:Str)(t:Tok)(it:Addr):kY P w K tg (Its x) [it] it (λi h=>h.IsStrIter it "str_iterator" x t i) where
 mem:=mem_singleton_self _
 obj:=λi h st b hb=>by
  obtain rfl:=List.mem_singleton.mp hb
  obtain⟨o,e,c,d⟩:=st
  exact⟨o,e,λv z=>by rw [d] at z;cases z⟩
 keep:=λi h h' ⟨o,e,c,d⟩ k=>⟨o,k it (mem_singleton_self _) o e,c,d⟩
 item:=by
  intro X hP hw hK hc i pins s σ H E I hf st hg
  subst hP hw hK
  obtain⟨f0,f1,f2,f3,f4,f5⟩:=hf it (mem_singleton_self _)
  have hi:i<x.cps.size:=hg
  refine wpAny_pyNext_wide_item st (c:=x.cps[i]) (Array.getElem?_eq_getElem hi) λh' st' sb=>?_
  have I1:Inv X pins σ H {s with heap:=h',toks:=s.toks+1}:=I.turned (t':=s.toks+1) (λb o hb e=>(sb.2 b hb).trans e) f0 f1 f3 f4 f5
  obtain⟨o,e,c,d⟩:=id st'
  exact⟨_,rfl,ou (s:={s with heap:=h',toks:=s.toks+1}) e c d (by decide) ⟨.str ⟨#[x.cps[i]]⟩,H,I1,⟨_,rfl⟩,⟨rfl,_,Array.getElem?_eq_getElem hi,rfl⟩,st',λb hb=>(hf b hb).1⟩⟩
 done := by
   intro X hP hw hK hc i pins s σ H E I hf st hg
   subst hP hw hK
   obtain⟨f0,f1,f2,f3,f4,f5⟩:=hf it (mem_singleton_self _)
   have hi:x.cps.size<=i:=hg
   exact wpAny_pyNext_wide_end (I.ok.hd hc) st (Array.getElem?_eq_none hi) λh' eb=>⟨rfl,I.turned (t':=s.toks) (λb o hb e=>eb b o hb e) f0 f1 f3 f4 f5⟩
 self:=λ_ _ _ _ _ st h=>wpAny_pyIter_striter_wide st h
def sQ(tl:TE):TI:=λσ H R=>tl σ H λv H1=>∃x,v= .str x/\R (Its x) H1
theorem lT{X:Cx}{tg l:Expr}{tl:TE}(hl:PE X l tl):PI X tg l (sQ tl):=by
 intro pins s σ H R I h
 refine thn (hl pins s σ H _ I h) λv s1 ⟨y,H1,I1,r1,x,e,q⟩=>?_
 subst e
 obtain⟨t,rfl⟩:=r1
 have new:∀{o:Obj},Inv X pins σ H1 {s1 with heap:=s1.heap.push o}:=λ{o}=>I1.kept (t':=s1.toks) λb u e=>get?_push_of_some _ e
 have fp:∀b∈[s1.heap.objs.size],cW X pins H1 b:=λb hb=>by
  obtain rfl:=List.mem_singleton.mp hb
  exact I1.fpOk (le_refl _) (I1.hok.fresh (le_refl _))
 cases ha:x.cps.all (· <128)
 ·exact wpAny_pyIter_wide ha ⟨_,_,_,_,H1,rfl,new,uB x t _,⟨_,get?_push_size _ rfl,rfl,rfl⟩,fp,q⟩
 ·exact wpAny_pyIter_ascii ha ⟨_,_,_,_,H1,rfl,new,sP x t _,⟨_,get?_push_size _ rfl,rfl,rfl⟩,fp,q⟩
def Bb:List V->Hp->VK->Prop:=λxs H Q=>∃(p:Addr) (bs:List Bool),xs= [.ref p]/\H p=some (.lst (bs.map V.bl))/\Q (.bl (bs.all id)) H
theorem pj{X:Cx}(hc:X.calm=true):cy X (.builtin "all") Bb:=by
 intro pins s σ H xs us Q I r h
 obtain⟨p,bs,rfl,hp,q⟩:=h
 obtain⟨u,rfl,ru⟩:=eV r
 cases ru
 obtain⟨its,rv,pl,hz⟩:=I.list (SqL.of hp)
 have hlt:p<s.heap.objs.size:=I.hok.lt hp
 have item:∀(i:Nat) (v:Value),its.toArray[i]? =some v->∃b:Bool,bs[i]? =some b/\v=Value.bool b:=λi v e=>by
  have e':its[i]? =some v:=by simpa using e
  have hi:i<its.length:=(List.getElem?_eq_some_iff.mp e').1
  have hi':i<(bs.map V.bl).length:=by rw [rv.length];exact hi
  obtain⟨w',e2,rw'⟩:=rv.get (i:=i) (x:=(bs.map V.bl)[i]) (getElem?_eq_getElem hi')
  rw [e'] at e2;cases e2
  rw [List.getElem_map] at rw'
  exact⟨_,getElem?_eq_getElem (by simpa using hi'),rw'⟩
 refine call_all_walk (wpAny_pyIter_list pl.isList ⟨_,_,_,_,_,_,λi=>bs.getD i false,rfl,Walks.list (A:=X.A.in1) (show X.A.in1.handled=none from I.ok.hd hc) _ p (ne_of_lt hlt) its.toArray,⟨?_,?_⟩,?_,λh' tk k=>?_⟩)
 ·exact⟨_,get?_push_size _ rfl,rfl,rfl⟩
 ·exact pl.isList.at λo e=>get?_push_of_some _ e
 ·intro i v s' Q' E' hv hq
  obtain⟨b,hb,rfl⟩:=item i v hv
  refine wpAny_truthy_bool ?_
  have e:bs.getD i false=b:=by rw [getD_eq_getElem?_getD,hb];rfl
  have hq:Q' (bs.getD i false) s':=hq
  rw [e] at hq
  exact hq
 ·have e:(List.range its.toArray.size).all (λi=>bs.getD i false)=bs.all id:=by
   have l:its.toArray.size=bs.length:=by
    have:=rv.length
    simp at this
    simp [this]
   rw [l]
   clear q hp rv item
   rw [Bool.eq_iff_iff]
   simp only [all_eq_true,List.mem_range,id]
   constructor
   ·intro a b hb
    obtain⟨i,hi,rfl⟩:=List.getElem_of_mem hb
    have:=a i hi
    rw [getD_eq_getElem?_getD,getElem?_eq_getElem hi] at this
    exact this
   ·intro a i hi
    rw [getD_eq_getElem?_getD,getElem?_eq_getElem hi]
    exact a _ (getElem_mem hi)
  rw [e]
  exact⟨.bl _,H,I.kept (t':=tk) λb o z=>k b o (λm=>absurd (lt_size z) (by rw [List.mem_singleton.mp m];exact lt_irrefl _)) (get?_push_of_some _ z),rfl,q⟩
theorem j9{X:Cx}:cy X (.type "int") (λxs H Q=>∃x n,xs= [.str x]/\PySem.intText? x=some n/\x.length<=640/\Q (.int n) H):=by
 intro pins s σ H xs us Q I r h
 obtain⟨x,n,rfl,hn,hl,q⟩:=h
 obtain⟨u,rfl,ru⟩:=eV r
 obtain⟨t,rfl⟩:=ru
 exact PySem.W.KIN.call_text hn hl ⟨.int n,H,I.tok _,⟨_,rfl⟩,q⟩
structure ld(J:It)(xs:List V)(ok:Hp->Prop):Prop where
 go:∀i H,ok H->i<xs.length->J.go i H
 stop:∀i H,ok H->xs.length<=i->J.stop i H
 yld:∀i H x H',ok H->i<xs.length->J.yld i H x H'->H'=H/\xs[i]? =some x
theorem pk(x:Str):ld (Its x) (x.cps.toList.map λc=>V.str ⟨#[c]⟩) (λ_=>True) where
 go:=λi H _ h=>(show i<x.cps.size by simpa using h)
 stop:=λi H _ h=>(show x.cps.size<=i by simpa using h)
 yld:=λi H v H' _ h y=>by
  obtain⟨e,c,hc,rfl⟩:=y
  refine⟨e,?_⟩
  rw [getElem?_map]
  have:x.cps.toList[i]? =some c:=by simpa using hc
  rw [this];rfl
theorem nJ{K:PySem.W.Frag}{a:Addr}{xs:List V}:ld (Itl K a) xs (λH=>H a=some (.lst xs)) where
 go:=λi H e h=>⟨xs,xs[i],SqL.of e,getElem?_eq_getElem h⟩
 stop:=λi H e h=>⟨xs,SqL.of e,h⟩
 yld:=λi H v H' e h y=>⟨y.1,y.2 xs (SqL.of e)⟩
theorem lU(lo:Int)(n:Nat):ld (Itr lo n) ((List.range n).map λ(k:Nat)=>V.int (lo+k)) (λ_=>True) where
 go:=λi H _ h=>(show i<n by simpa using h)
 stop:=λi H _ h=>(show n<=i by simpa using h)
 yld:=λi H v H' _ h y=>by
  obtain⟨e,rfl⟩:=y
  refine⟨e,?_⟩
  have h':i<n:=by simpa using h
  rw [getElem?_map,getElem?_range h'];rfl
theorem nK{J:It}{xs:List V}{ok:Hp->Prop}(O:ld J xs ok)(p:V->Bool)(f:V->V){tc:TT}{te:TE}{cs:St}{H1:Hp}{Q:VK}{D:Addr}(hD:H1 D=none)(hok:∀ys,ok (upd H1 D (.lst ys)))(sz:xs.length<sizeLine)
 (htc:∀x∈xs,∀H Q,Q (p x) H->tc (some x::cs) H Q) (hte:∀x∈xs,p x=true->∀H Q,Q (f x) H->te (some x::cs) H Q)
 (q:∀H',Same H1 H'->H' D=some (.lst ((xs.filter p).map f))->Q (.ref D) H'):
 ∃W:Nat->Nat->Hp->Prop,(∃m,W 0 m (upd H1 D (.lst [])))/\∀i m H,W i m H->
  (J.stop i H/\Q (.ref D) H)\/(J.go i H/\∀x H',J.yld i H x H'->tc (some x::cs) H' λb H2=>if b=true then te (some x::cs) H2 λv H3=>∃ys,H3 D=some (.lst ys)/\ys.length<sizeLine/\∃m',m'<m/\W (i+1) m' (upd H3 D (.lst (ys++[v])))
   else ∃m',m'<m/\W (i+1) m' H2):=by
 refine⟨λi m H=>m=xs.length-i/\i<=xs.length/\H=upd H1 D (.lst (((xs.take i).filter p).map f)),⟨_,rfl,zero_le _,by simp⟩,?_⟩
 rintro i m H ⟨rfl,hi,rfl⟩
 by_cases hlt:i<xs.length
 ·refine .inr ⟨O.go i _ (hok _) hlt,λx H' y=>?_⟩
  obtain⟨rfl,hx⟩:=O.yld i _ x H' (hok _) hlt y
  have hm:=mem_of_getElem? hx
  have tk:(xs.take (i+1)).filter p=(xs.take i).filter p++(if p x then [x] else []):=take_succ_filter p xs i x hx
  refine htc x hm _ _ ?_
  cases hp:p x with
  | true=>
   refine cX (hte x hm hp _ _ ⟨_,aX,?_,xs.length-(i+1),by lia,rfl,hlt,?_⟩)
   ·rw [length_map]
    exact Nat.lt_of_le_of_lt (le_trans (List.length_filter_le _ _) (List.length_take_le _ _)) (lt_of_lt_of_le (by lia) (le_refl _))
   ·rw [xT,tk,hp];simp
  | false=>
   refine cK ⟨xs.length-(i+1),by lia,rfl,hlt,?_⟩
   rw [tk,hp];simp
 ·have e:i=xs.length:=by lia
  subst e
  refine .inl ⟨O.stop _ _ (hok _) (le_refl _),q _ (bt hD _) ?_⟩
  rw [aX,List.take_length]
theorem dk{names:List (Str×NameKind)}{y:Str}{k:NameKind}(h:names.lookup y=some k):(y,k)∈names:=PySem.mem_of_lookup h
theorem iT{X:Cx}{scope:Scope}{x:Str}(hk:scope.kind= .function)(h1:scope.names.all (λy=>y.2 != .free&&y.2 != .cell)=true)(h2:scope.names.all (λy=>y.2 != .local || scope.names.lookup y.1==some .local)=true):
 iK X scope [] [x] []:=by
 have nf:∀y∈scope.names,y.2≠.free/\y.2≠.cell:=λy hy=>by
  have:=List.all_eq_true.mp h1 y hy
  simpa using this
 have rl:(relabel scope X.env).names=scope.names:=by
  show scope.names.map _=_
  refine map_eq_self λy hy=>?_
  obtain⟨n,k⟩:=y
  have q:(k==NameKind.free)=false:=by
   have:=(nf _ hy).1
   simpa using this
  simp [q]
 refine⟨hk,λ_=>closureFor_none λy hy=>(nf y hy).1,λy hy=>(nf y hy).2,λy hy e=>?_,List.nodup_cons.mpr ⟨by simp,List.nodup_nil⟩,λy hy=>?_,λ_ y c e=>(by cases e),rfl,λj i y a b=>(by simp at b)⟩
 ·have:=List.all_eq_true.mp h2 y hy
  simpa [e] using this
 ·rw [rl] at hy
  rcases hy with hy | hy
  ·exact absurd rfl (nf _ (dk hy)).2
  ·exact absurd rfl (nf _ (dk hy)).1
def Bc(te:TE):TE:=λσ H Q=>te σ H λv H1=>(∃x,v= .str x/\x.length<=sizeLine/\Q (.str x) H1)\/∃i:Int,v= .int i/\i.natAbs.log2<1920/\Q (.str (toString i)) H1
theorem dU{X:Cx}{e:Expr}{te:TE}{pos:Pos}(he:PE X e te):PE X (.FormattedValue e (-1) none pos) (Bc te):=by
 intro pins s σ H Q I h
 refine PySem.wpAny_FormattedValue_plain (thn (he pins s σ H _ I h) λv s1 ⟨y,H1,I1,r1,q1⟩=>?_)
 rcases q1 with ⟨x,rfl,hz,q⟩ | ⟨i,rfl,hz,q⟩
 ·obtain⟨t,rfl⟩:=r1
  exact wpAny_formatField_str ⟨.str x,H1,I1,⟨_,rfl⟩,q⟩ ⟨.str x,H1,I1.tok _,⟨_,rfl⟩,q⟩ hz
 ·obtain⟨t,rfl⟩:=r1
  exact wpAny_formatField_int hz ⟨.str _,H1,(I1.tok _).tok _,⟨_,rfl⟩,q⟩
abbrev TJ:=Str->St->Hp->(Str->Hp->Prop)->Prop
def PJ(X:Cx)(es:List Expr)(t:TJ):Prop:=∀(pins:List (Addr×Obj)) (s:Shared) (σ:St) (H:Hp) (out:Str) (Q:Str->Hp->Prop),Inv X pins σ H s->t out σ H Q->
 wpAny (model X.prog X.w) X.A (joinParts out (evalEach es X.env)) (λu s'=>∃x t H',u= .str x t/\Inv X pins σ H' s'/\Q x H') X.xe s
def Be:TJ:=λout _ H Q=>out.length<=sizeLine/\Q out H
def xA(te:TE)(t:TJ):TJ:=λout σ H Q=>te σ H λv H1=>∃x,v= .str x/\(out++x).length<=sizeLine/\t (out++x) σ H1 Q
theorem fA{X:Cx}:PJ X [] Be:=λpins s σ H out Q I h=>joinParts_nil ⟨out,_,H,rfl,I.tok _,h.2⟩ h.1
theorem bb{X:Cx}{e:Expr}{es:List Expr}{te:TE}{t:TJ}(he:PE X e te)(hr:PJ X es t):PJ X (e::es) (xA te t):=by
 intro pins s σ H out Q I h
 refine joinParts_cons (thn (he pins s σ H _ I h) λv s1 ⟨y,H1,I1,r1,x,e,hz,q⟩=>?_)
 subst e
 obtain⟨t,rfl⟩:=r1
 exact⟨hz,hr pins s1 σ H1 _ Q I1 q⟩
def xB(t:TJ):TE:=λσ H Q=>t Str.empty σ H λx H1=>Q (.str x) H1
theorem eM{X:Cx}{e1 e2:Expr}{es:List Expr}{t:TJ}{pos:Pos}(h:PJ X (e1::e2::es) t):PE X (.JoinedStr (e1::e2::es) pos) (xB t):=λpins s σ H Q I q=>
 JoinedStr_many (thn (h pins s σ H Str.empty _ I q) λu s' ⟨x,t,H',e,I',q'⟩=>⟨.str x,H',I',⟨t,e⟩,q'⟩)
section
variable{X:Cx}
def mO:V->List V->Hp->VK->Prop:=λx vs H Q=>∃a b,x= .str a/\vs= [.str b]/\Q (.bl (PySem.Txt.startswith a b)) H
theorem ol:MtR X "str.startswith" mO:=by
 intro pins s σ H x vs v us Q I rx rv h
 obtain⟨a,b,rfl,rfl,q⟩:=h
 obtain⟨t,rfl⟩:=rx
 obtain⟨u,rfl,⟨t',rfl⟩⟩:=rv.one
 exact SC.startswith ⟨.bl _,H,I,rfl,q⟩
theorem om{o e:Expr}{to te:TE}{apos cpos:Pos}(ho:PE X o to)(he:PE X e te)(hn:dA e=true:=by rfl)
 (hbase:attributeBase o "startswith" X.env (eval o X.env)=eval o X.env:=by rfl)
 (hfew:((backTo cpos (starEach [e] X.env)).all (λx=>!x.1)&&(backToKw cpos (keywordEach [] X.env)).all (λx=>x.1.isSome)
  && decide (([e]:List Expr).length+([]:List Keyword).length+(if ([]:List Keyword).isEmpty then 0 else 1)<30))=true:=by rfl)
 (hline:(apos.endLine==cpos.line)=true:=by rfl) (hs:starEach [e] X.env=(false,eval e X.env)::starEach [] X.env:=by rfl) (hplain:(backTo cpos (starEach [] X.env)).any (·.1)=false:=by rfl):
 PE X (.Call (.Attribute o "startswith" apos) [e] [] cpos) (tBM X.K "str" mO to (gS te jH)):=
 lP F.plainAttrs_str F.slot_str_startswith F.type_str_startswith ol ho (aa he ad hn) hbase hfew hline hs hplain
def xC:R2:=λx y H Q=>∃a n,x= .str a/\y= .int n/\MulOk a n/\Q (.str (PySem.Txt.mul a n)) H
theorem fB:OpR X (binaryOp .Mult) xC:=by
 intro pins s σ H x y v u Q I rx ry h
 obtain⟨a,n,rfl,rfl,hok,q⟩:=h
 obtain⟨t,rfl⟩:=rx
 obtain⟨t',rfl⟩:=ry
 exact SB.mul hok λt2 k=>⟨.str _,H,I.tok _,⟨_,rfl⟩,q⟩
def Bf:V->Option Int->Option Int->Hp->VK->Prop:=λx lo hi H Q=>∃a,x= .str a/\a.length<=sizeLine/\Q (.str (PySem.Txt.slice a lo hi)) H
theorem ka:SlR X Bf:=by
 intro pins s σ H x v vl vu lo hi sl Q I rx hs pl pu h
 obtain⟨a,rfl,hz,q⟩:=h
 obtain⟨t,rfl⟩:=rx
 refine⟨"str",_,F.slot_str_getitem.lookup,typeIs_str _ _ _,?_⟩
 cases pl with
 | none=>
  cases pu with
  | none=>exact wpAny_getItem_str_slice (l:=none) (u:=none) (st:=none) hs rfl (post_val_or_str ⟨le_trans (PySem.Txt.slice_le a _ _) hz,λt' k=>⟨.str _,H,I.tok _,⟨_,rfl⟩,q⟩⟩)
  | int j uj=>exact wpAny_getItem_str_slice (l:=none) (u:=some (j,uj)) (st:=none) hs rfl (post_val_or_str ⟨le_trans (PySem.Txt.slice_le a _ _) hz,λt' k=>⟨.str _,H,I.tok _,⟨_,rfl⟩,q⟩⟩)
 | int i ui=>
  cases pu with
  | none=>exact wpAny_getItem_str_slice (l:=some (i,ui)) (u:=none) (st:=none) hs rfl (post_val_or_str ⟨le_trans (PySem.Txt.slice_le a _ _) hz,λt' k=>⟨.str _,H,I.tok _,⟨_,rfl⟩,q⟩⟩)
  | int j uj=>exact wpAny_getItem_str_slice (l:=some (i,ui)) (u:=some (j,uj)) (st:=none) hs rfl (post_val_or_str ⟨le_trans (PySem.Txt.slice_le a _ _) hz,λt' k=>⟨.str _,H,I.tok _,⟨_,rfl⟩,q⟩⟩)
theorem nL:∀{ys:List Str} {us:List Value},Vals (ys.map V.str) us->∃l:List (Str×Tok),us=strValues l/\l.map (·.1)=ys
 | [],_,.nil=>⟨[],rfl,rfl⟩
 | y::ys,_,.cons r t=>by
  obtain⟨k,rfl⟩:=r
  obtain⟨l,rfl,e⟩:=nL t
  exact⟨(y,k)::l,rfl,by rw [map_cons,e]⟩
def pq:V->List V->Hp->VK->Prop:=λx vs H Q=>∃a l ys,x= .str a/\vs= [.ref l]/\H l=some (.lst (ys.map V.str))/\JoinOk a ys=true/\Q (.str (PySem.Txt.join a ys)) H
theorem yr:MtR X "str.join" pq:=by
 intro pins s σ H x vs v us Q I rx rv h
 obtain⟨a,l,ys,rfl,rfl,hl,hok,q⟩:=h
 obtain⟨t,rfl⟩:=rx
 obtain⟨u,rfl,ru⟩:=rv.one
 cases ru
 obtain⟨z,its,n,r,hlen,e⟩:=I.lstM hl
 obtain⟨m,rfl,e2⟩:=nL r
 exact SC.join ⟨_,e,rfl,_,rfl⟩ e2 hok λt' k=>⟨.str _,H,I.tok _,⟨_,rfl⟩,q⟩
theorem gY{o e:Expr}{to te:TE}{apos cpos:Pos}(ho:PE X o to)(he:PE X e te)(hn:dA e=true:=by rfl)
 (hbase:attributeBase o "join" X.env (eval o X.env)=eval o X.env:=by rfl)
 (hfew:((backTo cpos (starEach [e] X.env)).all (λx=>!x.1)&&(backToKw cpos (keywordEach [] X.env)).all (λx=>x.1.isSome)
  && decide (([e]:List Expr).length+([]:List Keyword).length+(if ([]:List Keyword).isEmpty then 0 else 1)<30))=true:=by rfl)
 (hline:(apos.endLine==cpos.line)=true:=by rfl) (hs:starEach [e] X.env=(false,eval e X.env)::starEach [] X.env:=by rfl) (hplain:(backTo cpos (starEach [] X.env)).any (·.1)=false:=by rfl):
 PE X (.Call (.Attribute o "join" apos) [e] [] cpos) (tBM X.K "str" pq to (gS te jH)):=
 lP F.plainAttrs_str F.slot_str_join F.type_str_join yr ho (aa he ad hn) hbase hfew hline hs hplain
def Bg(K:PySem.W.Frag)(neg:Bool):R2:=λx y H Q=>∃p xs,y= .ref p/\(∀H,SqT K H p xs)/\di x=true/\xs.all di=true/\Q (.bl (if neg then !inV x xs else inV x xs)) H
theorem uC:OpR X (compareOp .NotIn) (Bg X.K true):=by
 intro pins s σ H x y v u Q I rx ry h
 obtain⟨p,xs,rfl,hq,fx,fs,q⟩:=h
 exact j4 pins s σ H x _ v u Q I rx ry ⟨p,xs,rfl,.inr (hq H),fx,fs,q⟩
end
def sgn(v:V):Nat:=match v with | .str s=>s.cps[0]?.getD 0 | _=>0
theorem il(p:Nat->Bool)(f:Nat->V):∀l:List Nat,((l.map λc=>V.str ⟨#[c]⟩).filter λv=>p (sgn v)).map (λv=>f (sgn v))=(l.filter p).map f
 | []=>rfl
 | c::l=>by
  have e:sgn (V.str ⟨#[c]⟩)=c:=rfl
  rw [map_cons,List.filter_cons,List.filter_cons,e]
  cases p c
  ·exact il p f l
  ·show f (sgn (V.str ⟨#[c]⟩))::_=f c::_
   rw [e,il p f l]
theorem uD{cap:List Nat}{tl te:TE}{tc:TT}{σ:St}{H:Hp}{Q:VK}(x:Str)(p:Nat->Bool)(f:Nat->V)(htl:∀K:VK,K (.str x) H->tl σ H K)(sz:x.length<sizeLine)
 (htc:∀c∈x.cps.toList,∀(H:Hp) (Q:Bool->Hp->Prop),Q (p c) H->tc (some (.str ⟨#[c]⟩)::cC σ cap) H Q) (hte:∀c∈x.cps.toList,p c=true->∀(H:Hp) (Q:VK),Q (f c) H->te (some (.str ⟨#[c]⟩)::cC σ cap) H Q)
 (q:∀D H',H D=none->Same H H'->H' D=some (.lst ((x.cps.toList.filter p).map f))->Q (.ref D) H'):lS cap (sQ tl) tc te σ H Q:=by
 refine htl _ ⟨x,rfl,λD hD=>?_⟩
 refine nK (pk x) (λv=>p (sgn v)) (λv=>f (sgn v)) hD (λ_=>trivial) (by rw [length_map];exact sz) ?_ ?_ ?_
 ·intro v hv
  obtain⟨c,hc,rfl⟩:=List.mem_map.mp hv
  exact htc c hc
 ·intro v hv
  obtain⟨c,hc,rfl⟩:=List.mem_map.mp hv
  exact hte c hc
 ·intro H' hS e
  exact q D H' hD hS (by rw [e,il])
theorem sR{K:PySem.W.Frag}{cap:List Nat}{tl te:TE}{tc:TT}{σ:St}{H H1:Hp}{Q:VK}(a:Addr)(xs:List V)(p:V->Bool)(f:V->V)(htl:∀R:VK,R (.ref a) H1->tl σ H R)(ha:H1 a=some (.lst xs))(sz:xs.length<sizeLine)
 (htc:∀v∈xs,∀(H:Hp) (Q:Bool->Hp->Prop),Q (p v) H->tc (some v::cC σ cap) H Q) (hte:∀v∈xs,p v=true->∀(H:Hp) (Q:VK),Q (f v) H->te (some v::cC σ cap) H Q)
 (q:∀D H',H1 D=none->Same H1 H'->H' D=some (.lst ((xs.filter p).map f))->Q (.ref D) H'):lS cap (gQ K tl) tc te σ H Q:=by
 refine htl _ ⟨a,rfl,⟨xs,SqL.of ha⟩,λD hD=>?_⟩
 have hne:a≠D:=λe=>by rw [e,hD] at ha;cases ha
 refine nK nJ p f hD (λys=>?_) sz htc hte λH' hS e=>q D H' hD hS e
 rw [aO hne];exact ha
def oD:R2:=λx y H Q=>∃l b xs zs,x= .ref l/\y= .ref b/\H l=some (.lst xs)/\H b=some (.lst zs)/\xs.length+zs.length<=sizeLine/\∀p H',H p=none->Same H H'->H' p=some (.lst (xs++zs))->Q (.ref p) H'
theorem aV{X:Cx}:OpR X (binaryOp .Add) oD:=by
 intro pins s σ H x y v u Q I rx ry h
 obtain⟨l,b,xs,zs,e1,e2,h1,h2,hz,q⟩:=h
 exact zX pins s σ H x y v u Q I rx ry ⟨l,b,xs,zs,e1,e2,h1,h2,hz,dD q⟩
def xD:V->V->V->Hp->(Hp->Prop)->Prop:=λo i v H Q=>∃p xs k j,o= .ref p/\i= .int k/\H p=some (.lst xs)/\ixN xs.length k=some j/\∀H',Mu H p (.lst (xs.set j v)) H'->Q H'
theorem iL{X:Cx}:sk X xD:=by
 intro pins s σ H o i v ov iv u Q I ro ri rv h
 obtain⟨p,xs,k,j,e1,e2,h1,h2,q⟩:=h
 exact wf pins s σ H o i v ov iv u Q I ro ri rv ⟨p,xs,k,j,e1,e2,h1,h2,q _ .mk'⟩
theorem wo{J:It}{xs:List V}{ok:Hp->Prop}(O:ld J xs ok){g:TG}{tb:TS}{D:Ends}{σ:St}{H:Hp}(Pv:Nat->St->Hp->Prop)(h0:Pv 0 σ H)(hl:∀i σ H,i<=xs.length->Pv i σ H->ok H)
 (hs:∀i x σ H,xs[i]? =some x->Pv i σ H->g x σ H λσ2 H2=>tb {D with nx:=Pv (i+1),ct:=Pv (i+1),bk:=D.nx} σ2 H2) (hd:∀σ H,Pv xs.length σ H->D.nx σ H):
 ∃W:Nat->Nat->St->Hp->Prop,(∃m,W 0 m σ H)/\∀i m σ H,W i m σ H->
  (J.stop i H/\D.nx σ H)\/(J.go i H/\∃N:St->Hp->Prop,(∀σ' H',N σ' H'->∃m',m'<m/\W (i+1) m' σ' H')/\∀x H',J.yld i H x H'->g x σ H' λσ2 H2=>tb {D with nx:=N,ct:=N,bk:=D.nx} σ2 H2):=by
 refine⟨λi m σ H=>m=xs.length-i/\i<=xs.length/\Pv i σ H,⟨xs.length,by simp,zero_le _,h0⟩,?_⟩
 rintro i m σ H ⟨rfl,hi,p⟩
 have q:=hl i σ H hi p
 by_cases hlt:i<xs.length
 ·refine .inr ⟨O.go i H q hlt,Pv (i+1),λσ' H' p'=>⟨xs.length-(i+1),by lia,rfl,hlt,p'⟩,λx H' y=>?_⟩
  obtain⟨rfl,hx⟩:=O.yld i H x H' q hlt y
  exact hs i x σ H' hx p
 ·have e:i=xs.length:=by lia
  subst e
  exact .inl ⟨O.stop _ _ q (le_refl _),hd σ H p⟩
theorem pz{tl:TE}{g:TG}{tb:TS}{D:Ends}{σ:St}{H:Hp}(x:Str)(htl:∀R:VK,R (.str x) H->tl σ H R)(Pv:List Nat->St->Hp->Prop)(h0:Pv [] σ H)
 (hs:∀(l:List Nat) (c:Nat) (r:List Nat) σ H,x.cps.toList=l++c::r->Pv l σ H->g (.str ⟨#[c]⟩) σ H λσ2 H2=>tb {D with nx:=Pv (l++[c]),ct:=Pv (l++[c]),bk:=D.nx} σ2 H2)
 (hd:∀σ H,Pv x.cps.toList σ H->D.nx σ H):vW (sQ tl) g tb D σ H:=by
 refine htl _ ⟨x,rfl,wo (pk x) (λi=>Pv (x.cps.toList.take i)) h0 (λ_ _ _ _ _=>trivial) (λi v σ H hx p=>?_) (λσ H p=>hd σ H (by rw [length_map,List.take_length] at p;exact p))⟩
 rw [getElem?_map] at hx
 cases hc:x.cps.toList[i]? with
 | none=>rw [hc] at hx;cases hx
 | some c=>
  rw [hc] at hx
  cases hx
  obtain⟨hi,rfl⟩:=List.getElem?_eq_some_iff.mp hc
  have e:x.cps.toList.take (i+1)=x.cps.toList.take i++[x.cps.toList[i]]:=by rw [List.take_append_getElem]
  rw [e]
  refine hs _ _ (x.cps.toList.drop (i+1)) σ H ?_ p
  rw [List.getElem_cons_drop,take_append_drop]
def tMs(t:TS):TS:=λD σ H=>∃Z:St->Hp->Prop,t {D with nx:=Z} σ H/\∀σ' H',Z σ' H'->D.nx σ' H'
theorem cL{X:Cx}{st:Stmt}{t:TS}(h:PS X st t):PS X st (tMs t):=by
 intro pins s σ H D I hq
 obtain⟨Z,h1,h2⟩:=hq
 refine thn (h pins s σ H _ I h1) λfl s' hs=>?_
 cases fl with
 | next=>obtain⟨σ',H',I',q⟩:=hs;exact⟨σ',H',I',h2 _ _ q⟩
 | _=>exact hs
section
variable{X:Cx}{pins:List (Addr×Obj)}{σ:St}{H:Hp}{s:Shared}{h':Heap}
theorem Inv.turnedL{t':Nat}{ch:List Addr}(I:Inv X pins σ H s)(k:∀b o,b∉ch->s.heap.get? b=some o->h'.get? b=some o)(hf:∀b∈ch,cW X pins H b):Inv X pins σ H {s with heap:=h',toks:=t'}:=by
 have nit:∀b u,H b=some u->b∉ch:=λb u e z=>by rw [(hf b z).1] at e;cases e
 refine I.step (g':=s.gens) (d':=s.drawn) (ch:=ch) (λb hb=>?_) (λb o _ _ hc e _=>k b o hc e) (λb o _ _ hc e _=>⟨o.slots,k b o hc e⟩) (λ_ _ _ _ n=>n)
  (λb o hc e=>⟨o,k b o hc e⟩) (λ_ _ e=>e) (λ_ _ _ e=>e) (λb ps e=>⟨#[],by rw [e];simp⟩) (λm hm=>?_) (λb u e=>?_) I.bare
 ·obtain⟨_,f1,_,f3,f4,f5⟩:=hf b hb
  exact⟨f3,f1,f4,f5⟩
 ·obtain⟨o,es,ep,ho,r⟩:=hm
  exact⟨o,es,ep,k _ o (λz=>(hf _ z).2.1 rfl) ho,r⟩
 ·refine(I.hok b u e).stay (λc v hc q=>k c v ?_ q) (λ_ q=>q) λ_ _ q=>q
  rcases hc with z | z
  ·rw [z];exact nit b u e
  ·exact nit c _ z
end
inductive F2 (R:V->V->Prop):List V->List V->Prop
 | nil:F2 R [] []
 | cons {x v:V} {xs vs:List V}:R x v->F2 R xs vs->F2 R (x::xs) (v::vs)
theorem im{α β:Type}{f:α->β->Sem (ForInStep β)}(g:α->β->β):∀(l:List α) (b:β),(∀x∈l,∀b,f x b=pure (.yield (g x b)))->forIn l b f=pure (l.foldl (λb x=>g x b) b)
 | [],b,_=>by rw [forIn_nil];rfl
 | x::l,b,h=>by
  rw [forIn_cons,h x mem_cons_self b,pure_bind]
  exact im g l (g x b) λy hy=>h y (mem_cons_of_mem _ hy)
def io(env:Env)(x:Str×NameKind)(r:List (Str×Addr)):List (Str×Addr):=if x.2== .free then (x.1,(env.cells.lookup x.1).getD 0)::r else r
def Bh(env:Env)(scope:Scope):List (Str×Addr):=scope.names.foldl (λr x=>io env x r) []
theorem sS{scope:Scope}{env:Env}(h:∀y∈scope.names,y.2= .free->∃c,env.cells.lookup y.1=some c):closureFor scope env=pure (Bh env scope):=by
 simp only [closureFor]
 rw [im (io env) scope.names [] (λx hx b=>by
  obtain⟨n,k⟩:=x
  cases hk:(k==NameKind.free) with
  | false=>simp [io,hk]
  | true=>
   have e:k= .free:=by simpa using hk
   obtain⟨c,hc⟩:=h _ hx e
   have hc':env.cells.lookup n=some c:=hc
   simp [io,hk,cellOf,hc'])]
 rfl
theorem uE{env:Env}:∀(names:List (Str×NameKind)) (acc:List (Str×Addr)),(∀y∈names,y.2= .free->∃c,env.cells.lookup y.1=some c)->(∀y c,acc.lookup y=some c->env.cells.lookup y=some c)->
 ∀y c,(names.foldl (λr x=>io env x r) acc).lookup y=some c->env.cells.lookup y=some c
 | [],acc,_,ha,y,c,e=>ha y c e
 | (n,k)::names,acc,h,ha,y,c,e=>by
  refine uE names (io env (n,k) acc) (λz hz=>h z (mem_cons_of_mem _ hz)) (λz d ez=>?_) y c e
  unfold io at ez
  split at ez
  ·rename_i hk
   have hk':k= .free:=by simpa using hk
   obtain⟨c',hc'⟩:=h _ mem_cons_self hk'
   have hc':env.cells.lookup n=some c':=hc'
   rw [lookup_cons] at ez
   split at ez
   ·rename_i hzn
    have:z=n:=by simpa using hzn
    subst this
    rw [hc'] at ez⊢
    exact ez
   ·exact ha z d ez
  ·exact ha z d ez
theorem uF{env:Env}:∀(names:List (Str×NameKind)) (acc:List (Str×Addr)) (y:Str),((y,NameKind.free)∈names\/(acc.lookup y).isSome)->((names.foldl (λr x=>io env x r) acc).lookup y).isSome
 | [],acc,y,h=>h.elim (λz=>absurd z not_mem_nil) id
 | (n,k)::names,acc,y,h=>by
  refine uF names (io env (n,k) acc) y ?_
  rcases h with h | h
  ·rcases List.mem_cons.mp h with h | h
   ·obtain⟨rfl,rfl⟩:=Prod.mk.inj h
    right
    simp [io]
   ·exact .inl h
  ·right
   unfold io
   split
   ·rw [lookup_cons]
    split
    ·rfl
    ·exact h
   ·exact h
theorem fO{env:Env}:∀{names:List (Str×NameKind)} {x:Str},names.lookup x=some .free->
 (names.map λ(n,k)=>if (k==NameKind.free&&env.scope.kind== .function&&env.kindOf n==some .cell) then (n,NameKind.cell) else (n,k)).lookup x=some .cell\/
 (names.map λ(n,k)=>if (k==NameKind.free&&env.scope.kind== .function&&env.kindOf n==some .cell) then (n,NameKind.cell) else (n,k)).lookup x=some .free
 | [],_,h=>by simp at h
 | (n,k)::r,x,h=>by
  have ih:= @fO env r x
  rw [lookup_cons] at h
  rw [map_cons]
  cases hx:x==n with
  | true=>
   rw [hx] at h
   have hk:k= .free:=by simpa using h
   subst hk
   dsimp only
   split
   ·left;rw [lookup_cons,hx]
   ·right;rw [lookup_cons,hx]
  | false=>
   rw [hx] at h
   dsimp only
   split
   ·rw [lookup_cons,hx];exact ih h
   ·rw [lookup_cons,hx];exact ih h
theorem uG{X:Cx}:cy X (.type "str") (λxs H Q=>(∃i,xs= [.int i]/\i.natAbs.log2<1920/\Q (.str (toString i)) H)\/∃x,xs= [.str x]/\Q (.str x) H):=by
 intro pins s σ H xs us Q I r h
 rcases h with ⟨i,rfl,hz,q⟩ | ⟨x,rfl,q⟩
 ·obtain⟨u,rfl,t,rfl⟩:=eV r
  exact PySem.P.str_of_int hz ⟨.str _,H,I.tok _,⟨_,rfl⟩,q⟩
 ·obtain⟨u,rfl,t,rfl⟩:=eV r
  exact PySem.P.str_of_str ⟨.str x,H,I,⟨_,rfl⟩,q⟩
section
variable{X:Cx}{B:Addr}{cx:Str}{e:Expr}{b0:Stmt}{suite:List Stmt}{ep np hpos pos:Pos}{t:TX}{th:TS}
end
def Eb(J:It)(g:TG)(tb:TS)(D:Ends)(σ:St)(H1:Hp):Prop:=∃W:Nat->Nat->St->Hp->Prop,(∃m,W 0 m σ H1)/\∀i m σ H,W i m σ H->
 (J.stop i H/\D.nx σ H)\/(J.go i H/\∃N:St->Hp->Prop,(∀σ' H',N σ' H'->∃m',m'<m/\W (i+1) m' σ' H')/\∀x H',J.yld i H x H'->g x σ H' λσ2 H2=>tb {D with nx:=N,ct:=N,bk:=D.nx} σ2 H2)
theorem jm{wi:TI}{g:TG}{tb:TS}{D:Ends}{σ:St}{H:Hp}(h:wi σ H λJ H1=>Eb J g tb D σ H1):vW wi g tb D σ H:=h
section
variable{X:Cx}{pins:List (Addr×Obj)}{σ:St}{H:Hp}{s:Shared}
end
def Itk(d:Addr)(o:Obj)(kvs:List (Key×V)):It:=
 ⟨λi H=>i<kvs.length/\H d=some (.frz o (.dK kvs)),λi H x H'=>H'=H/\∃k v,kvs[i]? =some (k,v)/\x=kV k,λi H=>kvs.length<=i/\H d=some (.frz o (.dK kvs))⟩
def iKeys(nf:Addr->Prop)(tl:TE):TI:=λσ H R=>tl σ H λx H1=>∃d kvs,x= .ref d/\H1 d=some (.dK kvs)/\∀o,nf d->R (Itk d o kvs) (upd H1 d (.frz o (.dK kvs)))
section
variable{X:Cx}
def xE:V->List V->Hp->VK->Prop:=λx vs H Q=>∃l xs y,x= .ref l/\vs= []/\H l=some (.lst (xs++[y]))/\∀H',Mu H l (.lst xs) H'->Q y H'
theorem mP:MtR X "list.pop" xE:=by
 intro pins s σ H x vs v us Q I rx rv h
 obtain⟨l,xs,y,e1,e2,hH,q⟩:=h
 refine zW pins s σ H x vs v us Q I rx rv ⟨l,xs++[y],y,e1,e2,hH,?_,?_⟩
 ·rw [length_append,length_singleton,Nat.add_sub_cancel]
  simp
 ·rw [List.dropLast_concat]
  exact q _ .mk'
def xF:R2:=λx y H Q=>∃l k xs,x= .ref l/\y= .int k/\H l=some (.lst xs)/\ -(2^63)<=k/\k<2^63/\xs.length*k.toNat<=sizeLine/\∀p H',H p=none->Same H H'->H' p=some (.lst (replicate k.toNat xs).flatten)->Q (.ref p) H'
theorem yt:OpR X (binaryOp .Mult) xF:=by
 intro pins s σ H x y v u Q I rx ry h
 obtain⟨l,k,xs,e1,e2,h1,h2,h3,h4,q⟩:=h
 exact zY pins s σ H x y v u Q I rx ry ⟨l,k,xs,e1,e2,h1,h2,h3,h4,dD q⟩
end
section
variable{prog:Program}{w:World}{A:Around}{E:Value->Shared->Prop}{s:Shared}
theorem nM{it t:Addr}{items:Array Value}(hne:t≠it):∀(n i:Nat) (s:Shared) (Q:List Value->Shared->Prop),s.heap.IsListIter it t i->s.heap.IsList t items->i+n<=items.size->
 (∀h',h'.IsListIter it t (i+n)->Heap.SameBut it s.heap h'->Q ((items.toList.drop i).take n) {s with heap:=h'})->wpAny (model prog w) A (draw (.ref it) n) Q E s
 | 0,i,s,Q,hit,_,_,hQ=>by
  show wpAny _ _ (pure []) Q E s
  exact wpAny_pure (by simpa using hQ s.heap hit (Heap.SameBut.refl ..))
 | n+1,i,s,Q,hit,ht,hle,hQ=>by
  have hlt:i<items.size:=by lia
  show wpAny _ _ (pyNext (.ref it) >>= _) Q E s
  refine wpAny_bind (wpAny_pyNext_list_item hit ht (x:=items[i]) (by simp [hlt]) λh₁ hit₁ hs₁=>?_)
  refine wpAny_bind (wpAny_holding (nM hne n (i+1) _ _ hit₁ (ht.at λo e=>(hs₁.2 t hne).trans e) (by lia) λh₂ hit₂ hs₂=>wpAny_pure ?_))
  have hd:items.toList.drop i=items[i]::items.toList.drop (i+1):=by simp [drop_eq_getElem_cons,hlt]
  have:=hQ h₂ (by rw [show i+(n+1)=i+1+n by lia];exact hit₂) (hs₁.trans hs₂)
  rw [hd,take_succ_cons] at this
  exact this
theorem lg{t:Addr}{items:Array Value}{Q:List Value->Shared->Prop}(hh:A.handled=none)(ht:s.heap.IsList t items)
 (hQ:∀h',Heap.ExtBut s.heap.objs.size s.heap h'->Q items.toList {s with heap:=h'}):wpAny (model prog w) A (unpackItems (.ref t) items.size none) Q E s:=by
 have hlt:t≠s.heap.objs.size:=by obtain⟨o,ho,_⟩:=ht;exact ne_of_lt (lt_size ho)
 unfold unpackItems
 refine wpAny_bind ?_
 unfold notIterableAtAll
 refine wpAny_bind (wpAny_specialOf ht.typeIs F.slot_list_iter.lookup ?_)
 refine wpAny_pure ?_
 simp only [Bool.false_eq_true,if_false]
 refine wpAny_bind (wpAny_holding (wpAny_pyIter_list ht ?_))
 refine wpAny_bind (wpAny_holding (nM hlt items.size 0 _ _ ⟨_,get?_push_size _ rfl,rfl,rfl⟩ (ht.at λo e=>get?_push_of_some _ e) (by lia) λh₁ hit₁ hs₁=>?_))
 have hall:List.take items.size (List.drop 0 items.toList)=items.toList:=by
  rw [drop_zero];exact take_of_length_le (by simp)
 rw [hall]
 rw [if_neg (by simp)]
 have ht₁:h₁.IsList t items:=(ht.at λo e=>get?_push_of_some _ e).at λo e=>(hs₁.2 t hlt).trans e
 refine wpAny_bind (wpAny_holding (wpAny_pyNext_list_end hh hit₁ ht₁ (by simp) λh₂ he₂=>?_))
 simp only [Option.isSome_none,Bool.false_eq_true,if_false]
 refine wpAny_pure (hQ h₂ λb o hb e=>he₂ b o hb (hs₁.extBut b o hb (get?_push_of_some _ e)))
end
def xG(n:Nat)(t:TGs):TG:=λv σ H Q=>∃a xs,v= .ref a/\H a=some (.lst xs)/\xs.length=n/\t xs σ H Q
theorem gZ{X:Cx}{es:List Expr}{k:Nat}{t:TGs}{pos:Pos}(n:Nat)(hc:X.calm=true)(h:PGs X es t)
 (hn:(assignEach es X.env).length=n:=by rfl) (hst:(assignEach es X.env).findIdx? (·.1)=none:=by rfl):PG X (.Tuple es k pos) (xG n t):=by
 intro pins s σ H v u Q I r hw
 obtain⟨a,xs,e1,hq,hl,hw⟩:=hw
 subst e1
 cases r
 obtain⟨its,rv,p,hz⟩:=I.list (SqL.of hq)
 rw [assign_Tuple]
 refine wpAny_bind (wpAny_standAt ?_)
 unfold unpack
 have e:(assignEach es X.env).length=its.toArray.size:=by simp [hn,<-hl,rv.length]
 rw [e,hst]
 refine wpAny_bind (wpAny_holding (lg (I.ok.hd hc) p.isList λh' hx=>?_))
 have I1:Inv X pins σ H {s with heap:=h'}:=I.kept (t':=s.toks) λb o e=>hx b o (ne_of_lt (lt_size e)) e
 exact h pins _ σ H xs _ Q I1 (by simpa using rv) hw
theorem pA:∀{ns:List Int} {its:List Value},Vals (ns.map V.int) its->IntsAre its ns
 | [],_,.nil=>.nil
 | n::ns,_,.cons h r=>by
  obtain⟨t,rfl⟩:=h
  exact .cons n t (pA r)
def uH(K:PySem.W.Frag):List V->Hp->VK->Prop:=λxs H Q=>∃p ys,xs= [.ref p]/\(H p=some (.lst ys)\/H p=some (.tup ys))/\∀l H',H l=none->Same H H'->H' l=some (.lst ys)->Q (.ref l) H'
theorem sT{X:Cx}:cy X (.type "list") (uH X.K):=by
 intro pins s σ H xs us Q I r h
 obtain⟨p,ys,e,hp,q⟩:=h
 exact oW pins s σ H xs us Q I r ⟨p,ys,e,hp.elim (λh=>.inl (SqL.of h)) (λh=>.inr (.inl (.inl h))),dD q⟩
def insL(xs:List V)(k:Nat)(y:V):List V:=xs.take k++y::xs.drop k
section
variable{prog:Program}{w:World}{A:Around}{s:Shared}
theorem rB{elt target iter:PySem.Expr}{ifs:List PySem.Expr}{scope:Scope}{pos:Pos}{it acc:Value}{env:Env}{R:Result->Shared->Prop}(I:Nat->Shared->Prop)
 (turn:∀n s,I n s->wpAny (model prog w) A (pyNext it) (λr s₁=>match r with
  | none=>R (.ok .next) s₁
  | some v=>wpAny (model prog w) A (letOwnedTupleGo target it v) (λ_ s₀=>wpAny (model prog w) A (assign target env v) (λ_ s₂=>
   wpAny (model prog w) A (forIn ifs true λc r=>if r=true then do let ok <-isTrue c env (eval c env);pure (ForInStep.yield ok) else pure (ForInStep.yield r)) (λok s₃=>if ok=true then wpAny (model prog w) A (eval elt env) (λx s₄=>
    wpAny (model prog w) A (call (.builtin "list.append") [acc,x]) (λ_ s₅=>∃m,m<n/\I m s₅) (notedBy (model prog w) A env λe s'=>R (.error e) s') s₄) (notedBy (model prog w) A env λe s'=>R (.error e) s') s₃
    else ∃m,m<n/\I m s₃) (notedBy (model prog w) A env λe s'=>R (.error e) s') s₂)
   (notedBy (model prog w) A env λe s'=>R (.error e) s') s₀) (notedBy (model prog w) A env λe s'=>R (.error e) s') s₁) (notedBy (model prog w) A env λe s'=>R (.error e) s') s)
 (n:Nat) (h:I n s):codeAny (model prog w) A (.compLoop (.ListComp elt [⟨target,iter,ifs,0⟩] scope pos) 0 it acc env) R s:=by
 refine codeAny_loop rfl I (λn s hI=>?_) n h
 refine(show wpAny _ A ((compTurn (.ListComp elt [⟨target,iter,ifs,0⟩] scope pos) 0 it acc env).onRaise _) _ _ s from wpAny_noted ?_)
 rw [compTurn_list]
 refine wpAny_bind (wpAny_standAt (wpAny_bind (wpAny_mono (turn n s hI) (λr s1 q1=>?_) λ_ _ z=>z)))
 cases r with
 | none=>exact wpAny_pure q1
 | some v=>
  refine wpAny_bind (wpAny_mono q1 (λ_ s2 q2=>wpAny_bind (wpAny_mono q2 (λ_ s3 q3=>wpAny_bind (wpAny_mono q3 (λb s4 q4=>?_) λ_ _ z=>z)) λ_ _ z=>z)) λ_ _ z=>z)
  cases b with
  | false=>exact wpAny_pure ⟨rfl,q4⟩
  | true=>exact wpAny_bind (wpAny_bind (wpAny_mono q4 (λx s5 q5=>wpAny_bind (wpAny_mono q5 (λ_ s6 q6=>wpAny_pure (wpAny_pure ⟨rfl,q6⟩)) λ_ _ z=>z)) λ_ _ z=>z))
end
structure dE(X:Cx)(scope:Scope)(cl:List (Str×Addr))(N:List Str)(cap:List Nat)(k:Nat):Prop where
 kind:scope.kind= .function
 clos:X.Ok->closureFor scope X.env=pure cl
 ncell:∀y∈scope.names,y.2≠.cell
 names:∀y∈scope.names,y.2= .local->scope.names.lookup y.1=some .local
 nd:N.Nodup
 has:∀y,((relabel scope X.env).names.lookup y=some .cell\/(relabel scope X.env).names.lookup y=some .free)->∃c,cl.lookup y=some c
 sub:X.Ok->∀y c,cl.lookup y=some c->X.env.cells.lookup y=some c
 len:N.length=cap.length+k
 cap:∀(j i:Nat) (y:Str),N[j+k]? =some y->cap[j]? =some i->X.N[i]? =some y/\Vis X.env.scope y/\X.env.kindOf y≠some .local/\((relabel scope X.env).names.lookup y=some .cell\/(relabel scope X.env).names.lookup y=some .free)
def ip(k:Nat)(σ:St)(cap:List Nat):St:=replicate k none++cC σ cap
def jo(k:Nat)(cap:List Nat)(wi:TI)(g:TG)(tc:TT)(te:TE):TE:=λσ H Q=>wi σ H λJ H1=>∀D,H1 D=none->∃W:Nat->Nat->St->Hp->Prop,(∃m,W 0 m (ip k σ cap) (upd H1 D (.lst [])))/\∀i m σ1 H,W i m σ1 H->
 (J.stop i H/\Q (.ref D) H)\/(J.go i H/\∀x H',J.yld i H x H'->g x σ1 H' λσ2 H1=>tc σ2 H1 λb H2=>if b=true then te σ2 H2 λv H3=>∃ys,H3 D=some (.lst ys)/\ys.length<sizeLine/\∃m',m'<m/\W (i+1) m' σ2 (upd H3 D (.lst (ys++[v])))
  else ∃m',m'<m/\W (i+1) m' σ2 H2)
section
variable{X:Cx}{pins:List (Addr×Obj)}{σ:St}{H:Hp}{s:Shared}{scope:Scope}{cl:List (Str×Addr)}{N:List Str}{cap:List Nat}{k:Nat}
theorem Inv.enterN{fp:List Addr}{h':Heap}{tk:Nat}(S:dE X scope cl N cap k)(I:Inv X pins σ H s)(f:∀b∈fp,cW X pins H b/\b<s.heap.objs.size)(hn:h'.Ns s.heap.objs.size λ_=>none)
 (kp:∀b o,s.heap.get? b=some o->h'.get? b=some o):Inv (X.comp scope cl N s.heap.objs.size fp s H) [] (ip k σ cap) H {s with heap:=h',toks:=tk}:=by
 have nC:∀b o,s.heap.get? b=some o->b≠s.heap.objs.size:=λb o e=>ne_of_lt (lt_size e)
 have ok:=I.ok
 have cellOut:∀y c,cl.lookup y=some c->∃v,s.heap.IsCell c v:=λy c e=>I.cell y c (S.sub I.ok y c e)
 refine⟨⟨ok.mod,?_,ok.glob,ok.blt,le_refl _,λx y c a b=>ok.inj x y c (S.sub I.ok x c a) (S.sub I.ok y c b),S.has,λ_ _ z=>absurd z Bool.false_ne_true,ok.hd,ok.frames,.inl rfl,λb hb=>⟨ne_of_lt (f b hb).2,λy c e=>(f b hb).1.2.2.2.2.1 y c (S.sub I.ok y c e)⟩,I.bs,le_trans ok.bsz I.sz,λb o e hb=>?_,λb hb z=>?_,I.stack,I.stkFree⟩,
  rfl,I.bare,Un.kept kp,⟨_,hn,λi y v a b c=>?_⟩,λy c e=>?_,I.hok.fresh (le_refl _),λy c e=>I.freeC y c (S.sub I.ok y c e),λp hp=>by simp at hp,I.hok.kept kp,?_⟩
 ·exact S.kind
 ·have:=(f b hb).1.2.2.2.1
  rcases this with z | z
  ·exact ok.noex b o e z
  ·have l1:=lt_size e
   exact absurd (lt_of_lt_of_le l1 (le_trans ok.bsz z)) (lt_irrefl _)
 ·rcases List.mem_cons.mp (I.stkSub b z) with q | q
  ·exact(f b hb).1.2.1 q
  ·exact(f b hb).1.2.2.1 q
 ·unfold ip at b
  by_cases hik:i<k
  ·rw [List.getElem?_append_left (by rw [length_replicate];exact hik)] at b
   simp [hik] at b
  ·obtain⟨j,rfl⟩:∃j,i=j+k:=⟨i-k,by lia⟩
   rw [getElem?_append_right (by rw [length_replicate];lia),length_replicate,Nat.add_sub_cancel] at b
   unfold cC at b
   rw [getElem?_map] at b
   cases e:cap[j]? with
   | none=>rw [e] at b;cases b
   | some i=>
    rw [e] at b
    have b:(σ[i]?).join=some v:=by simpa using b
    obtain⟨p1,p2,p3,p4⟩:=S.cap j i y a e
    have b':σ[i]? =some (some v):=by
     cases q:σ[i]? with
     | none=>rw [q] at b;cases b
     | some w=>rw [q] at b;exact congrArg some b
    obtain⟨m,hm,hl⟩:=I.loc
    obtain⟨u,ru,l⟩:=hl i y v p1 b' p2
    refine⟨u,ru,.inr ⟨p4,?_⟩⟩
    rcases l with l | ⟨l,c0,e0,o',q',hd'⟩
    ·exact absurd l.1 p3
    ·obtain⟨c,ec⟩:=S.has y p4
     have:=S.sub I.ok y c ec
     rw [e0] at this
     cases this
     exact⟨c0,ec,o',kp _ _ q',hd'⟩
 ·obtain⟨v,o,q,hd⟩:=cellOut y c e
  exact⟨v,o,kp _ _ q,hd⟩
 ·show(ip k σ cap).length=N.length
  unfold ip cC
  rw [S.len,length_append,length_replicate,length_map]
  lia
end
section
variable{X:Cx}{scope:Scope}{cl:List (Str×Addr)}{N:List Str}{cap:List Nat}{k:Nat}{tg:Expr}{g:TG}{pos:Pos}{iter elt:Expr}{ifs:List Expr}{wi:TI}{tc:TT}{te:TE}
theorem lV{use:Option (Value->Sem Unit)}{Qv:Value->Shared->Prop}{pins:List (Addr×Obj)}{s:Shared}{σ:St}{H:Hp}{Q:VK}{pos':Pos}(S:dE X scope cl N cap k)(hc:X.calm=true)(hi:PI X tg iter wi)(hg:∀C fp s₀ H₀,PG (X.comp scope cl N C fp s₀ H₀) tg g)
 (ht:∀C fp s₀ H₀,PTs (X.comp scope cl N C fp s₀ H₀) ifs tc) (he:∀C fp s₀ H₀,PE (X.comp scope cl N C fp s₀ H₀) elt te) (hs:∀x,foldedSetIterable iter X.env x=pure x)
 (I:Inv X pins σ H s) (h:jo k cap wi g tc te σ H Q)
 (fin:∀(D C:Addr) (H6:Hp) (s6:Shared) (m:Str->Option Value),Inv X pins σ H6 s6->cW X pins H6 C->s6.heap.Ns C m->Q (.ref D) H6->compPost (model X.prog X.w) X.A X.xe use Qv (.ref D) C (.ok .next) s6):
 wpAny (model X.prog X.w) X.A (comprehension (.ListComp elt [⟨tg,iter,ifs,0⟩] scope pos) scope X.env pos' (newList []) false (eval iter X.env) use) Qv X.xe s:=by
 refine wpAny_comprehension_free (use:=use) rfl hs (S.clos I.ok) S.kind S.names (thn (hi pins s σ H _ I h) λv s1 h1=>thn h1 λitv s2 h2=>?_)
 obtain⟨it,fp,tn,J,H2,rfl,I2,T,st2,f2,q⟩:=h2
 obtain⟨W,⟨m0,w0⟩,turn⟩:=q s2.heap.objs.size (I2.hok.fresh (le_refl _))
 have I3:Inv X pins σ (upd H2 s2.heap.objs.size (.lst [])) {s2 with heap:=s2.heap.push {cls:=.type "list",dict:=none,data:=.seq ([]:List Value).toArray}}:=
  I2.laid (t':=s2.toks) (λb u e=>get?_push_of_some _ e) (le_refl _) ⟨zero_le _,[],0,.nil,get?_push_size _ rfl⟩
 refine wpAny_newObj_type (wpAny_newFunctionEnv S.ncell (by intro y hy;simp at hy) (λh4 hns hsb=>?_) S.kind)
 generalize hs3:({s2 with heap:=s2.heap.push {cls:=.type "list",dict:=none,data:=.seq ([]:List Value).toArray}}:Shared)=s3 at I3 hns hsb⊢
 have f3:∀b∈fp,cW X pins (upd H2 s2.heap.objs.size (.lst [])) b/\b<s3.heap.objs.size:=λb hb=>by
  obtain⟨o,ho,_⟩:=T.obj _ _ st2 b hb
  have l1:b<s2.heap.objs.size:=lt_size ho
  refine⟨⟨?_,(f2 b hb).2⟩,?_⟩
  ·rw [aO (ne_of_lt l1)];exact(f2 b hb).1
  ·rw [<-hs3,size_push];exact lt_succ_of_lt l1
 have nsN:h4.Ns s3.heap.objs.size λ_=>none:=by
  have:=hns
  simpa using this
 have keep4:∀b o,s3.heap.get? b=some o->h4.get? b=some o:=λb o e=>(hsb.2 b (ne_of_lt (lt_size e))).trans (get?_push_of_some _ e)
 have Ic:=I3.enterN (tk:=s3.toks+([]:List (Str×Value)).length) S f3 nsN keep4
 have st4:tn 0 h4:=T.keep _ _ _ st2 λb hb o e=>keep4 b o (by rw [<-hs3];exact get?_push_of_some _ e)
 have stat:∀{H':Hp},(∀b∈fp,H' b=none)->∀b∈fp,cW (X.comp scope cl N s3.heap.objs.size fp s3 (upd H2 s2.heap.objs.size (.lst []))) [] H' b:=λhn b hb=>
  ⟨hn b hb,ne_of_lt (f3 b hb).2,λz=>(List.mem_cons.mp (I3.stkSub b z)).elim (λq=>(f3 b hb).1.2.1 q) λq=>(f3 b hb).1.2.2.1 q,.inl hb,λy c e=>(f3 b hb).1.2.2.2.2.1 y c (S.sub I.ok y c e),λp hp=>by simp at hp⟩
 have out:∀{σx:St} {H6:Hp} {s6:Shared},Inv (X.comp scope cl N s3.heap.objs.size fp s3 (upd H2 s2.heap.objs.size (.lst []))) [] σx H6 s6->Q (.ref s2.heap.objs.size) H6->
  compPost (model X.prog X.w) X.A X.xe use Qv (Value.ref s2.heap.objs.size) s3.heap.objs.size (.ok .next) s6:=λ{σx H6 s6} I6 q6=>by
  obtain⟨m,hm,_⟩:=I6.loc
  have Io:Inv X pins σ H6 s6:=I3.call' I6.os I6.base I6.hok I6.bare λb hb=>⟨(f3 b hb).1.2.2.2.1,(f3 b hb).1.2.1,(f3 b hb).1.2.2.2.2.1,(f3 b hb).1.2.2.2.2.2⟩
  exact fin _ _ _ _ m Io (I3.fpOk (b:=s3.heap.objs.size) (H':=H6) (le_refl _) I6.free) hm q6
 have loop:codeAny (model X.prog X.w) X.A (.compLoop (.ListComp elt [⟨tg,iter,ifs,0⟩] scope pos) 0 (.ref it) (.ref s2.heap.objs.size) (compEnvC scope cl s3.heap.objs.size X.env))
  (compPost (model X.prog X.w) X.A X.xe use Qv (Value.ref s2.heap.objs.size) s3.heap.objs.size) {s3 with heap:=h4,toks:=s3.toks+([]:List (Str×Value)).length}:=by
  refine rB (λn s'=>∃i σx H',Inv (X.comp scope cl N s3.heap.objs.size fp s3 (upd H2 s2.heap.objs.size (.lst []))) [] σx H' s'/\tn i s'.heap/\(∀b∈fp,H' b=none)/\W i n σx H') ?_ m0 ⟨0,_,_,Ic,st4,λb hb=>(f3 b hb).1.1,w0⟩
  rintro n s5 ⟨i,σx,H5,I5,st5,fr5,w5⟩
  rcases turn i n σx H5 w5 with ⟨stop,qd⟩ | ⟨go,step⟩
  ·refine wpAny_mono (T.done (X.comp scope cl N s3.heap.objs.size fp s3 (upd H2 s2.heap.objs.size (.lst []))) rfl rfl rfl hc i [] s5 _ H5 (λ_ _=>False) I5 (stat fr5) st5 stop) (λr s6 ⟨hr,I6⟩=>?_) λ_ _ z=>z.elim
   subst hr
   exact out I6 qd
  ·refine wpAny_mono (T.item (X.comp scope cl N s3.heap.objs.size fp s3 (upd H2 s2.heap.objs.size (.lst []))) rfl rfl rfl hc i [] s5 _ H5 (λ_ _=>False) I5 (stat fr5) st5 go) (λr s6 ⟨u,hr,h6⟩=>?_) λ_ _ z=>z.elim
   subst hr
   refine wpAny_mono h6 (λ_ s7 ⟨v,H7,I7,r7,y7,st7,fr7⟩=>?_) λ_ _ z=>z.elim
   have I7':=I7.pinned (stat fr7) (T.obj _ _ st7)
   have again:∀{σ9:St} {H9:Hp} {s9:Shared},Inv (X.comp scope cl N s3.heap.objs.size fp s3 (upd H2 s2.heap.objs.size (.lst []))) ([]++hY fp s7.heap) σ9 H9 s9->(∃m',m'<n/\W (i+1) m' σ9 H9)->
    ∃m',m'<n/\∃i σx H',Inv (X.comp scope cl N s3.heap.objs.size fp s3 (upd H2 s2.heap.objs.size (.lst []))) [] σx H' s9/\tn i s9.heap/\(∀b∈fp,H' b=none)/\W i m' σx H':=λ{σ9 H9 s9} I9 ⟨m',lt,w'⟩=>by
    refine⟨m',lt,i+1,σ9,H9,I9.unpinned,T.keep _ _ _ st7 λb hb o e=>(I9.pin (b,o) (mem_append_right _ (mem_append_right _ (de hb e)))).1,λb hb=>?_,w'⟩
    obtain⟨o,e,d⟩:=T.obj _ _ st7 b hb
    exact(I9.pin (b,o) (mem_append_right _ (mem_append_right _ (de hb e)))).2.1
   refine wpAny_mono (hg _ _ _ _ _ s7 σx H7 v u _ I7' r7 (step v H7 y7)) (λ_ s8 ⟨σ8,H8,I8,q8⟩=>?_) λ_ _ z=>z.elim
   refine wpAny_mono (ht _ _ _ _ _ s8 _ H8 _ I8 q8) (λb s9 ⟨H9,I9,q9⟩=>?_) λ_ _ z=>z.elim
   cases b with
   | false=>exact again I9 q9
   | true=>
    refine wpAny_mono (he _ _ _ _ _ s9 _ H9 _ I9 q9) (λu' s10 ⟨v',H10,I10,r10,ys,hD,hz,q10⟩=>?_) λ_ _ z=>z.elim
    refine wpAny_mono (iJ (X:=X.comp scope cl N s3.heap.objs.size fp s3 (upd H2 s2.heap.objs.size (.lst []))) _ s10 _ H10 (.ref s2.heap.objs.size) [v'] (.ref s2.heap.objs.size) [u'] (λ_ H'=>∃m',m'<n/\W (i+1) m' σ8 H') I10 rfl (.cons r10 .nil) ⟨_,ys,v',rfl,rfl,hD,hz,q10⟩) (λ_ s11 ⟨_,H11,I11,_,q11⟩=>again I11 q11) λ_ _ z=>z.elim
 exact codeAny_compStart_list loop (T.self _ 0 _ _ _ st4 loop)
theorem eZ(S:dE X scope cl N cap k)(hc:X.calm=true)(hi:PI X tg iter wi)(hg:∀C fp s₀ H₀,PG (X.comp scope cl N C fp s₀ H₀) tg g)
 (ht:∀C fp s₀ H₀,PTs (X.comp scope cl N C fp s₀ H₀) ifs tc) (he:∀C fp s₀ H₀,PE (X.comp scope cl N C fp s₀ H₀) elt te) (hs:∀x,foldedSetIterable iter X.env x=pure x:=by intro _;rfl):
 PE X (.ListComp elt [⟨tg,iter,ifs,0⟩] scope pos) (jo k cap wi g tc te):=by
 intro pins s σ H Q I h
 rw [eval_ListComp]
 refine lV S hc hi hg ht he hs I h λD C H6 s6 m Io Cf hm q6=>?_
 exact⟨m,hm,λh' sb=>⟨.ref D,H6,Io.turned (it:=C) (t':=s6.toks) (λb o n e=>(sb.2 b n).trans e) Cf.1 Cf.2.1 Cf.2.2.2.1 Cf.2.2.2.2.1 Cf.2.2.2.2.2,rfl,q6⟩⟩
theorem lj{i:Nat}{y:Str}{py spos:Pos}(hN:X.N.Nodup)(hiy:X.N[i]? =some y)(hy:Loc X.env.scope y)(S:dE X scope cl N cap k)(hc:X.calm=true)(hi:PI X tg iter wi)(hg:∀C fp s₀ H₀,PG (X.comp scope cl N C fp s₀ H₀) tg g)
 (ht:∀C fp s₀ H₀,PTs (X.comp scope cl N C fp s₀ H₀) ifs tc) (he:∀C fp s₀ H₀,PE (X.comp scope cl N C fp s₀ H₀) elt te) (hs:∀x,foldedSetIterable iter X.env x=pure x:=by intro _;rfl)
 (hsw:swapsWith (.ListComp elt [⟨tg,iter,ifs,0⟩] scope pos) (some (.Name y py)) spos.line X.env=pure true:=by rfl)
 (hf:X.fn y=true\/X.env.scope.names.lookup y=some .local:=by first | exact .inl rfl | exact .inr rfl | assumption):
 PS X (.Assign [.Name y py] (.ListComp elt [⟨tg,iter,ifs,0⟩] scope pos) spos) (kX (jo k cap wi g tc te) (gr i)):=by
 intro pins s σ H D I h
 rw [exec_Assign_Name_used _ _ _ _ hsw]
 refine wpAny_bind (wpAny_standAt (wpAny_bind ?_))
 show wpAny _ X.A (do let _ <-comprehension (.ListComp elt [⟨tg,iter,ifs,0⟩] scope pos) scope X.env _ (newList []) false (eval iter X.env) (some (assign (.Name y py) X.env))) _ _ s
 refine wpAny_bind (wpAny_mono (lV (use:=some (assign (.Name y py) X.env)) (Qv:=λ_ s'=>SP X pins D .next s') S hc hi hg ht he hs I h λD' C H6 s6 m Io Cf hm q6=>?_) (λ_ s' hq=>wpAny_pure (wpAny_pure hq)) λ_ _ e=>e)
 show wpAny _ X.A (assign (.Name y py) X.env (.ref D')) _ _ _
 refine wpAny_assign_Name (nu (v:=.ref D') Io hN hiy hy rfl (λs7 I7 hsb=>?_) hf)
 obtain⟨a,sb,ha⟩:=hsb
 have hne:C≠a:=λe=>ha.elim (λq=>Cf.2.1 (e.trans q)) λq=>Cf.2.2.2.2.1 _ _ q e.symm
 refine⟨m,hm.at' λo e=>(sb.2 C hne).trans e,λh' sb'=>?_⟩
 exact⟨_,H6,I7.turned (it:=C) (t':=s7.toks) (λb o n e=>(sb'.2 b n).trans e) Cf.1 Cf.2.1 Cf.2.2.2.1 Cf.2.2.2.2.1 Cf.2.2.2.2.2,q6⟩
end
theorem bL(k:Nat){X:Cx}{scope:Scope}{N:List Str}{cap:List Nat}(hk:scope.kind= .function)(h1:scope.names.all (λy=>y.2 != .cell)=true)(h2:scope.names.all (λy=>y.2 != .local || scope.names.lookup y.1==some .local)=true)
 (h3:scope.names.all (λy=>y.2 != .free || X.env.scope.names.lookup y.1==some .cell || X.env.scope.names.lookup y.1==some .free)=true)
 (nd:N.Nodup) (hl:N.length=cap.length+k) (hc:(N.drop k).map some=cap.map (λi=>X.N[i]?)) (hf:(N.drop k).all (λy=>scope.names.lookup y==some .free)=true):dE X scope (Bh X.env scope) N cap k:=by
 have fr:∀y:Str,(y,NameKind.free)∈scope.names->X.env.scope.names.lookup y=some .cell\/X.env.scope.names.lookup y=some .free:=λy hy=>by
  have:=List.all_eq_true.mp h3 _ hy
  simpa using this
 have nc:∀y∈scope.names,y.2≠.cell:=λy hy=>by
  have:=List.all_eq_true.mp h1 y hy
  simpa using this
 have fr2:X.Ok->∀y∈scope.names,y.2= .free->∃c,X.env.cells.lookup y.1=some c:=λok y hy e=>by
  obtain⟨n,k⟩:=y
  have e:k= .free:=e
  subst e
  exact ok.has n (fr n hy)
 refine⟨hk,λok=>sS (fr2 ok),nc,λy hy e=>?_,nd,λy hy=>?_,λok y c e=>uE scope.names [] (fr2 ok) (λ_ _ z=>by simp at z) y c e,hl,λj i y a b=>?_⟩
 ·have:=List.all_eq_true.mp h2 y hy
  simpa [e] using this
 ·have hm:(y,NameKind.free)∈scope.names:=by
   have:∃k',(k'=NameKind.cell\/k'=NameKind.free)/\(y,k')∈(relabel scope X.env).names:=by
    rcases hy with hy | hy
    ·exact⟨_,.inl rfl,dk hy⟩
    ·exact⟨_,.inr rfl,dk hy⟩
   obtain⟨k',hk',hm⟩:=this
   obtain⟨⟨n,k⟩,hz,e⟩:=List.mem_map.mp hm
   dsimp only at e
   split at e
   ·rename_i hcond
    obtain⟨rfl,rfl⟩:=Prod.mk.inj e
    simp only [and_eq_true] at hcond
    have:k= .free:=by simpa using hcond.1.1
    subst this
    exact hz
   ·obtain⟨rfl,rfl⟩:=Prod.mk.inj e
    rcases hk' with rfl | rfl
    ·exact absurd rfl (nc _ hz)
    ·exact hz
  have:=uF (env:=X.env) scope.names [] y (.inl hm)
  exact Option.isSome_iff_exists.mp this
 ·have hy:y∈N.drop k:=by
   refine mem_of_getElem? (i:=j) ?_
   rw [List.getElem?_drop,add_comm]
   exact a
  have e1:X.N[i]? =some y:=by
   have:=congrArg (λl=>l[j]?) hc
   simp only [getElem?_map,List.getElem?_drop,add_comm k j,a,b,Option.map_some] at this
   exact(Option.some.inj this).symm
  have e2:scope.names.lookup y=some .free:=by
   have:=List.all_eq_true.mp hf y hy
   simpa using this
  have e3:=fr y (dk e2)
  refine⟨e1,e3.elim (λz=>.inr (.inl z)) λz=>.inr (.inr z),?_,fO e2⟩
  intro z
  have z:X.env.scope.names.lookup y=some .local:=z
  rcases e3 with e3 | e3<;>rw [e3] at z<;>cases z
def gw(J:It)(g:TG)(tc:TT)(te:TE)(cs:St)(H1:Hp)(Q:VK):Prop:=∀D,H1 D=none->∃W:Nat->Nat->St->Hp->Prop,(∃m,W 0 m cs (upd H1 D (.lst [])))/\∀i m σ1 H,W i m σ1 H->
 (J.stop i H/\Q (.ref D) H)\/(J.go i H/\∀x H',J.yld i H x H'->g x σ1 H' λσ2 H1=>tc σ2 H1 λb H2=>if b=true then te σ2 H2 λv H3=>∃ys,H3 D=some (.lst ys)/\ys.length<sizeLine/\∃m',m'<m/\W (i+1) m' σ2 (upd H3 D (.lst (ys++[v])))
  else ∃m',m'<m/\W (i+1) m' σ2 H2)
theorem cQ{k:Nat}{cap:List Nat}{wi:TI}{g:TG}{tc:TT}{te:TE}{σ:St}{H:Hp}{Q:VK}(h:wi σ H λJ H1=>gw J g tc te (ip k σ cap) H1 Q):jo k cap wi g tc te σ H Q:=h
def CW(xs:List V)(H1:Hp)(D:Addr)(Pv:Nat->List V->St->Hp->Prop)(i m:Nat)(σ1:St)(H:Hp):Prop:=m=xs.length-i/\i<=xs.length/\Same H1 H/\∃ys,H D=some (.lst ys)/\ys.length<=i/\Pv i ys σ1 H
def Put(xs:List V)(H1:Hp)(D:Addr)(Pv:Nat->List V->St->Hp->Prop)(i:Nat)(σ2:St)(v:V)(H3:Hp):Prop:=∃ys,H3 D=some (.lst ys)/\ys.length<sizeLine/\∃m',m'<xs.length-i/\CW xs H1 D Pv (i+1) m' σ2 (upd H3 D (.lst (ys++[v])))
def lq(xs:List V)(H1:Hp)(D:Addr)(Pv:Nat->List V->St->Hp->Prop)(i:Nat)(σ2:St)(H2:Hp):Prop:=∃m',m'<xs.length-i/\CW xs H1 D Pv (i+1) m' σ2 H2
structure At(xs:List V)(H1:Hp)(D:Addr)(i:Nat)(ys:List V)(H:Hp):Prop where
 new:H1 D=none
 lt:i<xs.length
 sz:xs.length<sizeLine
 same:Same H1 H
 lst:H D=some (.lst ys)
 le:ys.length<=i
theorem At.put{xs:List V}{H1:Hp}{D:Addr}{i:Nat}{ys:List V}{H H4:Hp}{Pv:Nat->List V->St->Hp->Prop}{σ2:St}{v:V}(a:At xs H1 D i ys H)(g:Same H H4)(p:∀H5,Mu H4 D (.lst (ys++[v])) H5->Pv (i+1) (ys++[v]) σ2 H5):Put xs H1 D Pv i σ2 v H4:=
 ⟨ys,g _ _ a.lst,by have:=a.le;have:=a.lt;have:=a.sz;lia,xs.length-(i+1),by have:=a.lt;lia,rfl,a.lt,Mu.mk'.same (a.same.trans g) a.new,_,aX,by have:=a.le;rw [length_append,length_singleton];lia,p _ Mu.mk'⟩
theorem At.skip{xs:List V}{H1:Hp}{D:Addr}{i:Nat}{ys:List V}{H H4:Hp}{Pv:Nat->List V->St->Hp->Prop}{σ2:St}(a:At xs H1 D i ys H)(g:Same H H4)(p:Pv (i+1) ys σ2 H4):lq xs H1 D Pv i σ2 H4:=
 ⟨xs.length-(i+1),by have:=a.lt;lia,rfl,a.lt,a.same.trans g,ys,g _ _ a.lst,Nat.le_succ_of_le a.le,p⟩
theorem xH{J:It}{xs:List V}{ok:Hp->Prop}(O:ld J xs ok){g:TG}{tc:TT}{te:TE}{cs:St}{H1:Hp}{Q:VK}(hok:∀H,Same H1 H->ok H)(sz:xs.length<sizeLine)(Pv:Nat->List V->St->Hp->Prop)
 (h0:∀H',Same H1 H'->Pv 0 [] cs H')
 (hs:∀D i x ys σ1 H',xs[i]? =some x->At xs H1 D i ys H'->Pv i ys σ1 H'->g x σ1 H' λσ2 H2=>tc σ2 H2 λb H3=>if b=true then te σ2 H3 λv H4=>Put xs H1 D Pv i σ2 v H4 else lq xs H1 D Pv i σ2 H3)
 (hd:∀D ys σ1 H',H1 D=none->Same H1 H'->H' D=some (.lst ys)->ys.length<=xs.length->Pv xs.length ys σ1 H'->Q (.ref D) H'):gw J g tc te cs H1 Q:=by
 intro D hD
 refine⟨CW xs H1 D Pv,⟨_,rfl,zero_le _,bt hD _,[],aX,le_refl _,h0 _ (bt hD _)⟩,?_⟩
 rintro i m σ1 H ⟨rfl,hi,sm,ys,hy,ly,p⟩
 by_cases hlt:i<xs.length
 ·refine .inr ⟨O.go i _ (hok _ sm) hlt,λx H' y=>?_⟩
  obtain⟨rfl,hx⟩:=O.yld i _ x H' (hok _ sm) hlt y
  exact hs D i x ys σ1 H' hx ⟨hD,hlt,sz,sm,hy,ly⟩ p
 ·have e:i=xs.length:=by lia
  subst e
  exact .inl ⟨O.stop _ _ (hok _ sm) (le_refl _),hd D ys σ1 _ hD sm hy ly p⟩
theorem fC{K:PySem.W.Frag}{a:Addr}{xs:List V}{g:TG}{tc:TT}{te:TE}{cs:St}{H1:Hp}{Q:VK}(ha:H1 a=some (.lst xs))(sz:xs.length<sizeLine)(Pv:Nat->List V->St->Hp->Prop)
 (h0:∀H',Same H1 H'->Pv 0 [] cs H')
 (hs:∀D i x ys σ1 H',xs[i]? =some x->At xs H1 D i ys H'->Pv i ys σ1 H'->g x σ1 H' λσ2 H2=>tc σ2 H2 λb H3=>if b=true then te σ2 H3 λv H4=>Put xs H1 D Pv i σ2 v H4 else lq xs H1 D Pv i σ2 H3)
 (hd:∀D ys σ1 H',H1 D=none->Same H1 H'->H' D=some (.lst ys)->ys.length<=xs.length->Pv xs.length ys σ1 H'->Q (.ref D) H'):gw (Itl K a) g tc te cs H1 Q:=
 xH nJ (λH g=>g _ _ ha) sz Pv h0 hs hd
theorem gy{n:Nat}{g:TG}{tc:TT}{te:TE}{cs:St}{H1:Hp}{Q:VK}(sz:n<100000)(Pv:Nat->List V->St->Hp->Prop)
 (h0:∀H',Same H1 H'->Pv 0 [] cs H')
 (hs:∀D i ys σ1 H',i<n->At ((List.range n).map λ(k:Nat)=>V.int (0+k)) H1 D i ys H'->Pv i ys σ1 H'->g (.int (i:Nat)) σ1 H' λσ2 H2=>tc σ2 H2 λb H3=>if b=true then te σ2 H3 λv H4=>Put ((List.range n).map λ(k:Nat)=>V.int (0+k)) H1 D Pv i σ2 v H4 else lq ((List.range n).map λ(k:Nat)=>V.int (0+k)) H1 D Pv i σ2 H3)
 (hd:∀D ys σ1 H',H1 D=none->Same H1 H'->H' D=some (.lst ys)->ys.length<=n->Pv n ys σ1 H'->Q (.ref D) H'):gw (Itr 0 n) g tc te cs H1 Q:=by
 have el:((List.range n).map λ(k:Nat)=>V.int (0+k)).length=n:=by rw [length_map,length_range]
 refine xH (lU 0 n) (λ_ _=>trivial) (by rw [el];unfold sizeLine;lia) Pv h0 (λD i x ys σ1 H' hx a p=>?_) (λD ys σ1 H' h1 h2 h3 h4 h5=>hd D ys σ1 H' h1 h2 h3 (by rw [el] at h4;exact h4) (by rw [el] at h5;exact h5))
 have hi:i<n:=by have:=a.lt;rw [el] at this;exact this
 have ex:x= .int (i:Nat):=by
  rw [getElem?_map,getElem?_range hi] at hx
  simp at hx
  exact hx.symm
 rw [ex]
 exact hs D i ys σ1 H' hi a p
def nw(H H':Hp):Hp:=λa=>match H a with | none=>H' a | some _=>none
theorem C5{H H':Hp}{a:Addr}{u:HO}(h:H a=none)(h':H' a=some u):nw H H' a=some u:=by
 unfold nw;rw [h];exact h'
theorem uI{H H':Hp}{a:Addr}{u:HO}(e:nw H H' a=some u):H a=none/\H' a=some u:=by
 unfold nw at e
 split at e
 ·rename_i h;exact⟨h,e⟩
 ·cases e
def cg(D:Addr)(H:Hp):Hp:=λc=>if c=D then none else H c
theorem bI{D c:Addr}{H:Hp}{u:HO}(n:c≠D)(h:H c=some u):cg D H c=some u:=by unfold cg;rw [if_neg n];exact h
theorem cF{D c:Addr}{H:Hp}{u:HO}(h:cg D H c=some u):c≠D/\H c=some u:=by
 unfold cg at h
 by_cases e:c=D
 ·rw [if_pos e] at h;cases h
 ·rw [if_neg e] at h;exact⟨e,h⟩
theorem rC{D:Addr}{H:Hp}:Same (cg D H) H:=λc u h=>(cF h).2
theorem Bj{J:It}{xs:List V}{ok:Hp->Prop}(O:ld J xs ok){g:TG}{tc:TT}{te:TE}{cs:St}{H1:Hp}{Q:VK}(hok:∀H,Same H1 H->ok H)(sz:xs.length<sizeLine)(Pv:Addr->Nat->List V->St->Hp->Prop)
 (h0:∀D H',H1 D=none->Same H1 H'->H' D=some (.lst [])->Pv D 0 [] cs H')
 (hs:∀D i x ys σ1 H',xs[i]? =some x->At xs H1 D i ys H'->Pv D i ys σ1 H'->g x σ1 H' λσ2 H2=>tc σ2 H2 λb H3=>if b=true then te σ2 H3 λv H4=>Put xs H1 D (Pv D) i σ2 v H4 else lq xs H1 D (Pv D) i σ2 H3)
 (hd:∀D ys σ1 H',H1 D=none->Same H1 H'->H' D=some (.lst ys)->ys.length<=xs.length->Pv D xs.length ys σ1 H'->Q (.ref D) H'):gw J g tc te cs H1 Q:=by
 intro D hD
 refine⟨CW xs H1 D (Pv D),⟨_,rfl,zero_le _,bt hD _,[],aX,le_refl _,h0 D _ hD (bt hD _) aX⟩,?_⟩
 rintro i m σ1 H ⟨rfl,hi,sm,ys,hy,ly,p⟩
 by_cases hlt:i<xs.length
 ·refine .inr ⟨O.go i _ (hok _ sm) hlt,λx H' y=>?_⟩
  obtain⟨rfl,hx⟩:=O.yld i _ x H' (hok _ sm) hlt y
  exact hs D i x ys σ1 H' hx ⟨hD,hlt,sz,sm,hy,ly⟩ p
 ·have e:i=xs.length:=by lia
  subst e
  exact .inl ⟨O.stop _ _ (hok _ sm) (le_refl _),hd D ys σ1 _ hD sm hy ly p⟩
theorem pB{n:Nat}{g:TG}{tc:TT}{te:TE}{cs:St}{H1:Hp}{Q:VK}(sz:n<100000)(Pv:Addr->Nat->List V->St->Hp->Prop)
 (h0:∀D H',H1 D=none->Same H1 H'->H' D=some (.lst [])->Pv D 0 [] cs H')
 (hs:∀D i ys σ1 H',i<n->At ((List.range n).map λ(k:Nat)=>V.int (0+k)) H1 D i ys H'->Pv D i ys σ1 H'->g (.int (i:Nat)) σ1 H' λσ2 H2=>tc σ2 H2 λb H3=>if b=true then te σ2 H3 λv H4=>Put ((List.range n).map λ(k:Nat)=>V.int (0+k)) H1 D (Pv D) i σ2 v H4 else lq ((List.range n).map λ(k:Nat)=>V.int (0+k)) H1 D (Pv D) i σ2 H3)
 (hd:∀D ys σ1 H',H1 D=none->Same H1 H'->H' D=some (.lst ys)->ys.length<=n->Pv D n ys σ1 H'->Q (.ref D) H'):gw (Itr 0 n) g tc te cs H1 Q:=by
 have el:((List.range n).map λ(k:Nat)=>V.int (0+k)).length=n:=by rw [length_map,length_range]
 refine Bj (lU 0 n) (λ_ _=>trivial) (by rw [el];unfold sizeLine;lia) Pv h0 (λD i x ys σ1 H' hx a p=>?_) (λD ys σ1 H' h1 h2 h3 h4 h5=>hd D ys σ1 H' h1 h2 h3 (by rw [el] at h4;exact h4) (by rw [el] at h5;exact h5))
 have hi:i<n:=by have:=a.lt;rw [el] at this;exact this
 have ex:x= .int (i:Nat):=by
  rw [getElem?_map,getElem?_range hi] at hx
  simp at hx
  exact hx.symm
 rw [ex]
 exact hs D i ys σ1 H' hi a p
section
variable{X:Cx}
end
section
variable{X:Cx}
end
theorem wp{f:Str}:List.lookup f ([]:List (Str×V))=none:=rfl
theorem wq{f g:Str}{v:V}{r:List (Str×V)}:List.lookup f ((g,v)::r)=if f=g then some v else List.lookup f r:=by
 by_cases h:f=g
 ·have hb:(f==g)=true:=beq_iff_eq.mpr h
  simp only [List.lookup,hb,if_pos h]
 ·have hb:(f==g)=false:=beq_eq_false_iff_ne.mpr h
  simp only [List.lookup,hb,if_neg h]
theorem Bk{f:Str}{v:V}:sC f v []= [(f,v)]:=rfl
theorem Bl{f g:Str}{v x:V}{r:List (Str×V)}:sC f v ((g,x)::r)=if g=f then (g,v)::r else (g,x)::sC f v r:=rfl
structure MethAt(K:PySem.W.Frag)(C:Addr)(m q:Str)(st:Stmt)(ps:List Str):Prop where
 ex:∃f fd,zL K C m f/\Fun K m q st f fd/\Binds K fd ps []
structure OkM(P:Program)(w:World)(K:PySem.W.Frag)(mg:Str->Option Value)(base:Heap)(n:Nat)(C:Addr)(m:Str)(ps:List Str)(sp:Sp):Prop where
 ex:∃f fd,zL K C m f/\Binds K fd ps []/\fP P w K mg base CX0 n f fd ps sp
 cl:Cls K C
structure MakeAt(K:PySem.W.Frag)(mg:Str->Option Value)(x:Str)(C:Addr)(q:Str)(st:Stmt)(ps:List Str):Prop where
 ex:∃f fd,mg x=some (.ref C)/\Mk K C f/\Fun K "__init__" q st f fd/\Binds K fd ps []
structure OkC(P:Program)(w:World)(K:PySem.W.Frag)(mg:Str->Option Value)(base:Heap)(n:Nat)(x:Str)(C:Addr)(ps:List Str)(sp:Sp):Prop where
 ex:∃f fd,mg x=some (.ref C)/\Mk K C f/\Binds K fd ps []/\fP P w K mg base CX0 n f fd ps sp
section
variable{P:Program}{w:World}{K:PySem.W.Frag}{mg:Str->Option Value}{base:Heap}{x m q:Str}{st:Stmt}{N ps:List Str}{k:Nat}{sp:Sp}{C:Addr}
end
section
variable{X:Cx}{k n:Nat}{ps:List Str}{sp:Sp}{x m f:Str}{p pos pos' apos:Pos}{o e value:Expr}{es:List Expr}{t:TA}{ta tv:TE}{C:Addr}
end
section
variable{prog:Program}{w:World}
inductive ItP (prog:Program) (w:World) (h:Heap) (d it:Addr):List Value->List (Key×Value)->Prop
 | nil:ItP prog w h d it [] []
 | cons {a:Addr} {o:Obj} {key v:Value} {k:Key} {n:Nat} {xs:List Value} {ps:List (Key×Value)}:h.get? a=some o->o.cls= .type "tuple"->o.data= .seq #[key,v] n->(cN prog w).is k key=true->a≠d->a≠it->ItP prog w h d it xs ps->ItP prog w h d it (.ref a::xs) ((k,v)::ps)
end
inductive PrK (H:Hp):List V->List (Key×V)->Prop
 | nil:PrK H [] []
 | cons {a:Addr} {k:Key} {v:V} {xs:List V} {ps:List (Key×V)}:H a=some (.tup [kV k,v])->PrK H xs ps->PrK H (.ref a::xs) ((k,v)::ps)
def putAll(ps:List (Key×V)):List (Key×V):=ps.foldl (λc p=>zZ c p.1 p.2) []
end L2
namespace L2
open PySem PySem.Spec PyProof.Rows PySem.W
def Ord(n:Nat)(p:Array Nat):Prop:=p.Perm (List.toArray (List.range n))
section
variable{N:Nat}(hN:0<N)
include hN
end
section
variable{prog:Program}{w:World}{A:Around}{E:Value->Shared->Prop}{s:Shared}
end
end L2
namespace L2
open PySem PySem.Spec PyProof.Rows
section
variable{X:Cx}
end
def C6(i j:Int):Option HO->Bool
 | some (.tup [.int a,.int b])=>decide (a=i)&&decide (b=j)
 | _=>false
def pairV(H:Hp)(i j:Int):V->Bool
 | .ref b=>C6 i j (H b)
 | _=>false
end L2
namespace L2
open PySem PySem.Spec PyProof.Rows PySem.W
section
variable{lt:Nat->Nat->Bool}{N:Nat}(hN:0<N)(tr:∀i j k,lt i j=true->lt j k=true->lt i k=true)(tot:∀i j,i<N->j<N->i≠j->lt i j=true\/lt j i=true)
include tr in
include tr in
include hN tr tot in
include hN tr tot in
include hN tr tot in
include hN tr tot in
include hN tr tot in
include hN tr tot in
end
section
variable{prog:Program}{w:World}{A:Around}{E:Value->Shared->Prop}{s:Shared}
end
def SN:Nat:=64
end L2
theorem L2.cps{p:Prop}(h:∀G:Prop,(p->G)->G):p:=h p id
theorem L2.exBl{b:Bool}{p:Bool->Prop}:(∃c,L2.V.bl b=L2.V.bl c/\p c)=p b:=propext ⟨λ⟨_,e,h⟩=>(L2.V.bl.inj e)▸h,λh=>⟨_,rfl,h⟩⟩
theorem L2.exIn{b:Int}{p:Int->Prop}:(∃c,L2.V.int b=L2.V.int c/\p c)=p b:=propext ⟨λ⟨_,e,h⟩=>(L2.V.int.inj e)▸h,λh=>⟨_,rfl,h⟩⟩
theorem L2.exIn1{b:Int}{α:Sort _}{p:Int->α->Prop}:(∃c x,L2.V.int b=L2.V.int c/\p c x)=∃x,p b x:=propext ⟨λ⟨_,x,e,h⟩=>⟨x,(L2.V.int.inj e)▸h⟩,λ⟨x,h⟩=>⟨_,x,rfl,h⟩⟩
theorem L2.exRf{b:PySem.Addr}{p:PySem.Addr->Prop}:(∃c,L2.V.ref b=L2.V.ref c/\p c)=p b:=propext ⟨λ⟨_,e,h⟩=>(L2.V.ref.inj e)▸h,λh=>⟨_,rfl,h⟩⟩
theorem L2.exRf1{b:PySem.Addr}{α:Sort _}{p:PySem.Addr->α->Prop}:(∃c x,L2.V.ref b=L2.V.ref c/\p c x)=∃x,p b x:=propext ⟨λ⟨_,x,e,h⟩=>⟨x,(L2.V.ref.inj e)▸h⟩,λ⟨x,h⟩=>⟨_,x,rfl,h⟩⟩
theorem L2.exRf2{b:PySem.Addr}{α β:Sort _}{p:PySem.Addr->α->β->Prop}:(∃c x y,L2.V.ref b=L2.V.ref c/\p c x y)=∃x y,p b x y:=propext ⟨λ⟨_,x,y,e,h⟩=>⟨x,y,(L2.V.ref.inj e)▸h⟩,λ⟨x,y,h⟩=>⟨_,x,y,rfl,h⟩⟩
theorem L2.exRf3{b:PySem.Addr}{α β γ:Sort _}{p:PySem.Addr->α->β->γ->Prop}:(∃c x y z,L2.V.ref b=L2.V.ref c/\p c x y z)=∃x y z,p b x y z:=propext ⟨λ⟨_,x,y,z,e,h⟩=>⟨x,y,z,(L2.V.ref.inj e)▸h⟩,λ⟨x,y,z,h⟩=>⟨_,x,y,z,rfl,h⟩⟩
theorem L2.exSt{b:PySem.Str}{p:PySem.Str->Prop}:(∃c,L2.V.str b=L2.V.str c/\p c)=p b:=propext ⟨λ⟨_,e,h⟩=>(L2.V.str.inj e)▸h,λh=>⟨_,rfl,h⟩⟩
theorem L2.exSo{α:Type}{b:α}{p:α->Prop}:(∃c,some b=some c/\p c)=p b:=propext ⟨λ⟨_,e,h⟩=>(Option.some.inj e)▸h,λh=>⟨_,rfl,h⟩⟩
theorem L2.qVar{i:Nat}{σ:L2.St}{H:L2.Hp}{Q:L2.VK}{v:L2.V}(h:σ[i]? =some (some v)):L2.cJ i σ H Q=Q v H:=propext ⟨λ⟨_,e,q⟩=>by rw [h] at e;cases e;exact q,λq=>⟨_,h,q⟩⟩
theorem L2.and_t{a b:Prop}(h:a=True):(a/\b)=b:=by rw [h,true_and]
theorem L2.and_f{a b:Prop}(h:a=False):(a/\b)=False:=by rw [h,false_and]
theorem L2.and_r{a b a1 a2:Prop}(h:a=(a1/\a2)):(a/\b)=(a1/\(a2/\b)):=by rw [h,and_assoc]
theorem L2.and_l{a b a':Prop}(h:a=a'):(a/\b)=(a'/\b):=by rw [h]
open Lean Meta Simp in
simproc_decl quickVar (L2.cJ _ _ _ _) := fun e => do
  let_expr L2.cJ i s H Q := e | return .continue
  let l ← mkAppM ``GetElem?.getElem? #[s, i]
  let w ← whnfD l
  let_expr Option.some _ o := w | return .continue
  let o' ← whnfD o
  let_expr Option.some _ v := o' | return .continue
  return .visit { expr := (mkApp2 Q v H).headBeta, proof? := some (mkApp6 (mkConst ``L2.qVar) i s H Q v (← mkEqRefl l)) }
open Lean Meta Simp in
simproc_decl lazyAnd (_ ∧ _) := fun e => do
  let_expr And a b := e | return .continue
  let r ← simp a
  let a' := r.expr
  if a'.isTrue then return .visit { expr := b, proof? := some (mkApp3 (mkConst ``L2.and_t) a b (← r.getProof)) }
  if a'.isFalse then return .done { expr := mkConst ``False, proof? := some (mkApp3 (mkConst ``L2.and_f) a b (← r.getProof)) }
  match_expr a' with
  | And a1 a2 => return .visit { expr := mkAnd a1 (mkAnd a2 b), proof? := some (mkApp5 (mkConst ``L2.and_r) a b a1 a2 (← r.getProof)) }
  | _ =>
    match r.proof? with
    | none => return .done { expr := mkAnd a' b }
    | some h => return .done { expr := mkAnd a' b, proof? := some (mkApp4 (mkConst ``L2.and_l) a b a' h) }
theorem L2.ite_c{α:Sort _}{c c':Prop}[d:Decidable c][d':Decidable c'](h:c=c')(x y:α):ite c x y=ite c' x y:=by subst h;congr
open Lean Meta Simp in
simproc_decl lazyIte (ite _ _ _) := fun e => do
  let_expr ite α c d x y := e | return .continue
  let r ← simp c
  if r.expr.isTrue || r.expr.isFalse then return .continue
  if r.expr == c then return .done { expr := e }
  let d' ← synthInstance (mkApp (mkConst ``Decidable) r.expr)
  return .done { expr := mkApp5 e.consumeMData.getAppFn α r.expr d' x y, proof? := some (mkAppN (mkConst ``L2.ite_c e.consumeMData.getAppFn.constLevels!) #[α, c, r.expr, d, d', ← r.getProof, x, y]) }
open Lean Meta Simp in
simproc_decl lazyAll (_) := fun e => do
  if e.isForall then return .done { expr := e } else return .continue
def L2.rdPost : String := "L2.wp L2.wq L2.Bk L2.Bl L2.HO.ins.injEq L2.zR L2.uH L2.ip L2.cC Option.join_some L2.pi L2.oR L2.Bb L2.tBM L2.tyV L2.mO L2.Bg L2.Bc L2.xB L2.xA L2.Be L2.xy L2.uy L2.xC L2.Bf L2.pq L2.oD L2.xz L2.zV L2.xE L2.xF L2.xG L2.uz L2.eL L2.pe L2.tMs L2.xD L2.zD L2.oN L2.kD L2.mD L2.iI L2.tB L2.tOp L2.tUn L2.rU L2.cJ L2.tC L2.rI0 L2.rI L2.sj L2.oq L2.kX L2.gr L2.zC L2.xo L2.zB L2.jH L2.gS L2.xv L2.oA L2.xx L2.rA L2.ut Option.bind_some L2.sN L2.tCB L2.vS L2.tOr L2.zw L2.xm L2.zy L2.xn L2.ii L2.zS L2.rEq L2.rNe L2.x6 L2.x8 L2.ya L2.yb L2.yc L2.ye L2.yf L2.yg L2.Ad L2.Ae L2.Af L2.Ag L2.eK L2.bR L2.dj L2.Ah L2.D9 L2.o9 L2.xu L2.sL L2.tSl L2.oy L2.kE L2.sM L2.aX List.all_cons List.all_nil Bool.and_true Bool.true_and Bool.and_self Bool.or_false Bool.or_true Bool.false_or Bool.true_or L2.cw HT.sIx L2.CP L2.CQ L2.CS L2.CU L2.CV L2.CY L2.CZ L2.C4 L2.V.ty.injEq L2.Aj L2.Ak L2.Al L2.Am L2.An L2.Ao L2.Ap L2.Aq L2.Ar L2.As L2.Au L2.Av L2.Aw L2.Ax L2.Ay L2.Az L2.AA L2.AB L2.AC L2.AD L2.AE L2.AF L2.AG L2.AH L2.AI L2.AJ L2.AK L2.AL L2.AM L2.AN L2.AO L2.AQ L2.AR L2.AS L2.AT L2.AU L2.AV L2.AW L2.AX L2.AY L2.AZ L2.A0 L2.mn1 L2.mn2 List.drop_succ_cons List.drop_zero List.take_succ_cons List.take_zero Nat.reduceEqDiff not_false_eq_true L2.yh L2.yi List.cons.injEq L2.start List.map_cons List.map_nil List.length_cons List.length_nil List.replicate List.cons_append List.nil_append List.getElem?_cons_zero List.getElem?_cons_succ List.set_cons_zero List.set_cons_succ Option.some.injEq L2.V.int.injEq L2.V.str.injEq L2.V.ref.injEq L2.V.bl.injEq L2.HO.tup.injEq L2.HO.lst.injEq L2.HO.dK.injEq reduceCtorEq exists_eq_left' exists_and_left exists_eq_left exists_eq_right L2.zI L2.CMul L2.zH decide_eq_true_eq L2.o8 String.reduceEq decide_true decide_false Bool.false_eq_true if_true if_false if_pos and_true true_and or_false false_or or_true true_or and_false false_and exists_const exists_false Bool.not_true Bool.not_false L2.sz0 L2.sz1 L2.sz2 L2.sz3 L2.sz4 L2.sz5 L2.sz6 L2.lR L2.xr L2.xt L2.CN L2.CO Nat.reduceAdd Nat.reduceSub Nat.zero_add Nat.reduceLeDiff Int.reducePow Int.reduceToNat Int.reduceLT Int.reduceLE Int.reduceNeg L2.na2 L2.D6 Nat.reducePow Nat.reduceLT"
def L2.lzPre : String := "lazyAnd reduceIte lazyIte exists_eq_left exists_eq_left' reduceIte L2.exBl L2.exIn L2.exRf L2.exSt L2.exSo quickVar L2.exIn1 L2.exRf1 L2.exRf2 L2.exRf3"
def L2.rdPre : String := "exists_eq_left exists_eq_left' reduceIte L2.exBl L2.exIn L2.exRf L2.exSt L2.exSo quickVar L2.exIn1 L2.exRf1 L2.exRf2 L2.exRf3"
open Lean in
def L2.rdArgs (pre : String) : MacroM (TSyntaxArray ``Lean.Parser.Tactic.simpLemma) := do
  let p ← (L2.rdPost.splitOn " ").toArray.mapM fun n => `(Lean.Parser.Tactic.simpLemma| $(mkIdent n.toName):ident)
  let a ← (pre.splitOn " ").toArray.mapM fun n => `(Lean.Parser.Tactic.simpLemma| ↓ $(mkIdent n.toName):ident)
  return a ++ p
namespace L2
open PySem PySem.Spec PyProof.Rows PySem.W
section
variable{X:Cx}{k k2 n:Nat}{ps ps2:List Str}{sp sp2:Sp}{m:Str}{pos apos:Pos}{o e:Expr}{es:List Expr}{t:TA}{ta:TE}{C C2:Addr}
end
end L2
namespace L2
open PySem PySem.Spec PyProof.Rows
structure Nx(prog:Program)(w:World)(i:Addr)(fp:List Addr)(T:Nat->Heap->Prop)(item:Nat->Option Value):Prop where
 keep:∀k h h',T k h->(∀b,b=i\/b∈fp->∀o,h.get? b=some o->h'.get? b=some o)->T k h'
 obj:∀k h,T k h->∃o,h.get? i=some o/\(∀v,o.data≠.cell v)/\o.cls≠.type "StopIteration"
 next:∀(A:Around) k x s (Q:Value->Shared->Prop) (E:Value->Shared->Prop),T k s.heap->item k=some x->(∀h',T (k+1) h'->Heap.SameBut i s.heap h'->Q x {s with heap:=h'})->wpAny (model prog w) A (Builtin.SmallTypes.nextOf (.ref i)) Q E s
 done:∀(A:Around) k s (Q:Value->Shared->Prop) (E:Value->Shared->Prop),A.handled=none->T k s.heap->item k=none->(∀h' e,Heap.ExtBut i s.heap h'->(∃o,h'.get? e=some o/\o.cls= .type "StopIteration")->E (.ref e) {s with heap:=h'})->wpAny (model prog w) A (Builtin.SmallTypes.nextOf (.ref i)) Q E s
section
variable{prog:Program}{w:World}{A:Around}{E:Value->Shared->Prop}{s:Shared}
theorem rD(i l:Addr)(xs:Array Value)(ne:l≠i):Nx prog w i [l] (λk h=>h.IsListIter i l k/\h.IsList l xs) (λk=>xs[k]?) where
 keep:=λk h h' ⟨h1,h2⟩ kp=>⟨h1.at λo e=>kp i (.inl rfl) o e,h2.at λo e=>kp l (.inr (by simp)) o e⟩
 obj:=λk h ⟨⟨o,e,c,d⟩,_⟩=>⟨o,e,λv z=>(by rw [d] at z;cases z),λz=>(by rw [c] at z;simp at z)⟩
 next:=λA k x s Q E ⟨h1,h2⟩ hx q=>wpAny_nextOf_list_item h1 h2 hx λh' a b=>q h' ⟨a,h2.extBut b.extBut ne⟩ b
 done:=λA k s Q E hh ⟨h1,h2⟩ hx q=>wpAny_nextOf_list_end hh h1 h2 hx q
theorem pC(i l:Addr)(xs:Array Value)(ne:l≠i):Nx prog w i [l] (λk h=>h.IsTupleIter i l k/\h.IsTuple l xs) (λk=>xs[k]?) where
 keep:=λk h h' ⟨⟨o,e,r⟩,⟨o2,e2,r2⟩⟩ kp=>⟨⟨o,kp i (.inl rfl) o e,r⟩,⟨o2,kp l (.inr (by simp)) o2 e2,r2⟩⟩
 obj:=λk h ⟨⟨o,e,c,d⟩,_⟩=>⟨o,e,λv z=>(by rw [d] at z;cases z),λz=>(by rw [c] at z;simp at z)⟩
 next:=λA k x s Q E ⟨h1,h2⟩ hx q=>by
  obtain⟨o,ho,hc,hd⟩:=id h1
  obtain⟨o2,ho2,hc2,n2,hd2⟩:=id h2
  unfold Builtin.SmallTypes.nextOf
  refine wpAny_bind (wpAny_callSpecial?_slot (name:=Str.ofString "__next__") h1.typeIs F.slot_tuple_iterator_next (wpAny_call_entry F.slot_tuple_iterator_next h1.typeIs F.entry_tuple_iterator_next ?_ (F.args_tuple_iterator_next_1 _)))
  show wpAny _ _ (field (.ref i) 0 >>= _) _ _ _
  refine wpAny_bind (wpAny_field ho hd (x:=.ref l) rfl ?_)
  show wpAny _ _ (if (Value.ref l==Value.none)=true then _ else _) _ _ _
  rw [if_neg (show ¬((Value.ref l==Value.none)=true) from Bool.false_ne_true)]
  show wpAny _ _ (field (.ref i) 1 >>= _) _ _ _
  refine wpAny_bind (wpAny_field ho hd (x:=.int k 0) rfl ?_)
  show wpAny _ _ (seqItems? (.ref l) >>= _) _ _ _
  refine wpAny_bind (wpAny_seqItems ho2 hd2 ?_)
  simp only [toNat_natCast,hx]
  have sb:=Heap.SameBut.update s.heap i (Obj.mapFields (·.setIfInBounds 1 (rawInt ((k:Int)+1))))
  refine wpAny_bind (wpAny_setField ho hd (by simp) (wpAny_pure ⟨x,rfl,wpAny_pure (q _ ⟨?_,h2.extBut sb.extBut ne⟩ sb)⟩))
  exact⟨_,get?_update_self _ ho (Obj.isFreed_of_fields (Obj.data_mapFields hd _)),(Obj.cls_mapFields ..).trans hc,by rw [Obj.data_mapFields hd];simp [rawInt]⟩
 done := fun A k s Q E hh ⟨h1, h2⟩ hx q => by
   obtain⟨o,ho,hc,hd⟩:=id h1
   obtain⟨o2,ho2,hc2,n2,hd2⟩:=id h2
   unfold Builtin.SmallTypes.nextOf
   refine wpAny_bind (wpAny_callSpecial?_slot (name:=Str.ofString "__next__") h1.typeIs F.slot_tuple_iterator_next (wpAny_call_entry F.slot_tuple_iterator_next h1.typeIs F.entry_tuple_iterator_next ?_ (F.args_tuple_iterator_next_1 _)))
   show wpAny _ _ (field (.ref i) 0 >>= _) _ _ _
   refine wpAny_bind (wpAny_field ho hd (x:=.ref l) rfl ?_)
   show wpAny _ _ (if (Value.ref l==Value.none)=true then _ else _) _ _ _
   rw [if_neg (show ¬((Value.ref l==Value.none)=true) from Bool.false_ne_true)]
   show wpAny _ _ (field (.ref i) 1 >>= _) _ _ _
   refine wpAny_bind (wpAny_field ho hd (x:=.int k 0) rfl ?_)
   show wpAny _ _ (seqItems? (.ref l) >>= _) _ _ _
   refine wpAny_bind (wpAny_seqItems ho2 hd2 ?_)
   simp only [toNat_natCast,hx]
   refine wpAny_bind (wpAny_rule (wpAny_bind (wpAny_setField ho hd (by simp) ?_)))
   show wpAny _ _ (newExc (.type "StopIteration") [] >>= _) _ _ _
   refine wpAny_bind ?_
   simp only [newExc,newTuple]
   refine wpAny_bind (wpAny_newObj_type ?_ (by size_fits))
   refine wpAny_bind (m:=firstArgMember _ _) (wpAny_of_eq (a:=Value.none) (by first | rfl | (simp only [firstArgMember];rfl)) ?_)
   refine wpAny_newObj_type ?_ (by size_fits)
   simp only [raiseNew]
   refine wpAny_bind (wpAny_handled ?_)
   first | rw [show A.in1.handled=none from hh] | rw [hh]
   refine wpAny_bind (wpAny_pure (wpAny_throw ?_))
   exact q _ _ (((Heap.SameBut.update ..).extBut.push _).push _) ⟨_,get?_push_size _ rfl,rfl⟩
structure ZA(z TI TO i j:Addr)(f1 f2:List Addr):Prop where
 tz:TI≠z
 oz:TO≠z
 iz:i≠z
 jz:j≠z
 to:TI≠TO
 ti:TI≠i
 tj:TI≠j
 oi:TO≠i
 oj:TO≠j
 ij:i≠j
 a1:∀b∈f1,b≠z/\b≠TO/\b≠i/\b≠j
 a2:∀b∈f2,b≠z/\b≠TO/\b≠i/\b≠j
variable{z TI TO i j:Addr}{f1 f2:List Addr}{T1 T2:Nat->Heap->Prop}{e1 e2:Nat->Option Value}
theorem yu{k:Nat}{x y a b:Value}{Q:Option Value->Shared->Prop}(D:ZA z TI TO i j f1 f2)(N1:Nx prog w i f1 T1 e1)(N2:Nx prog w j f2 T2 e2)(hz:IsZip s.heap z TI TO .none)(hTI:IsPair s.heap TI (.ref i) (.ref j))(hTO:IsPair s.heap TO a b)
 (t1:T1 k s.heap) (t2:T2 k s.heap) (hx:e1 k=some x) (hy:e2 k=some y)
 (hQ:∀h',IsZip h' z TI TO (rawInt s.heap.objs.size)->IsPair h' TO x y->T1 (k+1) h'->T2 (k+1) h'->IsPair h' s.heap.objs.size x y->h'.objs.size=s.heap.objs.size+1->(∀c o,c≠z->c≠TO->c≠i->c≠j->s.heap.get? c=some o->h'.get? c=some o)->Q (some (.ref s.heap.objs.size)) {s with heap:=h'}):
 wpAny (model prog w) A (pyNext (.ref z)) Q E s:=by
 have hT:s.TypeIs (.ref z) "zip":=⟨_,hz,rfl⟩
 unfold pyNext
 refine wpAny_bind (wpAny_attempt (wpAny_callSpecial?_slot (name:=Str.ofString "__next__") hT F.slot_zip_next (wpAny_call_entry F.slot_zip_next hT F.entry_zip_next ?_ (F.args_zip_next_1 _))))
 show wpAny _ _ (field (.ref z) 2 >>= _) _ _ _
 refine wpAny_bind (wpAny_field hz rfl (x:=.bool false) rfl ?_)
 show wpAny _ _ (field (.ref z) 3 >>= _) _ _ _
 refine wpAny_bind (wpAny_field hz rfl (x:=.ref TI) rfl ?_)
 refine wpAny_bind (wpAny_seqItems hTI rfl ?_)
 show wpAny _ _ (Builtin.SmallTypes.ownedTupleIsFree (.ref z) >>= _) _ _ _
 refine wpAny_bind ?_
 unfold Builtin.SmallTypes.ownedTupleIsFree
 refine wpAny_bind (wpAny_field hz rfl (x:=.none) rfl (wpAny_pure ?_))
 simp only [if_true]
 refine wpAny_bind (wpAny_rule ?_)
 refine wpAny_bind (wpAny_field hz rfl (x:=.ref TO) rfl ?_)
 refine wpAny_bind (wpAny_setField_rec hz (by simp) λg1 z1 s1=>?_)
 replace z1:IsZip g1 z TI TO .ellipsis:=z1
 refine wpAny_bind ?_
 simp only [List.zipIdx_cons,List.zipIdx_nil,forIn_cons,forIn_nil]
 refine wpAny_bind (wpAny_bind (wpAny_onRaise ?_))
 show wpAny _ _ (Builtin.SmallTypes.nextOf (.ref i) >>= _) _ _ _
 have t1a:T1 k g1:=N1.keep k _ _ t1 λb hb o e=>s1.extBut _ _ (hb.elim (λq=>q▸D.iz) λq=>(D.a1 b q).1) e
 refine wpAny_bind (N1.next _ k x _ _ _ t1a hx λg2 t1b s2=>wpAny_pure ?_)
 have o2:IsPair g2 TO a b:=s2.extBut _ _ D.oi (s1.extBut _ _ D.oz hTO)
 refine wpAny_bind (wpAny_seqItems o2 rfl ?_)
 refine wpAny_bind (wpAny_updateSeq_pair o2 λg3 o3 s3=>?_)
 replace o3:IsPair g3 TO x b:=o3
 refine wpAny_bind (wpAny_letGo (wpAny_pure ?_))
 refine wpAny_bind (wpAny_bind (wpAny_onRaise ?_))
 show wpAny _ _ (Builtin.SmallTypes.nextOf (.ref j) >>= _) _ _ _
 have t2a:T2 k g3:=N2.keep k _ _ t2 λb hb o e=>by
  have n:b≠z/\b≠TO/\b≠i:=hb.elim (λq=>q▸⟨D.jz,D.oj.symm,D.ij.symm⟩) λq=>⟨(D.a2 b q).1,(D.a2 b q).2.1,(D.a2 b q).2.2.1⟩
  exact s3.extBut _ _ n.2.1 (s2.extBut _ _ n.2.2 (s1.extBut _ _ n.1 e))
 refine wpAny_bind (N2.next _ k y _ _ _ t2a hy λg4 t2b s4=>wpAny_pure ?_)
 have o4:IsPair g4 TO x b:=s4.extBut _ _ D.oj o3
 refine wpAny_bind (wpAny_seqItems o4 rfl ?_)
 refine wpAny_bind (wpAny_updateSeq_pair o4 λg5 o5 s5=>?_)
 replace o5:IsPair g5 TO x y:=o5
 refine wpAny_bind (wpAny_letGo (wpAny_pure (wpAny_pure ?_)))
 refine wpAny_bind (wpAny_seqItems o5 rfl ?_)
 refine wpAny_bind (wpAny_newTuple ?_)
 have sz:g5.objs.size=s.heap.objs.size:=by rw [s5.1,s4.1,s3.1,s2.1,s1.1]
 have z5:IsZip g5 z TI TO .ellipsis:=s5.extBut _ _ D.oz.symm (s4.extBut _ _ D.jz.symm (s3.extBut _ _ D.oz.symm (s2.extBut _ _ D.iz.symm z1)))
 have k5:∀c o,c≠z->c≠TO->c≠i->c≠j->s.heap.get? c=some o->g5.get? c=some o:=λc o c1 c2 c3 c4 e=>s5.extBut _ _ c2 (s4.extBut _ _ c4 (s3.extBut _ _ c2 (s2.extBut _ _ c3 (s1.extBut _ _ c1 e))))
 have t15:T1 (k+1) g5:=N1.keep _ _ _ t1b λb hb o e=>by
  have n:b≠TO/\b≠j:=hb.elim (λq=>q▸⟨D.oi.symm,D.ij⟩) λq=>⟨(D.a1 b q).2.1,(D.a1 b q).2.2.2⟩
  exact s5.extBut _ _ n.1 (s4.extBut _ _ n.2 (s3.extBut _ _ n.1 e))
 have t25:T2 (k+1) g5:=N2.keep _ _ _ t2b λb hb o e=>s5.extBut _ _ (hb.elim (λq=>q▸D.oj.symm) λq=>(D.a2 b q).2.1) e
 have zl:z<g5.objs.size:=lt_size z5
 show wpAny _ _ (Builtin.SmallTypes.ownedTupleHandOut (.ref z) (.ref g5.objs.size) >>= _) _ _ _
 refine wpAny_bind ?_
 unfold Builtin.SmallTypes.ownedTupleHandOut
 have z6:IsZip (g5.push {cls:=.type "tuple",data:=.seq #[x,y]}) z TI TO .ellipsis:=get?_push_of_some _ z5
 refine wpAny_bind (wpAny_setField_rec z6 (by simp) λg7 z7 s7=>?_)
 replace z7:IsZip g7 z TI TO (rawInt g5.objs.size):=z7
 refine wpAny_setField_rec z7 (by simp) λg8 z8 s8=>?_
 replace z8:IsZip g8 z TI TO (rawInt g5.objs.size):=z8
 have up:∀c o,c≠z->g5.get? c=some o->g8.get? c=some o:=λc o c1 e=>s8.extBut _ _ c1 (s7.extBut _ _ c1 (get?_push_of_some _ e))
 have p8:IsPair g8 g5.objs.size x y:=s8.extBut _ _ (ne_of_gt zl) (s7.extBut _ _ (ne_of_gt zl) (get?_push_size _ rfl))
 have q8:g8.objs.size=g5.objs.size+1:=by rw [s8.1,s7.1,size_push]
 rw [sz] at z8 p8 q8
 refine wpAny_pure ⟨_,rfl,wpAny_pure ?_⟩
 rw [sz]
 exact hQ g8 z8 (up _ _ D.oz o5) (N1.keep _ _ _ t15 λb hb o e=>up b o (hb.elim (λq=>q▸D.iz) λq=>(D.a1 b q).1) e) (N2.keep _ _ _ t25 λb hb o e=>up b o (hb.elim (λq=>q▸D.jz) λq=>(D.a2 b q).1) e) p8 q8 λc o c1 c2 c3 c4 e=>up c o c1 (k5 c o c1 c2 c3 c4 e)
theorem Bm{k:Nat}{a b:Value}{Q:Option Value->Shared->Prop}(hh:A.handled=none)(D:ZA z TI TO i j f1 f2)(N1:Nx prog w i f1 T1 e1)(N2:Nx prog w j f2 T2 e2)(hz:IsZip s.heap z TI TO .none)(hTI:IsPair s.heap TI (.ref i) (.ref j))(hTO:IsPair s.heap TO a b)
 (t1:T1 k s.heap) (t2:T2 k s.heap) (hend:e1 k=none\/e2 k=none)
 (hQ:∀h',(∀c o,c≠z->c≠TO->c≠i->c≠j->s.heap.get? c=some o->h'.get? c=some o)->Q none {s with heap:=h'}):wpAny (model prog w) A (pyNext (.ref z)) Q E s:=by
 have hT:s.TypeIs (.ref z) "zip":=⟨_,hz,rfl⟩
 have fin:∀h' e,(∀c o,c≠z->c≠TO->c≠i->c≠j->s.heap.get? c=some o->h'.get? c=some o)->(∃o,h'.get? e=some o/\o.cls= .type "StopIteration")->wpAny (model prog w) A (do if <-isInstance (.ref e) (.type "StopIteration") then pure none else throw (.ref e)) Q E {s with heap:=h'}:=λh' e hk he=>by
  obtain⟨o,ho,hc⟩:=he
  exact wpAny_bind (wpAny_isInstance (T:="StopIteration") (b:=true) ⟨o,ho,hc⟩ isSubtype_stop (wpAny_pure (hQ _ hk)))
 unfold pyNext
 refine wpAny_bind (wpAny_attempt (wpAny_callSpecial?_slot (name:=Str.ofString "__next__") hT F.slot_zip_next (wpAny_call_entry F.slot_zip_next hT F.entry_zip_next ?_ (F.args_zip_next_1 _))))
 show wpAny _ _ (field (.ref z) 2 >>= _) _ _ _
 refine wpAny_bind (wpAny_field hz rfl (x:=.bool false) rfl ?_)
 show wpAny _ _ (field (.ref z) 3 >>= _) _ _ _
 refine wpAny_bind (wpAny_field hz rfl (x:=.ref TI) rfl ?_)
 refine wpAny_bind (wpAny_seqItems hTI rfl ?_)
 show wpAny _ _ (Builtin.SmallTypes.ownedTupleIsFree (.ref z) >>= _) _ _ _
 refine wpAny_bind ?_
 unfold Builtin.SmallTypes.ownedTupleIsFree
 refine wpAny_bind (wpAny_field hz rfl (x:=.none) rfl (wpAny_pure ?_))
 simp only [if_true]
 refine wpAny_bind (wpAny_rule ?_)
 refine wpAny_bind (wpAny_field hz rfl (x:=.ref TO) rfl ?_)
 refine wpAny_bind (wpAny_setField_rec hz (by simp) λg1 z1 s1=>?_)
 replace z1:IsZip g1 z TI TO .ellipsis:=z1
 refine wpAny_bind ?_
 simp only [List.zipIdx_cons,List.zipIdx_nil,forIn_cons,forIn_nil]
 refine wpAny_bind (wpAny_bind (wpAny_onRaise ?_))
 show wpAny _ _ (Builtin.SmallTypes.nextOf (.ref i) >>= _) _ _ _
 have t1a:T1 k g1:=N1.keep k _ _ t1 λb hb o e=>s1.extBut _ _ (hb.elim (λq=>q▸D.iz) λq=>(D.a1 b q).1) e
 cases hx:e1 k with
 | none=>
  refine wpAny_bind (N1.done _ k _ _ _ hh t1a hx λg2 e s2 he=>?_)
  obtain⟨oe,hoe,hce⟩:=he
  have z2:IsZip g2 z TI TO .ellipsis:=s2 _ _ D.iz.symm z1
  have ez:e≠z:=λq=>by subst q;rw [z2] at hoe;cases hoe;simp at hce
  exact wpAny_setField_rec z2 (by simp) λg3 _ s3=>fin g3 e (λc o c1 _ c3 _ q=>s3.extBut _ _ c1 (s2 _ _ c3 (s1.extBut _ _ c1 q))) ⟨oe,s3.extBut _ _ ez hoe,hce⟩
 | some x=>
  have hy:e2 k=none:=by rcases hend with h | h;(rw [hx] at h;cases h);exact h
  refine wpAny_bind (N1.next _ k x _ _ _ t1a hx λg2 t1b s2=>wpAny_pure ?_)
  have o2:IsPair g2 TO a b:=s2.extBut _ _ D.oi (s1.extBut _ _ D.oz hTO)
  refine wpAny_bind (wpAny_seqItems o2 rfl ?_)
  refine wpAny_bind (wpAny_updateSeq_pair o2 λg3 o3 s3=>?_)
  refine wpAny_bind (wpAny_letGo (wpAny_pure ?_))
  refine wpAny_bind (wpAny_bind (wpAny_onRaise ?_))
  show wpAny _ _ (Builtin.SmallTypes.nextOf (.ref j) >>= _) _ _ _
  have t2a:T2 k g3:=N2.keep k _ _ t2 λb hb o e=>by
   have n:b≠z/\b≠TO/\b≠i:=hb.elim (λq=>q▸⟨D.jz,D.oj.symm,D.ij.symm⟩) λq=>⟨(D.a2 b q).1,(D.a2 b q).2.1,(D.a2 b q).2.2.1⟩
   exact s3.extBut _ _ n.2.1 (s2.extBut _ _ n.2.2 (s1.extBut _ _ n.1 e))
  refine wpAny_bind (N2.done _ k _ _ _ hh t2a hy λg4 e s4 he=>?_)
  obtain⟨oe,hoe,hce⟩:=he
  have z4:IsZip g4 z TI TO .ellipsis:=s4 _ _ D.jz.symm (s3.extBut _ _ D.oz.symm (s2.extBut _ _ D.iz.symm z1))
  have ez:e≠z:=λq=>by subst q;rw [z4] at hoe;cases hoe;simp at hce
  exact wpAny_setField_rec z4 (by simp) λg5 _ s5=>fin g5 e (λc o c1 c2 c3 c4 q=>s5.extBut _ _ c1 (s4 _ _ c4 (s3.extBut _ _ c2 (s2.extBut _ _ c3 (s1.extBut _ _ c1 q))))) ⟨oe,s5.extBut _ _ ez hoe,hce⟩
abbrev zG(h:Heap)(o1 o2:Obj):Heap:=((((h.push o1).push o2).push {cls:=.type "tuple",data:=.seq #[.ref h.objs.size,.ref (h.push o1).objs.size]}).push {cls:=.type "tuple",data:=.seq #[.none,.none]}).push {cls:=.type "zip",data:=.fields #[.none,.bool false,.bool false,.ref ((h.push o1).push o2).objs.size,.ref (((h.push o1).push o2).push {cls:=.type "tuple",data:=.seq #[.ref h.objs.size,.ref (h.push o1).objs.size]}).objs.size]}
abbrev zA(h:Heap)(o1 o2:Obj):Addr:=((((h.push o1).push o2).push {cls:=.type "tuple",data:=.seq #[.ref h.objs.size,.ref (h.push o1).objs.size]}).push {cls:=.type "tuple",data:=.seq #[.none,.none]}).objs.size
abbrev zO (n : String) (l : Addr) : Obj := { cls := .type n, data := .fields #[.ref l, .int 0 0] }
theorem xI(h:Heap)(o1 o2:Obj)(f1:o1.isFreed=false)(f2:o2.isFreed=false):IsZip (zG h o1 o2) (h.objs.size+4) (h.objs.size+2) (h.objs.size+3) .none/\IsPair (zG h o1 o2) (h.objs.size+2) (.ref h.objs.size) (.ref (h.objs.size+1))/\IsPair (zG h o1 o2) (h.objs.size+3) .none .none/\(zG h o1 o2).get? h.objs.size=some o1/\(zG h o1 o2).get? (h.objs.size+1)=some o2/\(zG h o1 o2).objs.size=h.objs.size+5/\∀c o,h.get? c=some o->(zG h o1 o2).get? c=some o:=by
 have z1:(h.push o1).objs.size=h.objs.size+1:=size_push ..
 have z2:((h.push o1).push o2).objs.size=h.objs.size+2:=by rw [size_push,z1]
 have z3:(((h.push o1).push o2).push {cls:=.type "tuple",data:=.seq #[.ref h.objs.size,.ref (h.push o1).objs.size]}).objs.size=h.objs.size+3:=by rw [size_push,z2]
 have z4:((((h.push o1).push o2).push {cls:=.type "tuple",data:=.seq #[.ref h.objs.size,.ref (h.push o1).objs.size]}).push {cls:=.type "tuple",data:=.seq #[.none,.none]}).objs.size=h.objs.size+4:=by rw [size_push,z3]
 refine⟨?_,?_,?_,?_,?_,by rw [size_push,z4],λc o e=>get?_push_of_some _ (get?_push_of_some _ (get?_push_of_some _ (get?_push_of_some _ (get?_push_of_some _ e))))⟩
 ·have g:(zG h o1 o2).get? _=some _:=get?_push_size _ rfl
  rw [z4,z2,z3] at g
  exact g
 ·have g:(zG h o1 o2).get? _=some _:=get?_push_of_some _ (get?_push_of_some _ (get?_push_size ((h.push o1).push o2) (o:={cls:=.type "tuple",data:=.seq #[.ref h.objs.size,.ref (h.push o1).objs.size]}) rfl))
  rw [z2,z1] at g
  exact g
 ·have g:(zG h o1 o2).get? _=some _:=get?_push_of_some _ (get?_push_size (((h.push o1).push o2).push {cls:=.type "tuple",data:=.seq #[.ref h.objs.size,.ref (h.push o1).objs.size]}) (o:={cls:=.type "tuple",data:=.seq #[.none,.none]}) rfl)
  rw [z3] at g
  exact g
 ·exact get?_push_of_some _ (get?_push_of_some _ (get?_push_of_some _ (get?_push_of_some _ (get?_push_size _ f1))))
 ·have g:(zG h o1 o2).get? _=some _:=get?_push_of_some _ (get?_push_of_some _ (get?_push_of_some _ (get?_push_size (h.push o1) (o:=o2) f2)))
  rw [z1] at g
  exact g
theorem pD(l1 l2:Addr)(xs ys:Array Value):
 Meets (Builtin.«zip.__new__» ⟨[.type "zip",.ref l1,.ref l2],[]⟩) (λ_ R s=>s.heap.IsTuple l1 xs/\s.heap.IsList l2 ys/\R (.ok (.ret (.ref (zA s.heap (zO "tuple_iterator" l1) (zO "list_iterator" l2))))) {s with heap:=zG s.heap (zO "tuple_iterator" l1) (zO "list_iterator" l2)}):=
 .of_wp λprog w A R s h=>by
  obtain⟨hp,g,d,tk,os⟩:=s;obtain⟨hl1,hl2,h⟩:=h
  have hsub:=sub_zip
  have hL1:Heap.IsTuple (Shared.heap ⟨hp,g,d,tk,os⟩) l1 xs:=hl1
  have hL2:Heap.IsList (Shared.heap ⟨hp.push (zO "tuple_iterator" l1),g,d,tk,os⟩) l2 ys:=Heap.IsList.push hl2 _
  wp_walk using wpAny_pyIter_tuple hL1,wpAny_pyIter_list hL2
  exact⟨_,rfl,h⟩
theorem C7(h:Heap)(o1 o2:Obj):zA h o1 o2=h.objs.size+4:=by
 unfold zA
 rw [size_push,size_push,size_push,size_push]
theorem qM{l1 l2:Addr}{xs ys:Array Value}{Q:Value->Shared->Prop}(hl1:s.heap.IsTuple l1 xs)(hl2:s.heap.IsList l2 ys)(h:Q (.ref (s.heap.objs.size+4)) {s with heap:=zG s.heap (zO "tuple_iterator" l1) (zO "list_iterator" l2)}):
 wpAny (model prog w) A (call (.type "zip") [.ref l1,.ref l2]) Q E s:=by
 refine callType_new F.called_zip (by decide) (F.typeCall_zip_2 _ _) (F.newCall_zip_2 _ _) (λobj=>F.args_object_init_3 obj _ _) F.entry_zip_new (pD l1 l2 xs ys) ⟨hl1,hl2,?_⟩
 have g:=(xI s.heap (zO "tuple_iterator" l1) (zO "list_iterator" l2) rfl rfl).1
 show _/\_
 rw [C7]
 exact⟨⟨_,g,rfl⟩,h⟩
def Itz(K:PySem.W.Frag)(a b:Addr):It:=
 ⟨λi H=>∃xs ys x y,SqT K H a xs/\SqL K H b ys/\xs[i]? =some x/\ys[i]? =some y,λi H v H'=>∃p x y,v= .ref p/\H p=none/\Same H H'/\H' p=some (.tup [x,y])/\(∀xs,SqT K H a xs->xs[i]? =some x)/\∀ys,SqL K H b ys->ys[i]? =some y,λi H=>∃xs ys,SqT K H a xs/\SqL K H b ys/\(xs.length<=i\/ys.length<=i)⟩
end
theorem wt{P:Program}{w:World}{K:PySem.W.Frag}{elts:List Expr}{kk:Nat}{tpos:Pos}{a b z TI TO i1 i2:Addr}(D:ZA z TI TO i1 i2 [a] [b]):
 kY P w K (.Tuple elts kk tpos) (Itz K a b) [z,TI,TO,i1,i2] z (λi h=>IsZip h z TI TO .none/\IsPair h TI (.ref i1) (.ref i2)/\(∃x y,IsPair h TO x y)/\h.IsTupleIter i1 a i/\h.IsListIter i2 b i) where
 mem:=by simp
 obj:=λi h st c hc=>by
  obtain⟨h1,h2,⟨x,y,h3⟩,⟨o4,e4,c4,d4⟩,⟨o5,e5,c5,d5⟩⟩:=st
  simp only [mem_cons,not_mem_nil,or_false] at hc
  rcases hc with rfl | rfl | rfl | rfl | rfl
  ·exact⟨_,h1,λv q=>by
    have q':Data.fields _=Data.cell v:=q
    cases q'⟩
  ·exact⟨_,h2,λv q=>by
    have q':Data.seq _ _=Data.cell v:=q
    cases q'⟩
  ·exact⟨_,h3,λv q=>by
    have q':Data.seq _ _=Data.cell v:=q
    cases q'⟩
  ·exact⟨o4,e4,λv q=>by rw [d4] at q;cases q⟩
  ·exact⟨o5,e5,λv q=>by rw [d5] at q;cases q⟩
 keep:=λi h h' ⟨h1,h2,⟨x,y,h3⟩,⟨o4,e4,r4⟩,h5⟩ k=>⟨k z (by simp) _ h1,k TI (by simp) _ h2,⟨x,y,k TO (by simp) _ h3⟩,⟨o4,k i1 (by simp) _ e4,r4⟩,h5.at λo e=>k i2 (by simp) o e⟩
 item:=by
  intro X hP hw hK hc i pins s σ H E I hf st hg
  subst hP hw hK
  obtain⟨xs,ys,x,y,hq1,hq2,hx,hy⟩:=hg
  obtain⟨h1,h2,⟨p,q,h3⟩,h4,h5⟩:=st
  obtain⟨its1,rv1,p1,hz1⟩:=I.tuple hq1
  obtain⟨its2,rv2,p2,hz2⟩:=I.list hq2
  obtain⟨u,hu,ru⟩:=rv1.get hx
  obtain⟨v,hv,rv⟩:=rv2.get hy
  have t1:s.heap.IsTuple a its1.toArray:=p1
  have zl:∀c∈[z,TI,TO,i1,i2],c<s.heap.objs.size:=λc hc=>by
   simp only [mem_cons,not_mem_nil,or_false] at hc
   rcases hc with rfl | rfl | rfl | rfl | rfl
   ·exact lt_size h1
   ·exact lt_size h2
   ·exact lt_size h3
   ·obtain⟨_,e,_⟩:=h4;exact lt_size e
   ·obtain⟨_,e,_⟩:=h5;exact lt_size e
  refine yu D (pC i1 a its1.toArray (D.a1 a (by simp)).2.2.1) (rD i2 b its2.toArray (D.a2 b (by simp)).2.2.2) h1 h2 h3 ⟨h4,t1⟩ ⟨h5,p2.isList⟩ (x:=u) (y:=v) (by simpa using hu) (by simpa using hv) λh' z' o' t1' t2' p' sz' kp=>?_
  refine⟨_,rfl,wpAny_letOwnedTupleGo_zip z' λh'' z'' sb=>?_⟩
  have I1:Inv X pins σ (upd H s.heap.objs.size (.tup [x,y])) {s with heap:=s.heap.push {cls:=.type "tuple",data:=.seq #[u,v]},toks:=s.toks}:=
   I.laid (λb o q=>get?_push_of_some _ q) (le_refl _) ⟨by show 2<=sizeLine;decide,[u,v],.cons ru (.cons rv .nil),⟨_,get?_push_size _ rfl,rfl,_,rfl⟩⟩
  have hf':∀c∈[z,TI,TO,i1,i2],cW X pins (upd H s.heap.objs.size (.tup [x,y])) c:=λc hc=>by
   refine⟨?_,(hf c hc).2⟩
   rw [aO (ne_of_lt (zl c hc))]
   exact(hf c hc).1
  have I2:Inv X pins σ (upd H s.heap.objs.size (.tup [x,y])) {s with heap:=h'',toks:=s.toks}:=I1.turnedL (t':=s.toks) (λc o hc q=>by
   simp only [mem_cons,not_mem_nil,or_false,not_or] at hc
   refine(sb.2 c hc.1).trans ?_
   by_cases hT:c=s.heap.objs.size
   ·subst hT
    have q':(s.heap.push {cls:=.type "tuple",data:=.seq #[u,v]}).get? s.heap.objs.size=some o:=q
    rw [get?_push_size _ rfl] at q'
    cases q'
    exact p'
   ·have q':(s.heap.push {cls:=.type "tuple",data:=.seq #[u,v]}).get? c=some o:=q
    rw [Heap.get?_push_ne _ _ _ hT] at q'
    exact kp c o hc.1 hc.2.2.1 hc.2.2.2.1 hc.2.2.2.2 q') hf'
  have up:∀c o,c≠z->h'.get? c=some o->h''.get? c=some o:=λc o n e=>(sb.2 c n).trans e
  have ti':h'.get? TI=some _:=kp TI _ D.tz D.to D.ti D.tj h2
  obtain⟨⟨o4,e4,r4⟩,_⟩:=t1'
  refine⟨.ref s.heap.objs.size,_,I2,rfl,⟨_,x,y,rfl,I.hok.fresh (le_refl _),bt (I.hok.fresh (le_refl _)) _,aX,λxs' h=>by rw [I.tuple_inj h hq1];exact hx,λys' h=>by rw [I.list_inj h hq2];exact hy⟩,⟨z'',up _ _ D.tz ti',⟨_,_,up _ _ D.oz o'⟩,⟨o4,up _ _ D.iz e4,r4⟩,t2'.1.at λo e=>up _ o D.jz e⟩,λc hc=>(hf' c hc).1⟩
 done := by
   intro X hP hw hK hc i pins s σ H E I hf st hg
   subst hP hw hK
   obtain⟨xs,ys,hq1,hq2,hx⟩:=hg
   obtain⟨h1,h2,⟨p,q,h3⟩,h4,h5⟩:=st
   obtain⟨its1,rv1,p1,hz1⟩:=I.tuple hq1
   obtain⟨its2,rv2,p2,hz2⟩:=I.list hq2
   have t1:s.heap.IsTuple a its1.toArray:=p1
   have l1:=rv1.length
   have l2:=rv2.length
   refine Bm (I.ok.hd hc) D (pC i1 a its1.toArray (D.a1 a (by simp)).2.2.1) (rD i2 b its2.toArray (D.a2 b (by simp)).2.2.2) h1 h2 h3 ⟨h4,t1⟩ ⟨h5,p2.isList⟩ (hx.imp (λh=>by simp;lia) λh=>by simp;lia) λh' kp=>⟨rfl,I.turnedL (t':=s.toks) (λc o hc e=>?_) hf⟩
   simp only [mem_cons,not_mem_nil,or_false,not_or] at hc
   exact kp c o hc.1 hc.2.2.1 hc.2.2.2.1 hc.2.2.2.2 e
 self:=λ_ _ _ _ _ st h=>wpAny_pyIter_zip st.1 h
theorem dm{a b:Nat}(h:a<b\/b<a):a≠b:=by lia
theorem Bo(n l1 l2:Nat)(h1:l1<n)(h2:l2<n):ZA (n+4) (n+2) (n+3) n (n+1) [l1] [l2]:=by
 have o:∀l:Nat,l<n->l≠n+4/\l≠n+3/\l≠n/\l≠n+1:=λl h=>⟨dm (by lia),dm (by lia),dm (by lia),dm (by lia)⟩
 exact⟨dm (.inl (by lia)),dm (.inl (by lia)),dm (.inl (by lia)),dm (.inl (by lia)),dm (.inl (by lia)),dm (.inr (by lia)),dm (.inr (by lia)),dm (.inr (by lia)),dm (.inr (by lia)),dm (.inl (by lia)),λc hc=>by rw [List.mem_singleton.mp hc];exact o l1 h1,λc hc=>by rw [List.mem_singleton.mp hc];exact o l2 h2⟩
def Bp(K:PySem.W.Frag)(ta:TA):TI:=λσ H R=>ta σ H λvs H1=>∃a b,vs= [.ref a,.ref b]/\(∃xs,SqT K H1 a xs)/\(∃ys,SqL K H1 b ys)/\R (Itz K a b) H1
theorem Bq{X:Cx}{a b:Expr}{ta:TA}{p pos tpos:Pos}{elts:List Expr}{kk:Nat}(hg:Gl X "zip")(hm:X.mg "zip" =none)(ha:PA X [a,b] ta)(hs:starEach [a,b] X.env=(false,eval a X.env)::starEach [b] X.env:=by rfl)(hs2:starEach [b] X.env= [(false,eval b X.env)]:=by rfl):
 PI X (.Tuple elts kk tpos) (.Call (.Name "zip" p) [a,b] [] pos) (Bp X.K ta):=by
 intro pins s σ H R I h
 refine Call_ (gD I hg hm (show bootBuiltins "zip" =some (.type "zip") by decide +kernel) (PyProof.Rows.callWith_type1 (thn (ha pos pins s σ H _ I h) λus s1 ⟨vs,H1,I1,r1,q1⟩=>?_) hs (by rw [hs2];rfl)))
 obtain⟨l1,l2,e,⟨xs,hq1⟩,⟨ys,hq2⟩,q⟩:=q1
 subst e
 cases r1 with
 | cons r rr=>
  cases rr with
  | cons r' rr=>
   cases rr
   cases r
   cases r'
   obtain⟨its1,rv1,p1,hz1⟩:=I1.tuple hq1
   obtain⟨its2,rv2,p2,hz2⟩:=I1.list hq2
   have t1:s1.heap.IsTuple l1 its1.toArray:=p1
   have b1:l1<s1.heap.objs.size:=by obtain⟨_,e,_⟩:=t1;exact lt_size e
   have b2:l2<s1.heap.objs.size:=by obtain⟨_,e,_⟩:=p2.isList;exact lt_size e
   refine qM t1 p2.isList ?_
   obtain⟨z1,z2,z3,z4,z5,z6,z7⟩:=xI s1.heap (zO "tuple_iterator" l1) (zO "list_iterator" l2) rfl rfl
   have D:ZA (s1.heap.objs.size+4) (s1.heap.objs.size+2) (s1.heap.objs.size+3) s1.heap.objs.size (s1.heap.objs.size+1) [l1] [l2]:=Bo _ _ _ b1 b2
   refine wpAny_pyIter_zip z1 ⟨_,_,_,_,H1,rfl,I1.kept (t':=s1.toks) z7,wt D,⟨z1,z2,⟨_,_,z3⟩,⟨_,z4,rfl,rfl⟩,⟨_,z5,rfl,rfl⟩⟩,λc hc=>?_,q⟩
   have le:s1.heap.objs.size<=c:=by
    simp only [mem_cons,not_mem_nil,or_false] at hc
    rcases hc with e | e | e | e | e<;>(rw [e];first | exact le_refl _ | exact Nat.le_add_right _ _)
   exact I1.fpOk le (I1.hok.fresh le)
section
variable{prog:Program}{w:World}{A:Around}{E:Value->Shared->Prop}{s:Shared}{x y:Str}{t u:Tok}{Q:Value->Shared->Prop}
theorem wu(hy:(y.length==0)=false)(hsz:x.length<=sizeLine)(hs2:(Txt.split x y).length<=sizeLine)
 (h:∀l k,l.map (·.1)=Txt.split x y->Q (.ref s.heap.objs.size) {s with toks:=k,heap:=s.heap.push {cls:=.type "list",data:=.seq (strValues l).toArray}}):
 wpAny (model prog w) A (call (.builtin "str.split") [.str x t,.str y u]) Q E s:=by
 cases h1:(decide (x.length<y.length) || decide (Builtin.Str.strKind x<Builtin.Str.strKind y))
 ·cases hf:(Builtin.Str.occurrences x y 0 x.length (x.length+1)).isEmpty
  ·have es:Txt.split x y=Builtin.Str.partsBetween x (Builtin.Str.occurrences x y 0 x.length (x.length+1)) y.length:=(if_neg (ne_true_of_eq_false h1)).trans (if_neg (ne_true_of_eq_false hf))
   refine call_meets F.slot_str_split (typeIs_str _ _ _) F.entry_str_split (F.args_str_split_2 _ _) (meets_str_split_sep x y t u h1 hy hf hsz (by rw [<-es];exact hs2)) ?_
   show wants Q E _ {s with toks:=_,heap:=s.heap.push {cls:=.type "list",data:=.seq (strsFrom s.toks _).toArray}}
   rw [strsFrom_eq]
   exact h _ _ ((numbered_texts _ _).trans es.symm)
  ·exact call_meets F.slot_str_split (typeIs_str _ _ _) F.entry_str_split (F.args_str_split_2 _ _) (meets_str_split_not_found x y t u h1 hy hf) (h [(x,t)] s.toks ((if_neg (ne_true_of_eq_false h1)).trans (if_pos hf)).symm)
 ·exact call_meets F.slot_str_split (typeIs_str _ _ _) F.entry_str_split (F.args_str_split_2 _ _) (meets_str_split_cannot_occur x y t u h1) (h [(x,t)] s.toks (if_pos h1).symm)
end
theorem nN:∀(l:List (Str×Tok)),Vals ((l.map (·.1)).map V.str) (strValues l)
 | []=>.nil
 | p::l=>.cons ⟨p.2,rfl⟩ (nN l)
def Br:V->List V->Hp->VK->Prop:=λx vs H Q=>∃a y,x= .str a/\vs= [.str y]/\(y.length==0)=false/\a.length<=sizeLine/\(Txt.split a y).length<=sizeLine/\∀p H',H p=none->Same H H'->H' p=some (.lst ((Txt.split a y).map V.str))->Q (.ref p) H'
theorem lu{X:Cx}:MtR X "str.split" Br:=by
 intro pins s σ H x vs v us Q I rx rv h
 obtain⟨a,y,rfl,rfl,hy,h1,h2,q⟩:=h
 obtain⟨t,rfl⟩:=rx
 obtain⟨u,rfl,ru⟩:=rv.one
 obtain⟨t2,rfl⟩:=ru
 refine wu hy h1 h2 λl k e=>?_
 have fr:H s.heap.objs.size=none:=I.hok.fresh (le_refl _)
 have I2:=I.laid (a:=s.heap.objs.size) (o:=.lst ((Txt.split a y).map V.str)) (t':=k) (h':=s.heap.push {cls:=.type "list",data:=.seq (strValues l).toArray}) (λb u e=>get?_push_of_some _ e) (le_refl _) ⟨by rw [length_map];exact h2,strValues l,0,by rw [<-e];exact nN l,get?_push_size _ rfl⟩
 exact⟨.ref s.heap.objs.size,_,I2,rfl,q _ _ fr (bt fr _) aX⟩
def lW:List V->Hp->VK->Prop:=λxs H Q=>∃l ys,xs= [.ref l]/\H l=some (.lst ys)/\∀p H',H p=none->Same H H'->H' p=some (.tup ys)->Q (.ref p) H'
theorem uJ{X:Cx}:cy X (.type "tuple") lW:=by
 intro pins s σ H xs us Q I r h
 obtain⟨l,ys,rfl,hl,q⟩:=h
 obtain⟨u,rfl,ru⟩:=eV r
 cases ru
 obtain⟨its,rv,pl,hz⟩:=I.list (SqL.of hl)
 have le:its.length<=sizeLine:=by have:=rv.length;lia
 refine call_tuple_list pl.isList (λh' hk=>?_) (by simpa using le)
 have I1:=I.kept (t':=s.toks) hk
 have fr:H h'.objs.size=none:=I1.hok.fresh (le_refl _)
 have I2:=I1.laid (a:=h'.objs.size) (o:=.tup ys) (t':=s.toks) (h':=h'.push {cls:=.type "tuple",data:=.seq its.toArray}) (λb u e=>get?_push_of_some _ e) (le_refl _) ⟨hz,its,rv,⟨_,get?_push_size _ rfl,rfl,_,rfl⟩⟩
 exact⟨.ref h'.objs.size,_,I2,rfl,q _ _ fr (bt fr _) aX⟩
def KD(P:Program)(w:World)(K:PySem.W.Frag)(a:Addr)(kvs:List (Key×V)):Prop:=∃(o:Obj) (vs:List (Key×Value)),K.lookup a=some o/\(a==sysModules)=false/\KV kvs vs/\∀h:Heap,h.get? a=some o->h.DictOf (cN P w) a vs
section
variable{X:Cx}{i o:Expr}{ty:TE}{pos:Pos}{a:Addr}{kvs:List (Key×V)}
theorem wv(kd:KD X.prog X.w X.K a kvs)(ho:PE X o (tC (.ref a)))(hi:PE X i ty)(hs:z9 i):PE X (.Subscript o i pos) (λσ H Q=>ty σ H λy H2=>∃k v,gv y=some k/\cP kvs k=some v/\Q v H2):=by
 obtain⟨ob,vs,h1,h2,h3,h4⟩:=kd
 intro pins s σ H Q I h
 refine xZ PySem.F.slot_dict_getitem.lookup hs (thn (ho pins s σ H (λx H1=>x= .ref a/\ty σ H1 λy H2=>∃k v,gv y=some k/\cP kvs k=some v/\Q v H2) I ⟨rfl,h⟩) λu s1 ⟨x,H1,I1,rx,ex,q1⟩=>thn (hi pins s1 σ H1 _ I1 q1) λiv s2 ⟨y,H2,I2,ry,k,v,ek,ev,q2⟩=>?_)
 subst ex
 obtain rfl:u=Value.ref a:=rx
 have dd:=h4 _ (I2.kIn a ob h1)
 obtain⟨w',hw,rw'⟩:=RelO.some_of (v:=v) (o:=valueAt vs k) (by rw [<-ev];exact h3.val k)
 rw [sK ek] at ry
 exact⟨dd.typeIs,wpAny_getItem_of (sJ ry) dd.mapOf hw ⟨v,H2,I2.tok _,rw',q2⟩⟩
theorem sU(kd:KD X.prog X.w X.K a kvs)(hi:PE X i ty)(ho:PE X o (tC (.ref a))):PC X .NotIn i o (λσ H Q=>ty σ H λy H2=>∃k,gv y=some k/\Q (.bl (!(cP kvs k).isSome)) H2):=by
 obtain⟨ob,vs,h1,h2,h3,h4⟩:=kd
 intro pins s σ H Q I h
 refine thn (hi pins s σ H _ I h) λiv s1 ⟨y,H1,I1,ry,k,ek,q1⟩=>thn (ho pins s1 σ H1 (λx H2=>x= .ref a/\Q (.bl (!(cP kvs k).isSome)) H2) I1 ⟨rfl,q1⟩) λu s2 ⟨x,H2,I2,rx,ex,q2⟩=>?_
 subst ex
 obtain rfl:u=Value.ref a:=rx
 have dd:=h4 _ (I2.kIn a ob h1)
 rw [sK ek] at ry
 refine wpAny_notIn_of (sJ ry) h2 dd.mapOf ?_
 rw [<-(h3.val k).isSome_eq]
 exact⟨.bl _,H2,I2.tok _,rfl,q2⟩
end
theorem uK{K:PySem.W.Frag}{a b:Addr}{xs ys:List V}{g:TG}{tc:TT}{te:TE}{cs:St}{H1:Hp}{Q:VK}(ha:∀H,Same H1 H->SqT K H a xs)(hb:H1 b=some (.lst ys))(el:xs.length=ys.length)(sz:ys.length<sizeLine)(Pv:Addr->Nat->List V->St->Hp->Prop)
 (h0:∀D H',H1 D=none->Same H1 H'->H' D=some (.lst [])->Pv D 0 [] cs H')
 (hs:∀D i x y zs σ1 H' p H'',xs[i]? =some x->ys[i]? =some y->At ys H1 D i zs H'->Pv D i zs σ1 H'->H' p=none->Same H' H''->H'' p=some (.tup [x,y])->g (.ref p) σ1 H'' λσ2 H2=>tc σ2 H2 λb H3=>if b=true then te σ2 H3 λv H4=>Put ys H1 D (Pv D) i σ2 v H4 else lq ys H1 D (Pv D) i σ2 H3)
 (hd:∀D zs σ1 H',H1 D=none->Same H1 H'->H' D=some (.lst zs)->zs.length<=ys.length->Pv D ys.length zs σ1 H'->Q (.ref D) H'):gw (Itz K a b) g tc te cs H1 Q:=by
 intro D hD
 refine⟨CW ys H1 D (Pv D),⟨_,rfl,zero_le _,bt hD _,[],aX,le_refl _,h0 D _ hD (bt hD _) aX⟩,?_⟩
 rintro i m σ1 H ⟨rfl,hi,sm,zs,hz,lz,p⟩
 have q1:=ha _ sm
 have q2:SqL K H b ys:=SqL.of (sm _ _ hb)
 by_cases hlt:i<ys.length
 ·have hx:xs[i]? =some (xs[i]'(by lia)):=getElem?_eq_getElem _
  have hy:ys[i]? =some ys[i]:=getElem?_eq_getElem hlt
  refine .inr ⟨⟨xs,ys,_,_,q1,q2,hx,hy⟩,λv H' yd=>?_⟩
  obtain⟨pp,x,y,rfl,hn,sm2,hp,ex,ey⟩:=yd
  exact hs D i x y zs σ1 H pp H' (ex xs q1) (ey ys q2) ⟨hD,hlt,sz,sm,hz,lz⟩ p hn sm2 hp
 ·have e:i=ys.length:=by lia
  subst e
  exact .inl ⟨⟨xs,ys,q1,q2,.inr (le_refl _)⟩,hd D zs σ1 _ hD sm hz lz p⟩
theorem pE{e:Value}{a b:Env}(h:a.frame=b.frame):noteFrame e a=noteFrame e b:=by
 unfold noteFrame PySem.frameOf
 rw [h]
theorem lX{base h h':Heap}:∀(l:List Env),(∀b∈frs l,∀o,h.get? b=some o->∃sl,h'.get? b=some {o with slots:=sl})->h.FunFrames base l->h'.FunFrames base l
 | [],_,_=>trivial
 | env::r,k,hl=>by
  obtain⟨hk,⟨L,o,hf,hn,ho,hd⟩,hr⟩:=hl
  have hL:L∈frs (env::r):=by unfold frs;rw [filterMap_cons,hf];exact mem_cons_self
  obtain⟨sl,e⟩:=k L hL o ho
  exact⟨hk,⟨L,_,hf,hn,e,hd⟩,lX r (λb hb=>k b (by unfold frs;rw [filterMap_cons,hf];exact mem_cons_of_mem _ hb)) hr⟩
section
variable{M:Model}{A:Around}{E:Value->Shared->Prop}{s:Shared}{base:Heap}{env:Env}{outer:List Env}{L x:Addr}{oe:Obj}{vs:Array Value}{Q:Unit->Shared->Prop}
theorem pF{head:Value}{had:Bool}(hfr:A.frames=some (env::outer))(hl:s.heap.FunFrames base (env::outer))(hf:env.frame=some L)(hx:s.heap.get? x=some oe)(hd:oe.data= .fields vs)(hsz:1<vs.size)(hdc:oe.dict=none)
 (h:∀h' T,Kept x [] (frs (env::outer)) s.heap h'->s.heap.objs.size<=T->s.heap.objs.size<=h'.objs.size->Fly h' x T oe.cls (rawInt L)->Q () {s with heap:=h'}):
 wpAny M A (do let a <-frameOf env;let pl <-entryPlaceOf L had;let b <-EntryCells.newEntry head a .none (rawInt L) .none pl;setField (.ref x) 1 b) Q E s:=by
 have xfr:x∉frs (env::outer):=λz=>by
  obtain⟨_,o,q,no⟩:=hl.mem z
  exact no vs (by rw [hx] at q;cases q;exact hd)
 refine wpAny_bind (wpAny_frameOf_fun hfr hl hf λg so=>wpAny_bind (wpAny_entryPlaceOf λpl hpl=>?_))
 unfold EntryCells.newEntry newFields
 refine wpAny_bind (wpAny_newObj_type ?_ (hpl.sizeOk5 _ _ _ _ _))
 have gx:g.get? x=some oe:=(so.2.1 x xfr).trans hx
 have gx':=get?_push_of_some (h:=g) {cls:=.type "traceback",dict:=none,data:=.fields ([head,.ref L,.none,rawInt L,.none]++(if pl.isEmpty then replicate 6 Value.none else pl)).toArray} gx
 have ne:g.objs.size≠x:=ne_of_gt (lt_size gx)
 have nd:=Obj.data_mapFields hd (·.setIfInBounds 1 (Value.ref g.objs.size))
 have hT:=(get?_update_other (g.push {cls:=.type "traceback",dict:=none,data:=.fields ([head,.ref L,.none,rawInt L,.none]++(if pl.isEmpty then replicate 6 Value.none else pl)).toArray}) (Obj.mapFields (·.setIfInBounds 1 (Value.ref g.objs.size))) (Ne.symm ne)).trans (get?_push_size g rfl)
 refine wpAny_setField gx' hd hsz (h _ g.objs.size ⟨λb o q n1 _ n3=>?_,λb o q n1 _=>?_⟩ (by rw [so.1];exact le_refl _) ?_ ⟨_,_,_,_,get?_update_self _ gx' (Obj.isFreed_of_fields nd),Obj.cls_mapFields _ _,(jl _ _).trans hdc,nd,by simp [hsz],ne,hT,rfl,by simp⟩)
 ·rw [get?_update_other _ _ (Ne.symm n1)]
  exact get?_push_of_some _ ((so.2.1 b n3).trans q)
 ·obtain⟨sl,r⟩:=so.2.2 b o q
  exact⟨sl,by rw [get?_update_other _ _ (Ne.symm n1)];exact get?_push_of_some _ r⟩
 ·rw [size_update,size_push,so.1]
  exact le_succ _
theorem pG{T:Addr}{cls fl:Value}(hfr:A.frames=some (env::outer))(hl:s.heap.FunFrames base (env::outer))(hf:env.frame=some L)(F:Fly s.heap x T cls fl)
 (h:∀h' T',Kept x [T] (frs (env::outer)) s.heap h'->((T'=T/\fl=rawInt L)\/s.heap.objs.size<=T')->s.heap.objs.size<=h'.objs.size->Fly h' x T' cls (rawInt L)->Q () {s with heap:=h'}):wpAny M A (noteFrame (.ref x) env) Q E s:=by
 obtain⟨oe,vs,oT,ts,hx,hc,hdc,hd,h1,ne,hT,hdT,h3⟩:=F.ex
 subst hc
 unfold noteFrame
 simp only [hf]
 refine wpAny_bind (wpAny_field hx hd h1 ?_)
 rw [if_pos (by simp)]
 refine wpAny_bind (wpAny_field hT hdT h3 ?_)
 by_cases z:fl=rawInt L
 ·rw [if_pos (by rw [z];simp)]
  refine wpAny_pure ?_
  exact h s.heap T ⟨λb o q _ _ _=>q,λb o q _ _=>⟨o.slots,q⟩⟩ (.inl ⟨rfl,z⟩) (le_refl _) (z▸F)
 ·rw [if_neg (by simpa using z)]
  refine wpAny_bind (wpAny_setField hT hdT (Array.getElem?_eq_some_iff.mp h3).1 ?_)
  have ot:∀b,b≠T->(s.heap.update T (Obj.mapFields (·.setIfInBounds 3 Value.none))).get? b=s.heap.get? b:=λb n=>get?_update_other _ _ (Ne.symm n)
  have szu:(s.heap.update T (Obj.mapFields (·.setIfInBounds 3 Value.none))).objs.size=s.heap.objs.size:=size_update _ _ _
  refine pF (base:=base) hfr (hl.of_keeps λb o q no=>⟨o,(ot b λz=>no ts (by rw [z,hT] at q;cases q;exact hdT)).trans q,rfl⟩) hf ((ot x (Ne.symm ne)).trans hx) hd (Array.getElem?_eq_some_iff.mp h1).1 hdc λh' T' k n n' f=>h h' T' ⟨λb o q n1 n2 n3=>?_,λb o q n1 n2=>?_⟩ (.inr (by rw [<-szu];exact n)) (by rw [<-szu];exact n') f
  ·exact k.keep b o ((ot b λz=>n2 (by rw [z];exact mem_singleton_self _)).trans q) n1 (by simp) n3
  ·exact k.slot b o ((ot b λz=>n2 (by rw [z];exact mem_singleton_self _)).trans q) n1 (by simp)
theorem sV{T:Addr}{cls fl:Value}(fr:Option Addr)(F:Fly s.heap x T cls fl)(h:∀h' fl',(∀b,b≠T->h'.get? b=s.heap.get? b)->h'.objs.size=s.heap.objs.size->Fly h' x T cls fl'->Q () {s with heap:=h'}):wpAny M A (setFlight (.ref x) fr) Q E s:=by
 obtain⟨oe,vs,oT,ts,hx,hc,hdc,hd,h1,ne,hT,hdT,h3⟩:=F.ex
 unfold setFlight
 refine wpAny_bind (wpAny_field hx hd h1 ?_)
 rw [if_pos (by simp)]
 have ot:∀b,b≠T->(s.heap.update T (Obj.mapFields (·.setIfInBounds 3 (fr.elim Value.none λf=>rawInt f)))).get? b=s.heap.get? b:=λb n=>get?_update_other _ _ (Ne.symm n)
 have sz:=(Array.getElem?_eq_some_iff.mp h3).1
 exact wpAny_setField hT hdT sz (h _ (fr.elim Value.none λf=>rawInt f) ot (size_update _ _ _) ⟨oe,vs,_,_,(ot x (Ne.symm ne)).trans hx,hc,hdc,hd,h1,ne,get?_update_self _ hT (Obj.isFreed_of_fields (Obj.data_mapFields hdT _)),Obj.data_mapFields hdT _,by simp [sz]⟩)
end
def Ec(X:Cx)(C:Addr)(env:Env):Value->Shared->Prop:=notedBy (model X.prog X.w) X.A env λx s'=>∃m,s'.heap.Ns C m/\∀h',Heap.SameBut C s'.heap h'->∀cenv:Env,cenv.locals=C->
 wpAny (model X.prog X.w) X.A (passOn "comprehension.variables-let-go" x cenv:Sem Value) (λ_ _=>False) X.xe {s' with heap:=h'}
abbrev Cx.compR(X:Cx)(scope:Scope)(cl:List (Str×Addr))(N:List Str)(C:Addr)(fp:List Addr)(s₀:Shared)(H₀:Hp):Cx:=
 {X.comp scope cl N C fp s₀ H₀ with xe:=Ec X C (compEnvC scope cl C X.env)}
section
variable{X:Cx}{scope:Scope}{cl:List (Str×Addr)}{N:List Str}{C:Addr}{fp:List Addr}{s₀:Shared}{H₀:Hp}{pins:List (Addr×Obj)}{σ:St}{H:Hp}{s:Shared}
theorem Inv.toR(I:Inv (X.comp scope cl N C fp s₀ H₀) pins σ H s):Inv (X.compR scope cl N C fp s₀ H₀) pins σ H s:=
 have ok:=I.ok
 ⟨⟨ok.mod,ok.kind,ok.glob,ok.blt,ok.above,ok.inj,ok.has,ok.cab,ok.hd,ok.frames,ok.stk,ok.exf,ok.bs,ok.bsz,ok.noex,ok.exfs,ok.funs,ok.frf⟩,I.os,I.bare,I.base,I.loc,I.cell,I.free,I.freeC,I.pin,I.hok,I.len⟩
theorem Inv.ofR(I:Inv (X.compR scope cl N C fp s₀ H₀) pins σ H s):Inv (X.comp scope cl N C fp s₀ H₀) pins σ H s:=
 have ok:=I.ok
 ⟨⟨ok.mod,ok.kind,ok.glob,ok.blt,ok.above,ok.inj,ok.has,ok.cab,ok.hd,ok.frames,ok.stk,ok.exf,ok.bs,ok.bsz,ok.noex,ok.exfs,ok.funs,ok.frf⟩,I.os,I.bare,I.base,I.loc,I.cell,I.free,I.freeC,I.pin,I.hok,I.len⟩
def In0(X:Cx)(C:Addr)(fp:List Addr)(s₀:Shared)(H₀:Hp):Prop:=∃pins σ,Inv X pins σ H₀ s₀/\(∀b∈fp,cW X pins H₀ b/\b<s₀.heap.objs.size)/\C=s₀.heap.objs.size
end
section
variable{P:Program}{w:World}{K:PySem.W.Frag}{mg:Str->Option Value}{base:Heap}{N:List Str}{qual:Str}{scope:Scope}{f:Addr}{cd:Value}{A:Around}{outer:List Env}{s:Shared}{H:Hp}{E:XK}
theorem C8{sc:Scope}{cl:List (Str×Addr)}{N':List Str}{C:Addr}{fp:List Addr}{s₀:Shared}{H₀:Hp}(O:In0 (bX (CXr P w) P w K mg base N qual scope f cd A outer s H E) C fp s₀ H₀):
 ic (CXr P w) ((bX (CXr P w) P w K mg base N qual scope f cd A outer s H E).compR sc cl N' C fp s₀ H₀) E:=by
 obtain⟨pX,σX,I0,f0,rfl⟩:=O
 intro pins σ H1 s1 e s' I h
 obtain⟨x,T,cls,H',rfl,os,bare,un,hok,F,hx,hT,hxH,hTH,he⟩:=h
 have I':=I.raised os bare un hok
 have Io:Inv (bX (CXr P w) P w K mg base N qual scope f cd A outer s H E) pX σX H' s':=I0.call' I'.os I'.base I'.hok I'.bare λb hb=>⟨(f0 b hb).1.2.2.2.1,(f0 b hb).1.2.1,(f0 b hb).1.2.2.2.2.1,(f0 b hb).1.2.2.2.2.2⟩
 have s0s:s.heap.objs.size<=s₀.heap.objs.size:=I0.sz
 have fresh:∀b,s1.heap.get? b=none->s.heap.get? b=none:=λb hb=>by
  cases q:s.heap.get? b with
  | none=>rfl
  | some o=>
   obtain⟨o1,r⟩:=I0.base.there b o q (by simp [bX])
   by_cases z:b∈fp
   ·rcases (f0 b z).1.2.2.2.1 with y | y
    ·simp [bX] at y
    ·exact absurd (lt_of_lt_of_le (lt_size q) y) (lt_irrefl _)
   ·obtain⟨o2,r2⟩:=I.base.there b o1 r z
    rw [hb] at r2;cases r2
 obtain⟨m1,hm1,_⟩:=I.loc
 obtain⟨m',hm',_⟩:=I'.loc
 have Cin:∃o,s'.heap.get? s₀.heap.objs.size=some o:=by obtain⟨o,_,_,q,_⟩:=hm';exact⟨o,q⟩
 have Cin1:∃o,s1.heap.get? s₀.heap.objs.size=some o:=by obtain⟨o,_,_,q,_⟩:=hm1;exact⟨o,q⟩
 have Cx':s₀.heap.objs.size≠x:=λz=>by obtain⟨o,q⟩:=Cin1;rw [z,hx] at q;cases q
 have CT:s₀.heap.objs.size≠T:=λz=>by obtain⟨o,q⟩:=Cin1;rw [z,hT] at q;cases q
 have Cfr:s₀.heap.objs.size∉frs (envOfC qual scope s.heap.objs.size f cd::outer):=λz=>by
  obtain⟨_,o,q,_⟩:=(I0.stack).mem z
  exact absurd (lt_size q) (lt_irrefl _)
 have stk':=Io.stack
 show wpAny (model P w) (A.deeper (envOfC qual scope s.heap.objs.size f cd)) (noteFrame (.ref x) (compEnvC sc cl s₀.heap.objs.size (envOfC qual scope s.heap.objs.size f cd))) _ _ s'
 rw [pE (a:=compEnvC sc cl s₀.heap.objs.size (envOfC qual scope s.heap.objs.size f cd)) (b:=envOfC qual scope s.heap.objs.size f cd) rfl]
 refine pG (base:=base) Io.ok.frames stk' rfl F λh1 T1 k1 n1 z1 F1=>⟨m',hm'.at' λo e=>?_,λh2 sb cenv _=>?_⟩
 ·exact k1.keep _ o e Cx' (λz=>CT (List.mem_singleton.mp z)) Cfr
 have n1:s'.heap.objs.size<=T1:=n1.resolve_left λz=>absurd z.2 (by simp [rawInt])
 have F1x:=F1
 obtain⟨oe,vs,oT,ts,hx1,hc1,hdc1,hd1,h11,ne1,hT1,hdT1,h31⟩:=F1x.ex
 have T1C:T1≠s₀.heap.objs.size:=λz=>by
  obtain⟨o,q⟩:=Cin
  rw [<-z] at q
  exact absurd (lt_of_lt_of_le (lt_size q) n1) (lt_irrefl _)
 have F2:Fly h2 x T1 cls (rawInt (s.heap.objs.size)):=⟨oe,vs,oT,ts,(sb.2 x (Ne.symm Cx')).trans hx1,hc1,hdc1,hd1,h11,ne1,(sb.2 T1 T1C).trans hT1,hdT1,h31⟩
 unfold PySem.passOn
 refine wpAny_bind (wpAny_field (s:={s' with heap:=h2}) ((sb.2 x (Ne.symm Cx')).trans hx1) hd1 h11 ?_)
 rw [if_neg (by simp)]
 refine wpAny_bind (sV cenv.frame F2 λh3 fl3 o3 z3 F3=>wpAny_throw ?_)
 show wpAny (model P w) (A.deeper (envOfC qual scope s.heap.objs.size f cd)) (leaving (envOfC qual scope s.heap.objs.size f cd) (.ref x)) _ _ _
 unfold leaving
 have sl3:∀b o,s'.heap.get? b=some o->b≠x->b≠T->b≠s₀.heap.objs.size->b≠T1->∃sl,h3.get? b=some {o with slots:=sl}:=λb o q a1 a2 a3 a4=>by
  obtain⟨sl,r⟩:=k1.slot b o q a1 (by simpa using a2)
  exact⟨sl,(o3 b a4).trans ((sb.2 b a3).trans r)⟩
 have fl:h3.FunFrames base (envOfC qual scope s.heap.objs.size f cd::outer):=by
  refine lX _ (λb hb o q=>?_) stk'
  obtain⟨_,o',q',no⟩:=stk'.mem hb
  rw [q] at q';cases q'
  obtain⟨oe0,vs0,oT0,ts0,hx0,_,_,hd0,_,_,hT0,hdT0,_⟩:=F.ex
  refine sl3 b o q (λz=>no vs0 ?_) (λz=>no ts0 ?_) (λz=>Cfr (z▸hb)) λz=>?_
  ·rw [z,hx0] at q;cases q;exact hd0
  ·rw [z,hT0] at q;cases q;exact hdT0
  ·rw [z] at q;exact absurd (lt_of_lt_of_le (lt_size q) n1) (lt_irrefl _)
 refine wpAny_bind (pG (base:=base) Io.ok.frames fl rfl F3 λh4 T4 k4 n4 z4 F4=>?_)
 refine dS F4 λh5 o5 F5=>?_
 have z3':s'.heap.objs.size<=h3.objs.size:=by
  have e3:h3.objs.size=h2.objs.size:=z3
  rw [e3,sb.1];exact z1
 have n4':s'.heap.objs.size<=T4:=by
  rcases n4 with ⟨y,_⟩ | y
  ·rw [y];exact n1
  ·exact le_trans z3' y
 have out:∀b,s'.heap.objs.size<=b->s.heap.get? b=none/\H' b=none:=λb hb=>by
  have nb:s'.heap.get? b=none:=get?_none_of_le hb
  refine⟨?_,?_⟩
  ·cases q:s.heap.get? b with
   | none=>rfl
   | some o=>
    obtain⟨o1,r⟩:=Io.base.there b o q (by simp [bX])
    rw [nb] at r;cases r
  ·cases q:H' b with
   | none=>rfl
   | some u=>
    obtain⟨o1,r⟩:=Io.tracked q
    rw [nb] at r;cases r
 have neT:∀b o,s'.heap.get? b=some o->∀t,s'.heap.objs.size<=t->b≠t:=λb o q t ht z=>by
  rw [z] at q
  exact absurd (lt_of_lt_of_le (lt_size q) ht) (lt_irrefl _)
 refine mJ Io (ts:=[T,s₀.heap.objs.size]) (fresh x hx) hxH (λb hb=>?_) he ⟨λb o q a1 a2 a3=>?_,λb o q a1 a2=>?_⟩ (get?_none_of_le n4') F5
 ·simp only [mem_cons,not_mem_nil,or_false] at hb
  rcases hb with rfl | rfl
  ·exact⟨fresh _ hT,hTH⟩
  ·exact⟨get?_none_of_le s0s,I'.free⟩
 ·simp only [mem_cons,not_mem_nil,or_false,not_or] at a2
  have b1:=neT b o q T1 n1
  have b4:=neT b o q T4 n4'
  have r3:h3.get? b=some o:=(o3 b b1).trans ((sb.2 b a2.2).trans (k1.keep b o q a1 (by simpa using a2.1) a3))
  exact(o5 b b4).trans (k4.keep b o r3 a1 (by simpa using b1) a3)
 ·simp only [mem_cons,not_mem_nil,or_false,not_or] at a2
  have b1:=neT b o q T1 n1
  have b4:=neT b o q T4 n4'
  obtain⟨sl,r3⟩:=sl3 b o q a1 a2.1 a2.2 b1
  obtain⟨sl',r4⟩:=k4.slot b _ r3 a1 (by simpa using b1)
  exact⟨sl',(o5 b b4).trans r4⟩
end
section
variable{X:Cx}{scope:Scope}{cl:List (Str×Addr)}{N:List Str}{cap:List Nat}{k:Nat}{tg:Expr}{g:TG}{pos:Pos}{iter elt:Expr}{ifs:List Expr}{wi:TI}{tc:TT}{te:TE}
theorem sW{use:Option (Value->Sem Unit)}{Qv:Value->Shared->Prop}{pins:List (Addr×Obj)}{s:Shared}{σ:St}{H:Hp}{Q:VK}{pos':Pos}(S:dE X scope cl N cap k)(hc:X.calm=true)(hi:PI X tg iter wi)(hg:∀C fp s₀ H₀,PG (X.comp scope cl N C fp s₀ H₀) tg g)
 (ht:∀C fp s₀ H₀,PTs (X.comp scope cl N C fp s₀ H₀) ifs tc) (he:∀C fp s₀ H₀,In0 X C fp s₀ H₀->PE (X.compR scope cl N C fp s₀ H₀) elt te) (hs:∀x,foldedSetIterable iter X.env x=pure x)
 (I:Inv X pins σ H s) (h:jo k cap wi g tc te σ H Q)
 (fin:∀(D C:Addr) (H6:Hp) (s6:Shared) (m:Str->Option Value),Inv X pins σ H6 s6->cW X pins H6 C->s6.heap.Ns C m->Q (.ref D) H6->compPost (model X.prog X.w) X.A X.xe use Qv (.ref D) C (.ok .next) s6):
 wpAny (model X.prog X.w) X.A (comprehension (.ListComp elt [⟨tg,iter,ifs,0⟩] scope pos) scope X.env pos' (newList []) false (eval iter X.env) use) Qv X.xe s:=by
 refine wpAny_comprehension_free (use:=use) rfl hs (S.clos I.ok) S.kind S.names (thn (hi pins s σ H _ I h) λv s1 h1=>thn h1 λitv s2 h2=>?_)
 obtain⟨it,fp,tn,J,H2,rfl,I2,T,st2,f2,q⟩:=h2
 obtain⟨W,⟨m0,w0⟩,turn⟩:=q s2.heap.objs.size (I2.hok.fresh (le_refl _))
 have I3:Inv X pins σ (upd H2 s2.heap.objs.size (.lst [])) {s2 with heap:=s2.heap.push {cls:=.type "list",dict:=none,data:=.seq ([]:List Value).toArray}}:=
  I2.laid (t':=s2.toks) (λb u e=>get?_push_of_some _ e) (le_refl _) ⟨zero_le _,[],0,.nil,get?_push_size _ rfl⟩
 refine wpAny_newObj_type (wpAny_newFunctionEnv S.ncell (by intro y hy;simp at hy) (λh4 hns hsb=>?_) S.kind)
 generalize hs3:({s2 with heap:=s2.heap.push {cls:=.type "list",dict:=none,data:=.seq ([]:List Value).toArray}}:Shared)=s3 at I3 hns hsb⊢
 have f3:∀b∈fp,cW X pins (upd H2 s2.heap.objs.size (.lst [])) b/\b<s3.heap.objs.size:=λb hb=>by
  obtain⟨o,ho,_⟩:=T.obj _ _ st2 b hb
  have l1:b<s2.heap.objs.size:=lt_size ho
  refine⟨⟨?_,(f2 b hb).2⟩,?_⟩
  ·rw [aO (ne_of_lt l1)];exact(f2 b hb).1
  ·rw [<-hs3,size_push];exact lt_succ_of_lt l1
 have nsN:h4.Ns s3.heap.objs.size λ_=>none:=by
  have:=hns
  simpa using this
 have keep4:∀b o,s3.heap.get? b=some o->h4.get? b=some o:=λb o e=>(hsb.2 b (ne_of_lt (lt_size e))).trans (get?_push_of_some _ e)
 have Ic:=I3.enterN (tk:=s3.toks+([]:List (Str×Value)).length) S f3 nsN keep4
 have st4:tn 0 h4:=T.keep _ _ _ st2 λb hb o e=>keep4 b o (by rw [<-hs3];exact get?_push_of_some _ e)
 have stat:∀{H':Hp},(∀b∈fp,H' b=none)->∀b∈fp,cW (X.comp scope cl N s3.heap.objs.size fp s3 (upd H2 s2.heap.objs.size (.lst []))) [] H' b:=λhn b hb=>
  ⟨hn b hb,ne_of_lt (f3 b hb).2,λz=>(List.mem_cons.mp (I3.stkSub b z)).elim (λq=>(f3 b hb).1.2.1 q) λq=>(f3 b hb).1.2.2.1 q,.inl hb,λy c e=>(f3 b hb).1.2.2.2.2.1 y c (S.sub I.ok y c e),λp hp=>by simp at hp⟩
 have out:∀{σx:St} {H6:Hp} {s6:Shared},Inv (X.comp scope cl N s3.heap.objs.size fp s3 (upd H2 s2.heap.objs.size (.lst []))) [] σx H6 s6->Q (.ref s2.heap.objs.size) H6->
  compPost (model X.prog X.w) X.A X.xe use Qv (Value.ref s2.heap.objs.size) s3.heap.objs.size (.ok .next) s6:=λ{σx H6 s6} I6 q6=>by
  obtain⟨m,hm,_⟩:=I6.loc
  have Io:Inv X pins σ H6 s6:=I3.call' I6.os I6.base I6.hok I6.bare λb hb=>⟨(f3 b hb).1.2.2.2.1,(f3 b hb).1.2.1,(f3 b hb).1.2.2.2.2.1,(f3 b hb).1.2.2.2.2.2⟩
  exact fin _ _ _ _ m Io (I3.fpOk (b:=s3.heap.objs.size) (H':=H6) (le_refl _) I6.free) hm q6
 have loop:codeAny (model X.prog X.w) X.A (.compLoop (.ListComp elt [⟨tg,iter,ifs,0⟩] scope pos) 0 (.ref it) (.ref s2.heap.objs.size) (compEnvC scope cl s3.heap.objs.size X.env))
  (compPost (model X.prog X.w) X.A X.xe use Qv (Value.ref s2.heap.objs.size) s3.heap.objs.size) {s3 with heap:=h4,toks:=s3.toks+([]:List (Str×Value)).length}:=by
  refine rB (λn s'=>∃i σx H',Inv (X.comp scope cl N s3.heap.objs.size fp s3 (upd H2 s2.heap.objs.size (.lst []))) [] σx H' s'/\tn i s'.heap/\(∀b∈fp,H' b=none)/\W i n σx H') ?_ m0 ⟨0,_,_,Ic,st4,λb hb=>(f3 b hb).1.1,w0⟩
  rintro n s5 ⟨i,σx,H5,I5,st5,fr5,w5⟩
  rcases turn i n σx H5 w5 with ⟨stop,qd⟩ | ⟨go,step⟩
  ·refine wpAny_mono (T.done (X.comp scope cl N s3.heap.objs.size fp s3 (upd H2 s2.heap.objs.size (.lst []))) rfl rfl rfl hc i [] s5 _ H5 (λ_ _=>False) I5 (stat fr5) st5 stop) (λr s6 ⟨hr,I6⟩=>?_) λ_ _ z=>z.elim
   subst hr
   exact out I6 qd
  ·refine wpAny_mono (T.item (X.comp scope cl N s3.heap.objs.size fp s3 (upd H2 s2.heap.objs.size (.lst []))) rfl rfl rfl hc i [] s5 _ H5 (λ_ _=>False) I5 (stat fr5) st5 go) (λr s6 ⟨u,hr,h6⟩=>?_) λ_ _ z=>z.elim
   subst hr
   refine wpAny_mono h6 (λ_ s7 ⟨v,H7,I7,r7,y7,st7,fr7⟩=>?_) λ_ _ z=>z.elim
   have I7':=I7.pinned (stat fr7) (T.obj _ _ st7)
   have again:∀{σ9:St} {H9:Hp} {s9:Shared},Inv (X.comp scope cl N s3.heap.objs.size fp s3 (upd H2 s2.heap.objs.size (.lst []))) ([]++hY fp s7.heap) σ9 H9 s9->(∃m',m'<n/\W (i+1) m' σ9 H9)->
    ∃m',m'<n/\∃i σx H',Inv (X.comp scope cl N s3.heap.objs.size fp s3 (upd H2 s2.heap.objs.size (.lst []))) [] σx H' s9/\tn i s9.heap/\(∀b∈fp,H' b=none)/\W i m' σx H':=λ{σ9 H9 s9} I9 ⟨m',lt,w'⟩=>by
    refine⟨m',lt,i+1,σ9,H9,I9.unpinned,T.keep _ _ _ st7 λb hb o e=>(I9.pin (b,o) (mem_append_right _ (mem_append_right _ (de hb e)))).1,λb hb=>?_,w'⟩
    obtain⟨o,e,d⟩:=T.obj _ _ st7 b hb
    exact(I9.pin (b,o) (mem_append_right _ (mem_append_right _ (de hb e)))).2.1
   refine wpAny_mono (hg _ _ _ _ _ s7 σx H7 v u _ I7' r7 (step v H7 y7)) (λ_ s8 ⟨σ8,H8,I8,q8⟩=>?_) λ_ _ z=>z.elim
   refine wpAny_mono (ht _ _ _ _ _ s8 _ H8 _ I8 q8) (λb s9 ⟨H9,I9,q9⟩=>?_) λ_ _ z=>z.elim
   cases b with
   | false=>exact again I9 q9
   | true=>
    refine wpAny_mono (he _ _ _ _ ⟨pins,σ,I3,f3,rfl⟩ _ s9 _ H9 _ I9.toR q9) (λu' s10 ⟨v',H10,I10,r10,ys,hD,hz,q10⟩=>?_) λ_ _ z=>by cases use<;>exact z
    refine wpAny_mono (iJ (X:=X.comp scope cl N s3.heap.objs.size fp s3 (upd H2 s2.heap.objs.size (.lst []))) _ s10 _ H10 (.ref s2.heap.objs.size) [v'] (.ref s2.heap.objs.size) [u'] (λ_ H'=>∃m',m'<n/\W (i+1) m' σ8 H') I10.ofR rfl (.cons r10 .nil) ⟨_,ys,v',rfl,rfl,hD,hz,q10⟩) (λ_ s11 ⟨_,H11,I11,_,q11⟩=>again I11 q11) λ_ _ z=>z.elim
 exact codeAny_compStart_list loop (T.self _ 0 _ _ _ st4 loop)
theorem uL(S:dE X scope cl N cap k)(hc:X.calm=true)(hi:PI X tg iter wi)(hg:∀C fp s₀ H₀,PG (X.comp scope cl N C fp s₀ H₀) tg g)
 (ht:∀C fp s₀ H₀,PTs (X.comp scope cl N C fp s₀ H₀) ifs tc) (he:∀C fp s₀ H₀,In0 X C fp s₀ H₀->PE (X.compR scope cl N C fp s₀ H₀) elt te) (hs:∀x,foldedSetIterable iter X.env x=pure x:=by intro _;rfl):
 PE X (.ListComp elt [⟨tg,iter,ifs,0⟩] scope pos) (jo k cap wi g tc te):=by
 intro pins s σ H Q I h
 rw [eval_ListComp]
 refine sW S hc hi hg ht he hs I h λD C H6 s6 m Io Cf hm q6=>?_
 exact⟨m,hm,λh' sb=>⟨.ref D,H6,Io.turned (it:=C) (t':=s6.toks) (λb o n e=>(sb.2 b n).trans e) Cf.1 Cf.2.1 Cf.2.2.2.1 Cf.2.2.2.2.1 Cf.2.2.2.2.2,rfl,q6⟩⟩
end
section
variable{prog:Program}{w:World}{A:Around}{E:Value->Shared->Prop}{s:Shared}{z TI TO i j:Addr}{f2:List Addr}{T2:Nat->Heap->Prop}{e2:Nat->Option Value}
end
section
variable{prog:Program}{w:World}
end
section
variable{prog:Program}{w:World}
end
end L2
theorem L2.hideL{a b:L2.TS}{D σ H}(h:let T:=b;L2.oN a T D σ H):L2.oN a b D σ H:=h
theorem L2.hRet{a D σ H}(h:L2.sj a D σ H):L2.sj a D σ H:=h
theorem L2.hIf{a b c D σ H}(h:L2.mD a b c D σ H):L2.mD a b c D σ H:=h
theorem L2.hDrop{a D σ H}(h:L2.oq a D σ H):L2.oq a D σ H:=h
theorem L2.hAsg{a b D σ H}(h:L2.kX a b D σ H):L2.kX a b D σ H:=h
theorem L2.xL0{H:L2.Hp}{a:PySem.Addr}{v0:List L2.V}{R:List L2.V->Prop}(h:H a=some (.lst v0)):(∃v,H a=some (.lst v)/\R v)=R v0:=propext ⟨λe=>by obtain⟨v,e,r⟩:=e;rw [h] at e;cases e;exact r,λr=>⟨v0,h,r⟩⟩
theorem L2.xL1{H:L2.Hp}{a:PySem.Addr}{α0:Sort _}{v0:List L2.V}{R:List L2.V->α0->Prop}(h:H a=some (.lst v0)):(∃v x0,H a=some (.lst v)/\R v x0)=∃x0,R v0 x0:=propext ⟨λe=>by obtain⟨v,x0,e,r⟩:=e;rw [h] at e;cases e;exact⟨x0,r⟩,λe=>by obtain⟨x0,r⟩:=e;exact⟨v0,x0,h,r⟩⟩
theorem L2.xE1{H:L2.Hp}{a:PySem.Addr}{α0:Sort _}{v0:List L2.V}{R:List L2.V->α0->Prop}(h:H a=some (.tup v0)):(∃v x0,(H a=some (.tup v)\/H a=some (.lst v))/\R v x0)=∃x0,R v0 x0:=propext ⟨λe=>by obtain⟨v,x0,e,r⟩:=e;rw [h] at e;rcases e with e | e<;>cases e;exact⟨x0,r⟩,λe=>by obtain⟨x0,r⟩:=e;exact⟨v0,x0,.inl h,r⟩⟩
theorem L2.xF1{H:L2.Hp}{a:PySem.Addr}{α0:Sort _}{v0:List L2.V}{R:List L2.V->α0->Prop}(h:H a=some (.lst v0)):(∃v x0,(H a=some (.tup v)\/H a=some (.lst v))/\R v x0)=∃x0,R v0 x0:=propext ⟨λe=>by obtain⟨v,x0,e,r⟩:=e;rw [h] at e;rcases e with e | e<;>cases e;exact⟨x0,r⟩,λe=>by obtain⟨x0,r⟩:=e;exact⟨v0,x0,.inr h,r⟩⟩
def L2.xNames : String := "xD0 xE1 xF1 xI0 xI1 xL0 xL1 xT0 xT1"
open Lean Meta Simp in
simproc_decl exHp (Exists _) := fun e => do
  let _ := L2.xNames
  let mut b := e
  let mut n := 0
  while b.isAppOfArity ``Exists 2 && b.appArg!.isLambda do
    b := b.appArg!.bindingBody!
    n := n + 1
  let_expr And A _ := b | return .continue
  let (o, X) := match_expr A with
    | Or X _ => (true, X)
    | _ => (false, A)
  let_expr Eq _ l r := X | return .continue
  if l.hasLooseBVars then return .continue
  let_expr Option.some _ rc := r | return .continue
  let some c := rc.getAppFn.constName? | return .continue
  for d in (← getLCtx) do
    if d.isImplementationDetail then continue
    let ty ← instantiateMVars d.type
    let_expr Eq _ l' r' := ty | continue
    unless l' == l do continue
    let_expr Option.some _ rc' := r' | continue
    let some c' := rc'.getAppFn.constName? | continue
    let (s, k) := if o then
        (if c == `L2.HO.tup then (if c' == `L2.HO.tup then "xE" else "xF") else (if c' == `L2.HO.lst then "xG" else "xJ"), n - 1)
      else if c != c' then ("", 0)
      else if c == `L2.HO.lst then ("xL", n - 1) else if c == `L2.HO.tup then ("xT", n - 1) else if c == `L2.HO.dK then ("xD", n - 1) else if c == `L2.HO.ins && n ≥ 2 then ("xI", n - 2) else ("", 0)
    if s == "" || k > 3 then continue
    let nm := Name.mkStr `L2 (s ++ toString k)
    unless (← getEnv).contains nm do continue
    let thm ← mkConstWithFreshMVarLevels nm
    let (ms, _, ty2) ← forallMetaTelescope (← inferType thm)
    let_expr Eq _ a2 b2 := ty2 | continue
    unless (← withReducible (isDefEq a2 e)) do continue
    unless (← isDefEq (← inferType ms.back!) ty) do continue
    ms.back!.mvarId!.assign d.toExpr
    let res ← instantiateMVars b2
    return .visit { expr := res.headBeta, proof? := some (← instantiateMVars (mkAppN thm ms)) }
  return .continue
open Lean Meta Simp in
simproc_decl quickV2 (L2.cJ _ _ _ _) := fun e => do
  let_expr L2.cJ i s H Q := e | return .continue
  let l ← mkAppM ``GetElem?.getElem? #[s, i]
  let w ← whnfD l
  let_expr Option.some _ o := w | return .continue
  let o' ← whnfD o
  let_expr Option.some _ v := o' | return .continue
  return .visit { expr := (mkApp2 Q v H).headBeta, proof? := some (mkApp6 (mkConst ``L2.qVar) i s H Q v (← mkEqRefl (← mkAppM ``Option.some #[← mkAppM ``Option.some #[v]]))) }
def L2.lzPre2 : String := "lazyAnd reduceIte lazyIte exHp exists_eq_left exists_eq_left' reduceIte L2.exBl L2.exIn L2.exRf L2.exSt L2.exSo quickV2 L2.exIn1 L2.exRf1 L2.exRf2 L2.exRf3"
@[elab_as_elim] theorem L2.len1 {α:Type} {p:List α->Prop} (us:List α) (hl:us.length=1) (h:∀a,p [a]):p us:=
 match us,hl with
 | [a],_=>h a
@[elab_as_elim] theorem L2.len2 {α:Type} {p:List α->Prop} (us:List α) (hl:us.length=2) (h:∀a b,p [a,b]):p us:=
 match us,hl with
 | [a,b],_=>h a b
@[elab_as_elim] theorem L2.len3 {α:Type} {p:List α->Prop} (us:List α) (hl:us.length=3) (h:∀a b c,p [a,b,c]):p us:=
 match us,hl with
 | [a,b,c],_=>h a b c
@[elab_as_elim] theorem L2.len4 {α:Type} {p:List α->Prop} (us:List α) (hl:us.length=4) (h:∀a b c d,p [a,b,c,d]):p us:=
 match us,hl with
 | [a,b,c,d],_=>h a b c d
namespace L2
open PySem PySem.Spec PyProof.Rows
end L2
namespace L2
open PySem PySem.Calls PySem.Spec PyProof.Rows
section
variable{prog:Program}{w:World}{A:Around}{E:Value->Shared->Prop}{s:Shared}
end
section
variable{X:Cx}
end
section
variable{prog:Program}{w:World}{A:Around}{E:Value->Shared->Prop}{s:Shared}
end
section
variable{prog:Program}{w:World}{A:Around}{E:Value->Shared->Prop}{s:Shared}
end
section
variable{X:Cx}
end
end L2
namespace L2
open PySem PySem.Spec PyProof.Rows
def lY:List V->Hp->VK->Prop:=λxs H Q=>∃p ys,xs= [.ref p]/\(H p=some (.tup ys)\/H p=some (.lst ys))/\Q (.int ys.length) H
theorem aQ{X:Cx}:cy X (.builtin "len") lY:=by
 intro pins s σ H xs us Q I r h
 obtain⟨p,ys,e,hp,q⟩:=h
 refine ig pins s σ H xs us Q I r ⟨p,ys,e,?_,q⟩
 rcases hp with hp | hp
 ·exact .inr (SqT.of hp)
 ·exact .inl (SqL.of hp)
end L2
namespace L2
open PySem
def pH:R2:=λx y H Q=>∃a b xs,x= .ref a/\y= .ref b/\H a=some (.lst xs)/\H b=some (.lst [])/\Q (.bl xs.isEmpty) H
theorem uM{X:Cx}(hu:X.A.units+64<cLine):OpR X (compareOp .Eq) pH:=by
 intro pins s σ H x y v u Q I rx ry h
 obtain⟨a,b,xs,rfl,rfl,ha,hb,q⟩:=h
 cases rx
 cases ry
 obtain⟨its,r,pl,_⟩:=I.list (SqL.of ha)
 obtain⟨its2,r2,pl2,_⟩:=I.list (SqL.of hb)
 have l1:xs.length=its.length:=r.length
 have l2:0=its2.length:=r2.length
 cases xs with
 | nil=>
  refine SeqAt.eq_listAt (e:=λ_=>true) pl.isList pl2.isList ?_ (by lia) (λj h1 h2=>?_) ⟨.bl _,H,I,rfl,?_⟩
  ·simp only [length_nil] at l1
   simp only [size_toArray];lia
  ·exfalso
   simp only [size_toArray,length_nil] at h1 l1;lia
  ·have:(List.range its.toArray.size).all (λ_=>true)=true:=by simp
   rw [this];exact q
 | cons v xs=>
  refine SeqAt.eq_list_lengthsAt pl.isList pl2.isList ?_ (by lia) ⟨.bl _,H,I,rfl,q⟩
  simp only [length_cons] at l1
  simp only [size_toArray,bne_iff_ne,ne_eq];lia
end L2
namespace L2
open PySem PySem.Spec PyProof.Rows
section
variable{X:Cx}{o e f:Expr}{ty tx:TE}{apos cpos:Pos}{a:Addr}{kvs:List (Key×V)}
theorem uN(kd:KD X.prog X.w X.K a kvs)(ho:PE X o (tC (.ref a)))(he:PE X e ty)(hf:PE X f tx)(m:M2 X o "get" apos e f cpos):PE X (.Call (.Attribute o "get" apos) [e,f] [] cpos) (λσ H Q=>ty σ H λy H2=>tx σ H2 λz H3=>∃k,gv y=some k/\Q ((cP kvs k).getD z) H3):=by
 obtain⟨ob,vs,h1,h2,h3,h4⟩:=kd
 intro pins s σ H Q I h
 refine wpAny_Call_method m.base m.few m.line PySem.F.plainAttrs_dict PySem.F.slot_dict_get PySem.F.type_dict_get (thn (ho pins s σ H (λx H1=>x= .ref a/\ty σ H1 λy H2=>tx σ H2 λz H3=>∃k,gv y=some k/\Q ((cP kvs k).getD z) H3) I ⟨rfl,h⟩) λu s1 ⟨x,H1,I1,rx,ex,q1⟩=>?_)
 subst ex
 obtain rfl:u=Value.ref a:=rx
 have dd:=h4 _ (I1.kIn a ob h1)
 refine⟨dd.typeIs,λb q=>?_,?_⟩
 ·cases q
  obtain⟨ob,_,_,h1,h2,_⟩:=dd
  exact⟨ob,h1,h2.2.1⟩
 rw [m.trees]
 refine Calls.callWith_builtin rfl (Calls.evalArgs_plain (Calls.spliced_cons (thn (he pins s1 σ H1 _ I1 q1) λiv s2 ⟨y,H2,I2,ry,q2⟩=>
  Calls.spliced_cons (thn (hf pins s2 σ H2 _ I2 q2) λfv s3 ⟨z,H3,I3,rz,k,ek,q3⟩=>Calls.spliced_nil ?_))))
 have dd:=h4 _ (I3.kIn a ob h1)
 rw [sK ek] at ry
 exact call_meetsIn PySem.F.slot_dict_get dd.typeIs PySem.F.entry_dict_get (PySem.F.args_dict_get_3 _ _ _) (meets_dict_get_default (cN X.prog X.w) a (sJ ry) h2 fv) ⟨_,dd.mapOf,_,H3,I3.tok _,(h3.val k).getD rz,q3⟩
end
section
variable{X:Cx}
def lZ(K:PySem.W.Frag):R2:=λx y H Q=>∃a b xs ys,x= .ref a/\y= .ref b/\SqT K H a xs/\SqT K H b ys/\xs.length+ys.length<=sizeLine/\
 ∀p H',Same H H'->SqT K H' p (xs++ys)->Q (.ref p) H'
theorem yv:OpR X (binaryOp .Add) (lZ X.K):=by
 intro pins s σ H x y v u Q I rx ry h
 obtain⟨a,b,xs,ys,rfl,rfl,ha,hb,hz,q⟩:=h
 cases hx:xs with
 | cons x0 X0=>
  have hx':xs≠[]:=by rw [hx];exact cons_ne_nil _ _
  exact mF pins s σ H _ _ v u Q I rx ry ⟨a,b,xs,ys,rfl,rfl,ha,hb,hx',hz,λe=>q a H (Same.refl _) (by rw [e,append_nil];exact ha),λ_ p hp=>q p _ (bt hp _) (SqT.of aX)⟩
 | nil=>
  subst hx
  cases rx
  cases ry
  obtain⟨its,r1,p1,_⟩:=I.tuple ha
  obtain⟨its2,r2,p2,_⟩:=I.tuple hb
  cases r1
  obtain⟨⟨cls,dd,data,sl⟩,ho,hc,n,hd⟩:=id p1
  obtain⟨⟨cls2,dd2,data2,sl2⟩,ho2,hc2,n2,hd2⟩:=id p2
  simp only at hc hd hc2 hd2
  subst hc hd hc2 hd2
  exact concat_meets ⟨_,ho,rfl⟩ ⟨_,ho2,rfl⟩ noFill_tuple_add seq_tuple_add PySem.F.slot_tuple_add PySem.F.entry_tuple_add (PySem.F.args_tuple_add_2 _ _)
   (tuple_addW0 a b _ _ n n2 dd dd2 sl sl2 rfl) ⟨ho,ho2,.ref b,H,I,rfl,q b H (Same.refl _) hb⟩
theorem lA:fillsNumberSlot (.type "tuple") "mul" =pure false:=
 PySem.fillsNumberSlot_seq (id:="tuple.__mul__") (r:=some (.builtin "tuple.__rmul__")) F.slot_tuple_mul.lookup (by decide +kernel) F.slot_tuple_rmul.lookup (by decide +kernel)
theorem pI:seqRepeat? (.type "tuple")=pure (some (.builtin "tuple.__mul__")):=by
 unfold seqRepeat?
 rw [PySem.seqSlot_of (T:="tuple") (name:="__mul__") (id:="tuple.__mul__") F.slot_tuple_mul.lookup (by decide +kernel),PySem.seqSlot_of (T:="tuple") (name:="__rmul__") (id:="tuple.__rmul__") F.slot_tuple_rmul.lookup (by decide +kernel)]
 rfl
theorem mQ(a:Int)(t:Tok)(l:Addr)(items:Array Value)(n:Nat)(dd:Option Addr)(sl:Array (Option Value)):
 Meets (Builtin.«int.__rmul__» ⟨[.int a t,.ref l],[]⟩) (λ_ R s=>s.heap.get? l=some {cls:=.type "tuple",dict:=dd,data:=.seq items n,slots:=sl}/\R (.ok (.ret Value.notImplemented)) s):=
 .of_wp λprog w A R s h=>by obtain⟨hp,g,d,tk,os⟩:=s;obtain⟨hl,h⟩:=h;wp_walk using wpAny_loadPart' hl;exact⟨_,rfl,h⟩
theorem qN(l:Addr)(items:Array Value)(n:Nat)(dd:Option Addr)(sl:Array (Option Value))(x:Int)(u:Tok)(h0:¬(x< -(2^63) || x>=2^63)=true)(h1:¬(items.isEmpty || x==1)=true)(h2:(x<=0 || items.isEmpty)=true):
 Meets (Builtin.«tuple.__mul__» ⟨[.ref l,.int x u],[]⟩) (λ_ R s=>s.heap.get? l=some {cls:=.type "tuple",dict:=dd,data:=.seq items n,slots:=sl}/\R (.ok (.ret (Value.ref s.heap.objs.size))) {s with heap:=s.heap.push {cls:=Value.type "tuple",data:=Data.seq #[]},toks:=s.toks}):=
 .of_wp λprog w A R s h=>by obtain⟨hp,g,d,tk,os⟩:=s;obtain⟨hl,h⟩:=h;have f1:=AutoSeq1.idx_int;wp_walk using wpAny_loadPart' hl;refine wpAny_ite_false (decide_eq_false h0) ?_;wp_walk using wpAny_loadPart' hl;exact⟨_,rfl,h⟩
theorem qO(l:Addr)(items:Array Value)(n:Nat)(dd:Option Addr)(sl:Array (Option Value))(x:Int)(u:Tok)(h0:¬(x< -(2^63) || x>=2^63)=true)(h1:(items.isEmpty || x==1)=true):
 Meets (Builtin.«tuple.__mul__» ⟨[.ref l,.int x u],[]⟩) (λ_ R s=>s.heap.get? l=some {cls:=.type "tuple",dict:=dd,data:=.seq items n,slots:=sl}/\R (.ok (.ret (Value.ref l))) {s with heap:=s.heap,toks:=s.toks}):=
 .of_wp λprog w A R s h=>by obtain⟨hp,g,d,tk,os⟩:=s;obtain⟨hl,h⟩:=h;have f1:=AutoSeq1.idx_int;wp_walk using wpAny_loadPart' hl;refine wpAny_ite_false (decide_eq_false h0) ?_;wp_walk using wpAny_loadPart' hl;exact⟨_,rfl,h⟩
theorem qP(l:Addr)(items:Array Value)(n:Nat)(dd:Option Addr)(sl:Array (Option Value))(x:Int)(u:Tok)(h0:¬(x< -(2^63) || x>=2^63)=true)(h1:¬(items.isEmpty || x==1)=true)(h2:¬(x<=0 || items.isEmpty)=true)(h3:¬(items.size:Int)*x>(2^63-1)/8)(h4:¬Builtin.Tuple.tupleTooMany ((items.size:Int)*x)=true)(h5:(List.foldl (λx1 x2=>x1++x2) #[] (replicate x.toNat items)).size<=sizeLine):
 Meets (Builtin.«tuple.__mul__» ⟨[.ref l,.int x u],[]⟩) (λ_ R s=>s.heap.get? l=some {cls:=.type "tuple",dict:=dd,data:=.seq items n,slots:=sl}/\R (.ok (.ret (Value.ref s.heap.objs.size))) {s with heap:=s.heap.push {cls:=Value.type "tuple",data:=Data.seq (List.foldl (λx1 x2=>x1++x2) #[] (replicate x.toNat items))},toks:=s.toks}):=
 .of_wp λprog w A R s h=>by obtain⟨hp,g,d,tk,os⟩:=s;obtain⟨hl,h⟩:=h;have f1:=AutoSeq1.idx_int;wp_walk using wpAny_loadPart' hl;refine wpAny_ite_false (decide_eq_false h0) ?_;wp_walk using wpAny_loadPart' hl;refine wpAny_ite_false (decide_eq_false h3) ?_;wp_walk using wpAny_loadPart' hl;exact⟨_,rfl,h⟩
def l5(K:PySem.W.Frag):R2:=λx y H Q=>∃a xs k,x= .ref a/\y= .int k/\SqT K H a xs/\ -(2^63)<=k/\k<2^63/\xs.length*k.toNat<=sizeLine/\xs≠[]/\
 ∀p H',Same H H'->SqT K H' p (replicate k.toNat xs).flatten->Q (.ref p) H'
theorem yw:OpR X (binaryOp .Mult) (l5 X.K):=by
 intro pins s σ H x y v u Q I rx ry h
 obtain⟨a,xs,k,rfl,rfl,ha,h1,h2,hz,hx,q⟩:=h
 cases rx
 obtain⟨t,rfl⟩:=ry
 obtain⟨its,r1,p1,_⟩:=I.tuple ha
 obtain⟨⟨cls,dd,data,sl⟩,ho,hc,n,hd⟩:=id p1
 simp only at hc hd
 subst hc hd
 have hi:its≠[]:=λz=>hx (r1.nil_iff.mp z)
 have h0:¬(k< -(2^63) || k>=2^63)=true:=by simp;lia
 have hie:its.toArray.isEmpty=false:=by cases its with | nil=>exact absurd rfl hi | cons _ _=>rfl
 refine wpAny_binaryOp_repeat_ref (T:="tuple") (U:="int") (by decide) ⟨_,ho,rfl⟩ (λs'=>typeIs_int s' k t) lA F.fills_int_mul F.slot_int_rmul pI F.slot_int_index.lookup
  (call_meets F.slot_int_rmul (typeIs_int s k t) F.entry_int_rmul (F.args_int_rmul_2 _ _) (mQ k t a its.toArray n dd sl)
   ⟨ho,rfl,⟨_,ho,rfl⟩,?_⟩)
 by_cases k1:k=1
 ·subst k1
  refine call_meets F.slot_tuple_mul ⟨_,ho,rfl⟩ F.entry_tuple_mul (F.args_tuple_mul_2 _ _) (qO a its.toArray n dd sl 1 t h0 (by rw [hie];rfl)) ⟨ho,.ref a,H,I,rfl,q a H (Same.refl _) ?_⟩
  simpa using ha
 ·have c1:¬(its.toArray.isEmpty || k==1)=true:=by rw [hie];simpa using k1
  by_cases k0:k<=0
  ·refine call_meets F.slot_tuple_mul ⟨_,ho,rfl⟩ F.entry_tuple_mul (F.args_tuple_mul_2 _ _) (qN a its.toArray n dd sl k t h0 c1 (by rw [decide_eq_true k0];rfl)) ⟨ho,.ref s.heap.objs.size,_,I.laid (t':=s.toks) (o:=.tup []) (λb ob q=>get?_push_of_some _ q) (le_refl _) ⟨zero_le _,[],.nil,IsTup.new _ _⟩,rfl,q _ _ (bt (I.hok.fresh (le_refl _)) _) ?_⟩
   rw [show k.toNat=0 by lia]
   exact SqT.of aX
  ·have ln:=r1.length
   have hlen:its.toArray.size*k.toNat<=sizeLine:=by rw [size_toArray,<-ln];exact hz
   have hk:((its.toArray.size:Int)*k)=((its.toArray.size*k.toNat:Nat):Int):=by rw [Int.natCast_mul,Int.toNat_of_nonneg (by lia)]
   have c3:¬((its.toArray.size:Int)*k)>(2^63-1)/8:=by
    rw [hk]
    have:(sizeLine:Nat)<=(2^63-1)/8:=by decide
    lia
   have c4:¬Builtin.Tuple.tupleTooMany ((its.toArray.size:Int)*k)=true:=by
    unfold Builtin.Tuple.tupleTooMany
    rw [hk]
    intro z
    have:=of_decide_eq_true z
    lia
   have c2:¬(k<=0 || its.toArray.isEmpty)=true:=by rw [hie];simpa using k0
   have f0:=j6 its k.toNat []
   rw [nil_append] at f0
   have f1:List.foldl (λx1 x2=>x1++x2) #[] (replicate k.toNat its.toArray)=(replicate k.toNat its).flatten.toArray:=f0
   refine call_meets F.slot_tuple_mul ⟨_,ho,rfl⟩ F.entry_tuple_mul (F.args_tuple_mul_2 _ _) (qP a its.toArray n dd sl k t h0 c1 c2 c3 c4 (by rw [f1,size_toArray,mI,mul_comm,<-ln];exact hz)) ⟨ho,?_⟩
   rw [f1]
   exact⟨.ref s.heap.objs.size,_,I.laid (t':=s.toks) (o:=.tup (replicate k.toNat xs).flatten) (λb ob q=>get?_push_of_some _ q) (le_refl _) ⟨by rw [mI,mul_comm];exact hz,_,r1.rep k.toNat,IsTup.new _ _⟩,rfl,q _ _ (bt (I.hok.fresh (le_refl _)) _) (SqT.of aX)⟩
end
section
variable{prog:Program}{w:World}{A:Around}{E:Value->Shared->Prop}
abbrev ma(fs:Array Value):Obj:={cls:=.type "enumerate",dict:=none,data:=.fields fs,slots:= #[]}
theorem md{h:Heap}{g:Array GenState}{d:Drawn}{tk:Nat}{os:OsState}{e:Addr}{fs:Array Value}{k:Nat}{v:Value}{α:Type}{f:Unit->Sem α}{Q:α->Shared->Prop}(he:h.get? e=some (ma fs))(hk:k<fs.size)
 (q:∀h',h'.get? e=some (ma (fs.set! k v))->Heap.SameBut e h h'->wpAny (model prog w) A (f ()) Q E ⟨h',g,d,tk,os⟩):wpAny (model prog w) A (setField (.ref e) k v >>= f) Q E ⟨h,g,d,tk,os⟩:=
 wpAny_bind (wpAny_setField_rec he hk λh' he' hs'=>q h' he' hs')
theorem yx{s:Shared}{e it l:Addr}{i:Nat}{c:Int}{items:Array Value}{x old:Value}{Q:Option Value->Shared->Prop}(he:IsEnum s.heap e it c old)(hit:s.heap.IsListIter it l i)(hl:s.heap.IsList l items)(hx:items[i]? =some x)(hne:e≠it)
 (hQ:∀h',IsEnumOut h' e it (c+1) x s.heap.objs.size->h'.IsListIter it l (i+1)->h'.get? s.heap.objs.size=some {cls:=.type "tuple",data:=.seq #[.int c s.toks,x]}->h'.objs.size=s.heap.objs.size+1->
  (∀b o,b≠e->b≠it->s.heap.get? b=some o->h'.get? b=some o)->Q (some (.ref s.heap.objs.size)) {s with heap:=h',toks:=s.toks+1}):wpAny (model prog w) A (pyNext (.ref e)) Q E s:=by
 have hT:s.TypeIs (.ref e) "enumerate":=⟨_,he,rfl⟩
 unfold pyNext
 refine wpAny_bind (wpAny_attempt (wpAny_callSpecial?_slot (name:=Str.ofString "__next__") hT F.slot_enumerate_next (wpAny_call_entry F.slot_enumerate_next hT F.entry_enumerate_next ?_ (F.args_enumerate_next_1 _))))
 obtain⟨hp,g,d,tk,os⟩:=s
 have he0:hp.get? e=some (ma #[.none,.bool false,.ref it,rawInt c,.none,old]):=he
 have ne':it≠e:=Ne.symm hne
 have lt:e<hp.objs.size:=lt_size he0
 show wpAny _ _ (field (.ref e) 2 >>= _) _ _ _
 refine wpAny_bind (wpAny_field he0 rfl (x:=.ref it) rfl (wpAny_bind (wpAny_nextOf_list_item hit hl hx λh1 it1 (s1:Heap.SameBut it hp h1)=>?_)))
 have e1:=(s1.2 e hne).trans he0
 show wpAny _ _ (field (.ref e) 3 >>= _) _ _ ⟨h1,g,d,tk,os⟩
 refine wpAny_bind (wpAny_field e1 rfl (x:=rawInt c) rfl ?_)
 show wpAny _ _ (field (.ref e) 4 >>= _) _ _ ⟨h1,g,d,tk,os⟩
 refine wpAny_bind (wpAny_field e1 rfl (x:=.none) rfl ?_)
 show wpAny _ _ (mkInt c >>= _) _ _ ⟨h1,g,d,tk,os⟩
 refine wpAny_bind (wpAny_mkInt ?_)
 show wpAny _ _ (setField (.ref e) 3 (rawInt (c+1)) >>= _) _ _ ⟨h1,g,d,tk+1,os⟩
 refine md e1 (by simp) λh2 e2 s2=>md e2 (by simp) λh3 e3 s3=>wpAny_bind (wpAny_newTuple ?_)
 have z3:h3.objs.size=hp.objs.size:=by rw [s3.1,s2.1,s1.1]
 obtain⟨h4,e4⟩:∃h4,h4=h3.push {cls:=.type "tuple",data:=.seq #[.int c tk,x]}:=⟨_,rfl⟩
 have k4:∀b o,h3.get? b=some o->h4.get? b=some o:=λb o q=>by rw [e4];exact get?_push_of_some _ q
 have t4:h4.get? hp.objs.size=some {cls:=.type "tuple",data:=.seq #[.int c tk,x]}:=by rw [e4,<-z3];exact get?_push_size _ rfl
 have z4:h4.objs.size=hp.objs.size+1:=by rw [e4,size_push,z3]
 have r4:=k4 _ _ e3
 have i4:h4.IsListIter it l (i+1):=((it1.extBut s2.extBut ne').extBut s3.extBut ne').at λo q=>k4 _ o q
 show wpAny (model prog w) _ (Builtin.SmallTypes.ownedTupleIsFree (.ref e) >>= _) _ _ ⟨h3.push {cls:=.type "tuple",data:=.seq #[.int c tk,x]},g,d,tk+1,os⟩
 rw [<-e4,z3]
 unfold Builtin.SmallTypes.ownedTupleIsFree
 refine wpAny_bind (wpAny_bind (wpAny_field r4 rfl (x:=.none) rfl (wpAny_pure ?_)))
 simp only [if_true]
 refine wpAny_bind (wpAny_rule (wpAny_bind (wpAny_field r4 rfl (x:=old) rfl (md r4 (by simp) λh5 e5 s5=>?_))))
 unfold Builtin.SmallTypes.ownedTupleHandOut
 refine wpAny_bind (md e5 (by simp) λh6 e6 s6=>wpAny_setField_rec e6 (by simp) λh7 e7 s7=>wpAny_bind (wpAny_letGo (wpAny_pure ⟨_,rfl,wpAny_pure (hQ h7 e7 ?_ ?_ ?_ ?_)⟩)))
 ·exact((i4.extBut s5.extBut ne').extBut s6.extBut ne').extBut s7.extBut ne'
 ·have n:=ne_of_gt lt
  exact s7.extBut _ _ n (s6.extBut _ _ n (s5.extBut _ _ n t4))
 ·rw [s7.1,s6.1,s5.1,z4]
 ·exact λb o n1 n2 q=>s7.extBut b o n1 (s6.extBut b o n1 (s5.extBut b o n1 (k4 b o (s3.extBut b o n1 (s2.extBut b o n1 (s1.extBut b o n2 q))))))
end
open AutoSeq1 (wpAny_loadPart')
theorem Bs(l:Addr)(items:Array Value)(n:Nat)(dct:Option Addr)(sl:Array (Option Value))(t:Tok):
 Meets (Builtin.«enumerate.__new__» ⟨[.type "enumerate",.ref l],[("start",.int 1 t)]⟩) (λ_ R s=>s.heap.get? l=some {cls:=.type "list",dict:=dct,data:=.seq items n,slots:=sl}/\
  R (.ok (.ret (.ref (s.heap.push {cls:=.type "list_iterator",data:=.fields #[.ref l,.int 0 0]}).objs.size)))
   {s with heap:=(s.heap.push {cls:=.type "list_iterator",data:=.fields #[.ref l,.int 0 0]}).push (ma #[.none,.bool false,.ref s.heap.objs.size,rawInt 1,.none,.none])}):=
 .of_wp λprog w A R s h=>by
  obtain⟨hp,g,d,tk,os⟩:=s;obtain⟨hl,h⟩:=h
  have hsub:=sub_enumerate
  have f1:=AutoSeq1.idx_int
  have hL:Heap.IsList (Shared.heap ⟨hp,g,d,tk,os⟩) l items:=⟨_,hl,rfl,n,rfl⟩
  wp_walk using wpAny_loadPart' hl
  refine wpAny_stack_any λst=>wpAny_pure ?_
  split
  ·rename_i c _ _ _ _ _
   cases (c==Value.type "enumerate")
   ·wp_walk using wpAny_loadPart' hl,wpAny_pyIter_list hL
    exact⟨_,rfl,h⟩
   ·wp_walk using wpAny_loadPart' hl,wpAny_pyIter_list hL
    exact⟨_,rfl,h⟩
  ·wp_walk using wpAny_loadPart' hl,wpAny_pyIter_list hL
   exact⟨_,rfl,h⟩
theorem yy {T newId : String} {self x y : Value} {k : Str} (hl : typeLookup (.type T) "__init__" = pure (some (.builtin "object.__init__"))) (hm : Bind.madeBy (.type T) = pure (some newId)) (hne : (some newId != some "object.__new__") = true) :
    Meets (Builtin.«object.__init__» ⟨[self, x], [(k, y)]⟩) (fun _ R s => s.TypeIs self T ∧ R (.ok (.ret .none)) s) := by
  refine Meets.of_wp fun prog w A R s hs => ?_
  obtain ⟨hT, hq⟩ := hs
  repeat (any_goals (first | assumption | wp_step))
  exact ⟨_, rfl, hq⟩
section
variable{prog:Program}{w:World}{A:Around}{E:Value->Shared->Prop}{s:Shared}
theorem uO(a b c:Value):argsOk "object.__init__" ⟨[a,b],[("start",c)]⟩:=by
 unfold argsOk;rw [signature?_of (id:="object.__init__") (n:=['_','_','t','i','n','i','_','_']) (o:=['t','c','e','j','b','o']) (by kernel_rfl) F.owner_object];kernel_rfl
theorem uP(a:Value)(c:Value):checkTypeCall "enumerate" ⟨[a],[("start",c)]⟩=pure ():=by kernel_rfl
theorem uQ(a:Value)(c:Value):checkBuiltinCall "enumerate.__new__" ⟨[.type "enumerate",a],[("start",c)]⟩=pure ():=by kernel_rfl
theorem yz {T newId initId : String} {Bn Bi : Builtin} {args : List Value} {kw : List (Str × Value)} {S : PySem.Spec} {Q Q1 : Value → Shared → Prop} (ft : TypeCalled T newId initId) (ct : checkTypeCall T ⟨args, kw⟩ = pure ()) (cn : checkBuiltinCall newId ⟨.type T :: args, kw⟩ = pure ())
    (eN : entryFor table newId = some Bn) (eI : entryFor table initId = some Bi) (g : Meets (Bn ⟨.type T :: args, kw⟩) S) (h : S A.in1 (wants Q1 E) s)
    (nx : ∀ obj s1, Q1 obj s1 → s1.TypeIs obj T ∧ argsOk initId ⟨obj :: args, kw⟩ ∧ ∃ Si, Meets (Bi ⟨obj :: args, kw⟩) Si ∧ Si A.in1 (wants (fun r s2 => r = .none ∧ Q obj s2) E) s1) : wpAny (model prog w) A (call (.type T) args kw) Q E s := by
  obtain ⟨c, tl, hmro⟩ := ft.mro
  have a1 := ft.made
  have a2 := ft.sub
  have a3 := ft.notType
  have a4 := ft.canCreate
  refine wpAny_call (codeAny_of_tree ?_)
  show wpAny _ _ (callAny (.type T) _) _ _ _
  refine wpAny_pure ⟨Code.quiet_builtin _ (by decide +kernel), codeAny_builtin F.entry_type_call ?_⟩
  rw [Around.under_plain (weight_type_call_type T args kw) (units_type_call_type T args kw)]
  repeat (any_goals (first | assumption | wp_step))
  refine codeAny_mono (codeAny_call_builtin ft.plain eN (wpAny_of_eq cn (g prog w A.in1 _ s h))) fun r s1 hr => ?_
  rcases r with e | fl
  · exact hr
  · cases fl with
    | ret obj =>
      obtain ⟨hT, hok, Si, gi, hsi⟩ := nx _ _ hr
      have b1 := ft.init.lookup
      have b2 := ft.init.bind obj
      repeat (any_goals (first | assumption | wp_step))
      refine codeAny_mono (codeAny_call_builtin ft.init.plain eI (ft.init.check _ _ _ _ _ _ _ _ hT hok (gi prog w A.in1 _ s1 hsi))) fun r2 s2 hr2 => ?_
      rcases r2 with e | fl2
      · exact hr2
      · cases fl2 with
        | ret r =>
          obtain ⟨rfl, hq⟩ := hr2
          repeat (any_goals (first | assumption | wp_step))
        | _ => exact hr2.elim
    | _ => exact hr.elim
theorem yA{l:Addr}{items:Array Value}{t:Tok}{Q:Value->Shared->Prop}(hL:s.heap.IsList l items)
 (h:∀h',IsEnum h' (s.heap.objs.size+1) s.heap.objs.size 1 .none->h'.IsListIter s.heap.objs.size l 0->(∀b o,s.heap.get? b=some o->h'.get? b=some o)->Q (.ref (s.heap.objs.size+1)) {s with heap:=h'}):
 wpAny (model prog w) A (call (.type "enumerate") [.ref l] [("start",.int 1 t)]) Q E s:=by
 obtain⟨⟨c,dct,dt,sl⟩,hl,hc,n,hd⟩:=hL
 replace hc:c= .type "list":=hc
 replace hd:dt= .seq items n:=hd
 subst hc hd
 have z:(s.heap.push {cls:=.type "list_iterator",data:=.fields #[.ref l,.int 0 0]}).objs.size=s.heap.objs.size+1:=size_push ..
 refine yz (Q1:=λobj s1=>s1.TypeIs obj "enumerate"/\Q obj s1) F.called_enumerate (uP _ _) (uQ _ _) F.entry_enumerate_new F.entry_object_init (Bs l items n dct sl t) ⟨hl,?_⟩ λobj s1 hq=>⟨hq.1,uO _ _ _,_,yy F.called_enumerate.init.lookup F.called_enumerate.made (by decide),hq.1,rfl,hq.2⟩
 have e:IsEnum ((s.heap.push {cls:=.type "list_iterator",data:=.fields #[.ref l,.int 0 0]}).push (ma #[.none,.bool false,.ref s.heap.objs.size,rawInt 1,.none,.none])) (s.heap.objs.size+1) s.heap.objs.size 1 .none:=by
  rw [<-z];exact get?_push_size _ rfl
 show _/\_
 rw [z]
 exact⟨⟨_,e,rfl⟩,h _ e ⟨_,get?_push_of_some _ (get?_push_size _ rfl),rfl,rfl⟩ λb o q=>get?_push_of_some _ (get?_push_of_some _ q)⟩
end
end L2
namespace L2
open PySem PySem.Spec PyProof.Rows
section
variable{prog:Program}{w:World}{A:Around}{E:Value->Shared->Prop}{s:Shared}
theorem Bt{e it l:Addr}{i:Nat}{c:Int}{items:Array Value}{old:Value}{Q:Option Value->Shared->Prop}(hh:A.handled=none)(he:IsEnum s.heap e it c old)(hit:s.heap.IsListIter it l i)(hl:s.heap.IsList l items)(hx:items[i]? =none)
 (hQ:∀h',Heap.ExtBut it s.heap h'->Q none {s with heap:=h'}):wpAny (model prog w) A (pyNext (.ref e)) Q E s:=by
 have hT:s.TypeIs (.ref e) "enumerate":=⟨_,he,rfl⟩
 unfold pyNext
 refine wpAny_bind (wpAny_attempt (wpAny_callSpecial?_slot (name:=Str.ofString "__next__") hT F.slot_enumerate_next (wpAny_call_entry F.slot_enumerate_next hT F.entry_enumerate_next ?_ (F.args_enumerate_next_1 _))))
 show wpAny _ _ (field (.ref e) 2 >>= _) _ _ _
 refine wpAny_bind (wpAny_field he rfl (x:=.ref it) rfl (wpAny_bind (wpAny_nextOf_list_end hh hit hl hx λh' x g ⟨o,ho,hc⟩=>?_)))
 exact wpAny_bind (wpAny_isInstance (T:="StopIteration") (b:=true) ⟨o,ho,hc⟩ isSubtype_stop (wpAny_pure (hQ _ g)))
end
section
variable{M:Model}{A:Around}{E:Value->Shared->Prop}{s:Shared}{env:Env}
theorem pJ {pos : Pos} {T : String} {e : Expr} {kws : List Keyword} {Q : Value → Shared → Prop}
    (h : wpAny M A (spliced (backTo pos (starEach [e] env))) (fun vs s1 => wpAny M A (evalAll ((backToKw pos (keywordEach kws env)).map (·.2))) (fun ks s2 => wpAny M A (call (.type T) vs (((backToKw pos (keywordEach kws env)).filterMap (·.1)).zip ks)) Q E s2) E s1) E s)
    (he : starEach [e] env = [(false, eval e env)] := by rfl) (hall : (backToKw pos (keywordEach kws env)).all (·.1.isSome) = true := by rfl) (hkw : (backToKw pos (keywordEach kws env)).any (·.1.isNone) = false := by rfl) :
    wpAny M A (callWith pos (.type T) [] (backTo pos (starEach [e] env)) (backToKw pos (keywordEach kws env))) Q E s := by
  rw [he] at h ⊢
  unfold callWith
  refine wpAny_bind (wpAny_holding (wpAny_mono (evalArgs_kwB (Q := fun a s1 => wpAny M A (call (.type T) a.pos a.kw) Q E s1) hall h) (fun a s1 h1 => wpAny_bind (wpAny_standAt ?_)) fun _ _ x => x))
  have hp : (backTo pos [(false, eval e env)]).any (·.1) = false := rfl
  simp only [hp, hkw, Bool.or_false]
  refine wpAny_bind (wpAny_pure ?_)
  exact wpAny_bind (wpAny_mono h1 (fun r s2 hr => wpAny_bind (wpAny_holding (wpAny_point (wpAny_pure hr)))) fun _ _ x => x)
end
def pK(K:PySem.W.Frag)(a:Addr):It:=
 ⟨λi H=>∃xs x,SqL K H a xs/\xs[i]? =some x,λi H v H'=>∃p x,v= .ref p/\H p=none/\Same H H'/\H' p=some (.tup [.int ((i:Int)+1),x])/\∀xs,SqL K H a xs->xs[i]? =some x,λi H=>∃xs,SqL K H a xs/\xs.length<=i⟩
theorem sX{P:Program}{w:World}{K:PySem.W.Frag}{elts:List Expr}{kk:Nat}{tpos:Pos}(a e it:Addr)(hne:e≠it):
 kY P w K (.Tuple elts kk tpos) (pK K a) [e,it] e (λi h=>(∃old,IsEnum h e it ((i:Int)+1) old)/\h.IsListIter it a i) where
 mem:=by simp
 obj:=λi h st b hb=>by
  obtain⟨⟨old,he⟩,o,ho,c,d⟩:=st
  rcases List.mem_cons.mp hb with rfl | hb
  ·exact⟨_,he,λv z=>by
    have z':Data.fields _=Data.cell v:=z
    cases z'⟩
  ·obtain rfl:=List.mem_singleton.mp hb
   exact⟨o,ho,λv z=>by rw [d] at z;cases z⟩
 keep:=λi h h' ⟨⟨old,he⟩,hit⟩ k=>⟨⟨old,k e (by simp) _ he⟩,hit.at λo q=>k it (by simp) o q⟩
 item:=by
  intro X hP hw hK hc i pins s σ H E I hf st hg
  subst hP hw hK
  obtain⟨xs,x,hq,hx⟩:=hg
  obtain⟨⟨old,he⟩,hit⟩:=st
  obtain⟨its,rv,p,hz⟩:=I.list hq
  obtain⟨u,hu,ru⟩:=rv.get hx
  refine yx he hit p.isList (x:=u) (by simpa using hu) hne λh' ho hit' hT hsz hk=>?_
  refine⟨_,rfl,wpAny_letOwnedTupleGo_enum ho λh'' he'' hs=>?_⟩
  have helt:e<s.heap.objs.size:=lt_size he
  have hilt:it<s.heap.objs.size:=by obtain⟨_,q,_⟩:=hit;exact lt_size q
  have I1:Inv X pins σ (upd H s.heap.objs.size (.tup [.int ((i:Int)+1),x])) {s with heap:=s.heap.push {cls:=.type "tuple",data:=.seq #[.int ((i:Int)+1) s.toks,u]},toks:=s.toks+1}:=
   I.laid (λb o q=>get?_push_of_some _ q) (le_refl _) ⟨by show 2<=sizeLine;decide,[.int ((i:Int)+1) s.toks,u],.cons ⟨_,rfl⟩ (.cons ru .nil),⟨_,get?_push_size _ rfl,rfl,_,rfl⟩⟩
  have hf':∀b∈[e,it],cW X pins (upd H s.heap.objs.size (.tup [.int ((i:Int)+1),x])) b:=λb hb=>by
   have lt:b<s.heap.objs.size:=by
    rcases List.mem_cons.mp hb with rfl | hb
    ·exact helt
    ·obtain rfl:=List.mem_singleton.mp hb
     exact hilt
   refine⟨?_,(hf b hb).2⟩
   rw [aO (ne_of_lt lt)]
   exact(hf b hb).1
  have I2:Inv X pins σ (upd H s.heap.objs.size (.tup [.int ((i:Int)+1),x])) {s with heap:=h'',toks:=s.toks+1}:=I1.turnedL (t':=s.toks+1) (λb o hb q=>by
   have n1:b≠e:=λz=>hb (by simp [z])
   have n2:b≠it:=λz=>hb (by simp [z])
   refine(hs.2 b n1).trans ?_
   by_cases hbT:b=s.heap.objs.size
   ·subst hbT
    have q':(s.heap.push {cls:=.type "tuple",data:=.seq #[.int ((i:Int)+1) s.toks,u]}).get? s.heap.objs.size=some o:=q
    rw [get?_push_size _ rfl] at q'
    cases q'
    exact hT
   ·have q':(s.heap.push {cls:=.type "tuple",data:=.seq #[.int ((i:Int)+1) s.toks,u]}).get? b=some o:=q
    rw [Heap.get?_push_ne _ _ _ hbT] at q'
    exact hk b o n1 n2 q') hf'
  refine⟨.ref s.heap.objs.size,_,I2,rfl,⟨_,x,rfl,I.hok.fresh (le_refl _),bt (I.hok.fresh (le_refl _)) _,aX,λys hy=>by rw [I.list_inj hy hq];exact hx⟩,⟨⟨_,by simpa using he''⟩,?_⟩,λb hb=>(hf' b hb).1⟩
  exact hit'.at λo q=>(hs.2 it hne.symm).trans q
 done := by
   intro X hP hw hK hc i pins s σ H E I hf st hg
   subst hP hw hK
   obtain⟨xs,hq,hx⟩:=hg
   obtain⟨⟨old,he⟩,hit⟩:=st
   obtain⟨its,rv,p,hz⟩:=I.list hq
   obtain⟨f0,f1,f2,f3,f4,f5⟩:=hf it (by simp)
   have hl:=rv.length
   exact Bt (I.ok.hd hc) he hit p.isList (by simp;lia) λh' eb=>⟨rfl,I.turned (t':=s.toks) (λb o hb e=>eb b o hb e) f0 f1 f3 f4 f5⟩
 self:=λ_ _ _ _ _ st h=>by
  obtain⟨⟨old,he⟩,_⟩:=st
  exact wpAny_pyIter_enum he h
def uR(K:PySem.W.Frag)(ta:TA):TI:=λσ H R=>ta σ H λvs H1=>∃a,vs= [.ref a]/\(∃xs,SqL K H1 a xs)/\R (pK K a) H1
theorem ww{X:Cx}{a e1:Expr}{ta:TA}{p pos tpos kp:Pos}{elts:List Expr}{kk:Nat}(hg:Gl X "enumerate")(hm:X.mg "enumerate" =none)(ha:PA X [a] ta)(h1:PE X e1 (tC (.int 1)))(hs:starEach [a] X.env= [(false,eval a X.env)]:=by rfl):
 PI X (.Tuple elts kk tpos) (.Call (.Name "enumerate" p) [a] [⟨some "start",e1,kp⟩] pos) (uR X.K ta):=by
 intro pins s σ H R I h
 show wpAny _ _ (do callWith pos (<-eval (.Name "enumerate" p) X.env) [] (backTo pos (starEach [a] X.env)) (backToKw pos (keywordEach [⟨some "start",e1,kp⟩] X.env))) _ _ _
 refine wpAny_bind (gD I hg hm (show bootBuiltins "enumerate" =some (.type "enumerate") by decide +kernel) (pJ (thn (ha pos pins s σ H _ I h) λus s1 ⟨vs,H1,I1,r1,q1⟩=>?_) hs))
 refine kws_cons (thn (h1 pins s1 σ H1 (λv H2=>v= .int 1/\H2=H1) I1 ⟨rfl,rfl⟩) λu s2 ⟨v,H2,I2,r2,e2,e3⟩=>kws_nil ?_)
 subst e2 e3
 obtain⟨t,rfl⟩:=r2
 obtain⟨l,e,⟨xs,hq⟩,q⟩:=q1
 subst e
 cases r1 with
 | cons r rr=>
  cases rr
  cases r
  obtain⟨its,rv,pl,hz⟩:=I2.list hq
  refine yA pl.isList λh' hE hI hk=>?_
  refine wpAny_pyIter_enum hE ⟨s2.heap.objs.size+1,[s2.heap.objs.size+1,s2.heap.objs.size],_,_,H2,rfl,I2.kept (t':=s2.toks) hk,sX l _ _ (Nat.succ_ne_self _),⟨⟨_,by simpa using hE⟩,hI⟩,λb hb=>?_,q⟩
  have le:s2.heap.objs.size<=b:=by
   rcases List.mem_cons.mp hb with rfl | hb
   ·lia
   ·obtain rfl:=List.mem_singleton.mp hb
    lia
  exact I2.fpOk le (I2.hok.fresh le)
theorem uS{K:PySem.W.Frag}{g:TG}{tb:TS}{D:Ends}{σ:St}{H1:Hp}{a:Addr}(xs:List V)(Pv:Nat->St->Hp->Prop)(h0:Pv 0 σ H1)
 (hl:∀i σ H,i<=xs.length->Pv i σ H->SqL K H a xs)
 (hs:∀i x σ H p H',xs[i]? =some x->Pv i σ H->H p=none->Same H H'->H' p=some (.tup [.int ((i:Int)+1),x])->g (.ref p) σ H' λσ2 H2=>tb {D with nx:=Pv (i+1),ct:=Pv (i+1),bk:=D.nx} σ2 H2)
 (hd:∀σ H,Pv xs.length σ H->D.nx σ H):∃W:Nat->Nat->St->Hp->Prop,(∃m,W 0 m σ H1)/\∀i m σ H,W i m σ H->
  ((pK K a).stop i H/\D.nx σ H)\/((pK K a).go i H/\∃N:St->Hp->Prop,(∀σ' H',N σ' H'->∃m',m'<m/\W (i+1) m' σ' H')/\∀x H',(pK K a).yld i H x H'->g x σ H' λσ2 H2=>tb {D with nx:=N,ct:=N,bk:=D.nx} σ2 H2):=by
 refine⟨λi m σ H=>m=xs.length-i/\i<=xs.length/\Pv i σ H,⟨xs.length,by simp,zero_le _,h0⟩,?_⟩
 rintro i m σ H ⟨rfl,hi,p⟩
 have q:=hl i σ H hi p
 by_cases hlt:i<xs.length
 ·refine .inr ⟨⟨xs,xs[i],q,getElem?_eq_getElem hlt⟩,Pv (i+1),λσ' H' p'=>⟨xs.length-(i+1),by lia,rfl,hlt,p'⟩,λv H' y=>?_⟩
  obtain⟨pp,x,rfl,hn,sm,hp,hx⟩:=y
  exact hs i x σ H pp H' (hx xs q) p hn sm hp
 ·have e:i=xs.length:=by lia
  subst e
  exact .inl ⟨⟨xs,q,le_refl _⟩,hd σ H p⟩
section
variable{prog:Program}{w:World}{A:Around}{E:Value->Shared->Prop}{s:Shared}
theorem uT {T newId initId : String} {args : List Value} {kw : List (Str × Value)} {Q Q1 : Value → Shared → Prop} (ft : TypeCalled T newId initId) (ct : checkTypeCall T ⟨args, kw⟩ = pure ())
    (hN : codeAny (model prog w) A.in1 (.call (.builtin newId) ⟨.type T :: args, kw⟩) (wants Q1 E) s)
    (hI : ∀ obj s1, Q1 obj s1 → s1.TypeIs obj T ∧ codeAny (model prog w) A.in1 (.call (.builtin initId) ⟨obj :: args, kw⟩) (wants (fun r s2 => r = .none ∧ Q obj s2) E) s1) : wpAny (model prog w) A (call (.type T) args kw) Q E s := by
  obtain ⟨c, tl, hmro⟩ := ft.mro
  have a1 := ft.made
  have a2 := ft.sub
  have a3 := ft.notType
  have a4 := ft.canCreate
  refine wpAny_call (codeAny_of_tree ?_)
  show wpAny _ _ (callAny (.type T) _) _ _ _
  refine wpAny_pure ⟨Code.quiet_builtin _ (by decide +kernel), codeAny_builtin F.entry_type_call ?_⟩
  rw [Around.under_plain (weight_type_call_type T args kw) (units_type_call_type T args kw)]
  repeat (any_goals (first | assumption | wp_step))
  refine codeAny_mono hN fun r s1 hr => ?_
  rcases r with e | fl
  · exact hr
  · cases fl with
    | ret obj =>
      obtain ⟨hT, hi⟩ := hI _ _ hr
      have b1 := ft.init.lookup
      have b2 := ft.init.bind obj
      repeat (any_goals (first | assumption | wp_step))
      refine codeAny_mono hi fun r2 s2 hr2 => ?_
      rcases r2 with e | fl2
      · exact hr2
      · cases fl2 with
        | ret r =>
          obtain ⟨rfl, hq⟩ := hr2
          repeat (any_goals (first | assumption | wp_step))
        | _ => exact hr2.elim
    | _ => exact hr.elim
end
def met{K:Type}[DecidableEq K](val:Nat->K):Nat->K->Bool
 | 0,_=>false
 | i+1,k=>met val i k || decide (k=val i)
def fD{K:Type}[DecidableEq K](val:Nat->K):Nat->Nat
 | 0=>0
 | i+1=>if met val i (val i) then fD val i else fD val i+1
theorem kF{K:Type}[DecidableEq K](val:Nat->K)(i:Nat):fD val i<=i:=by
 induction i with
 | zero=>exact le_refl _
 | succ i ih=>unfold fD;split<;>lia
theorem rE{K:Type}[DecidableEq K](val:Nat->K)(i:Nat)(k:K):met val i k=true↔∃j<i,val j=k:=by
 induction i with
 | zero=>simp [met]
 | succ i ih=>
  unfold met
  rw [or_eq_true,ih,decide_eq_true_eq]
  constructor
  ·rintro(⟨j,h,e⟩ | e)
   ·exact⟨j,by lia,e⟩
   ·exact⟨i,by lia,e.symm⟩
  ·rintro⟨j,h,e⟩
   by_cases c:j=i
   ·subst c;exact .inr e.symm
   ·exact .inl ⟨j,by lia,e⟩
theorem yB{K:Type}[DecidableEq K](val:Nat->K)(n:Nat):fD val n=n↔∀i<n,∀j<i,val j≠val i:=by
 induction n with
 | zero=>simp [fD]
 | succ n ih=>
  have le:=kF val n
  unfold fD
  constructor
  ·intro h
   split at h
   ·lia
   ·rename_i c
    have e:fD val n=n:=by lia
    intro i hi j hj
    by_cases ci:i=n
    ·subst ci
     intro z
     exact c ((rE val i (val i)).mpr ⟨j,hj,z⟩)
    ·exact ih.mp e i (by lia) j hj
  ·intro h
   have e:=ih.mpr λi hi j hj=>h i (by lia) j hj
   rw [if_neg,e]
   intro z
   obtain⟨j,hj,z⟩:=(rE val n (val n)).mp z
   exact h n (by lia) j hj z
section
variable{prog:Program}{w:World}{A:Around}{R:Result->Shared->Prop}{I:Addr}{fp wr:List Addr}{G:Array GenState->Array GenState->Prop}{n:Nat}{P:Nat->Value->Prop}{St:Nat->Shared->Prop}{K:Type}[DecidableEq K]{knd:PySem.KeyKind prog w K}
theorem pL{h h':Heap}{a:Addr}{S:K->Bool}{m:Nat}(hS:h.SetOf knd a S m)(k:∀o,h.get? a=some o->h'.get? a=some o):h'.SetOf knd a S m:=by
 obtain⟨o,es,ep,t,ho,rest⟩:=hS
 exact⟨o,es,ep,t,k _ ho,rest⟩
theorem wx(W:WalksS prog w A.in1 I fp wr G n P St)(S:Addr)(hSf:S∉fp)(val:Nat->K)(hval:∀i v,P i v->knd.is (val i) v=true/\v.scannable=true)(hb:n+1<scanBound):
 ∀(k i:Nat) (s:Shared),i+k=n->St i s->s.heap.SetOf knd S (met val i) (fD val i)->
  (∀s',Moved (S::wr) G s s'->s'.heap.SetOf knd S (met val n) (fD val n)->R (.ok (.ret .none)) s')->codeAny (model prog w) A (.builtin "set.update.loop" ⟨[.ref S,.ref I],[]⟩) R s:=by
 have hSw:S∉wr:=λh=>hSf (W.sub _ h)
 have up:∀b∈wr,b∈S::wr:=λb hb=>mem_cons_of_mem _ hb
 intro k
 induction k with
 | zero=>
  intro i s hk st hS hR
  obtain rfl:i=n:=hk
  refine codeAny_builtin PyProof.Rows.F.entry_set_update_loop ?_
  rw [Around.under_plainId PyProof.Rows.F.plain_set_update_loop _]
  show wpAny _ A.in1 (pyNext (.ref I) >>= _) _ _ s
  exact wpAny_bind (W.done s _ _ st λs' hm=>wpAny_pure (hR s' (hm.mono up) (pL hS λo e=>hm.heap S o hSw e)))
 | succ k ih=>
  intro i s hk st hS hR
  refine codeAny_builtin PyProof.Rows.F.entry_set_update_loop ?_
  rw [Around.under_plainId PyProof.Rows.F.plain_set_update_loop _]
  show wpAny _ A.in1 (pyNext (.ref I) >>= _) _ _ s
  refine wpAny_bind (W.item i s _ _ (by lia) st λv s1 hP st1 hm=>?_)
  obtain⟨kv,sc⟩:=hval i v hP
  have hS1:=pL (h':=s1.heap) hS λo e=>hm.heap S o hSw e
  show wpAny _ A.in1 (holding [v] (setAdd S v) >>= _) _ _ s1
  unfold setAdd
  refine wpAny_bind (wpAny_holding (wpAny_holding (wpAny_bind (knd.pyHash kv ?_))))
  have room:fD val i+1<scanBound:=by have:=kF val i;lia
  refine wpAny_setAddHashed_of (s:={s1 with toks:=s1.toks+1}) kv sc hS1 room λh' sb hS2=>?_
  refine wpAny_pure ⟨plainId_quiet PyProof.Rows.F.plain_set_update_loop _,ih (i+1) _ (by lia) (W.frame _ s1 _ _ st1 (le_succ _) λb hb o e=>?_) hS2 λs2 hm2 hS3=>?_⟩
  ·rw [sb.2 b (λz:b=S=>hSf (by rw [<-z];exact hb))];exact e
  ·refine hR s2 (Moved.trans W.gtrans ((hm.mono up).then_heap (le_succ _) λb o hb e=>?_) hm2) hS3
   rw [sb.2 b (λz:b=S=>hb (by rw [z];exact mem_cons_self))];exact e
end
section
variable{prog:Program}{w:World}{A:Around}{E:Value->Shared->Prop}{s:Shared}{K:Type}[DecidableEq K]{knd:PySem.KeyKind prog w K}
abbrev dW(led:Bool):Obj:={cls:=.type "set",dict:=none,data:=.set #[] 0 (.fresh 0 0 led)}
theorem wy{l:Addr}{items:Array Value}{val:Nat->K}{Q:Value->Shared->Prop}(hh:A.handled=none)(hl:s.heap.IsList l items)(hval:∀i v,items[i]? =some v->knd.is (val i) v=true/\v.scannable=true)(hb:items.size+1<scanBound)
 (h:∀(h':Heap) (tk:Nat),h'.SetOf knd s.heap.objs.size (met val items.size) (fD val items.size)->(∀b o,s.heap.get? b=some o->h'.get? b=some o)->Q (.ref s.heap.objs.size) {s with heap:=h',toks:=tk}):
 wpAny (model prog w) A (call (.type "set") [.ref l]) Q E s:=by
 refine uT (Q1:=λobj s1=>∃led:Bool,obj= .ref s.heap.objs.size/\s1={s with heap:=s.heap.push (dW led)}) PySem.F.called_set (PySem.F.typeCall_set_1 (.ref l)) (code_set_new_1 (.ref l) λled=>⟨led,rfl,rfl⟩) ?_
 rintro _ _ ⟨led,rfl,rfl⟩
 have hS:(s.heap.push (dW led)).get? s.heap.objs.size=some (dW led):=get?_push_size _ rfl
 have hT:Shared.TypeIs {s with heap:=s.heap.push (dW led)} (.ref s.heap.objs.size) "set":=⟨_,hS,rfl⟩
 refine⟨hT,codeAny_call_builtin PySem.F.called_set.init.plain PySem.F.entry_set_init (check_set_init_1 hT ?_)⟩
 obtain⟨⟨cl,dd,dt,sl⟩,ho,hc,n,hd⟩:=id hl
 simp only at hc hd
 subst hc hd
 have lt:l<s.heap.objs.size:=lt_size ho
 have ho':(s.heap.push (dW led)).get? l=some {cls:=.type "list",dict:=dd,data:=.seq items n,slots:=sl}:=get?_push_of_some _ ho
 have hl':(s.heap.push (dW led)).IsList l items:=⟨_,ho',rfl,n,rfl⟩
 have f1:=PySem.F.sub_list_set
 have f2:=PySem.F.sub_list_frozenset
 have f3:(Value.type "list" ==Value.type "dict")=false:=by decide
 unfold Builtin.«set.__init__» noKeywords Builtin.Frozenset.updateFrom
 generalize ei:pyIter=it
 wp_walk
 subst ei
 have z:(s.heap.push (dW led)).objs.size=s.heap.objs.size+1:=size_push ..
 have hh3:A.in1.in1.in1.handled=none:=by simp [hh]
 have n1:l≠(s.heap.push (dW led)).objs.size:=by rw [z];exact ne_of_lt (lt_succ_of_lt lt)
 have n2:s.heap.objs.size∉[(s.heap.push (dW led)).objs.size,l]:=by
  rw [z];simp only [mem_cons,not_mem_nil,or_false,not_or];exact⟨ne_of_lt (Nat.lt_succ_self _),ne_of_gt lt⟩
 refine wpAny_pyIter_list hl' (wpAny_bind (wpAny_runValue ?_))
 refine wx ((Walks.list hh3 _ l n1 items).toS) s.heap.objs.size n2 val hval hb items.size 0 _ (zero_add _) ⟨⟨_,get?_push_size _ rfl,rfl,rfl⟩,hl'.push _⟩ ?_ λs' hm hS'=>?_
 ·have hg:((s.heap.push (dW led)).push {cls:=.type "list_iterator",data:=.fields #[.ref l,.int 0 0]}).get? s.heap.objs.size=some (dW led):=get?_push_of_some _ hS
  exact(setObjOf_fresh (knd:=knd) led).setOf hg (by unfold scanBound;lia)
 ·obtain⟨h',g',d',tk',os'⟩:=s'
  have eg:g'=s.gens:=hm.gens
  have ed:d'=s.drawn:=hm.drawn
  have eo:os'=s.os:=hm.os
  subst eg ed eo
  show wpAny _ _ _ _ _ _
  refine wpAny_pure ?_
  show wpAny _ _ (ret Value.none) _ _ _
  refine wpAny_pure ⟨rfl,h h' tk' hS' λb o e=>?_⟩
  have bl:b<s.heap.objs.size:=lt_size e
  exact hm.heap b o (by rw [z];simp only [mem_cons,not_mem_nil,or_false,not_or];exact⟨ne_of_lt bl,ne_of_lt (lt_succ_of_lt bl)⟩) (get?_push_of_some _ (get?_push_of_some _ e))
end
section
variable{X:Cx}
def jp(ta:TA):TE:=λσ H Q=>ta σ H λvs H1=>∃(l:Addr) (ts:List Str),vs= [.ref l]/\H1 l=some (.lst (ts.map V.str))/\ts.length<=1000/\Q (.int ((fD (λi=>ts.getD i "") ts.length:Nat):Int)) H1
theorem uU{a:Expr}{ta:TA}{p1 p2 pos1 pos2:Pos}(hc:X.calm=true)(hgl:Gl X "len")(hml:X.mg "len" =none)(hgs:Gl X "set")(hms:X.mg "set" =none)(ha:PA X [a] ta)(hs:starEach [a] X.env= [(false,eval a X.env)]:=by rfl):
 PE X (.Call (.Name "len" p1) [.Call (.Name "set" p2) [a] [] pos2] [] pos1) (jp ta):=by
 intro pins s σ H Q I h
 refine Call_ (gD I hgl hml PySem.boot_len (Calls.callWith_builtin rfl (Calls.evalArgs_plain (Calls.spliced_cons ?_))))
 refine Call_ (gD I hgs hms (show bootBuiltins "set" =some (.type "set") by decide +kernel) (PyProof.Rows.callWith_type1 (thn (ha pos2 pins s σ H _ I h) λus s1 ⟨vs,H1,I1,r1,l,ts,e,hl,hz,q⟩=>?_) hs rfl))
 subst e
 cases r1 with
 | cons r rr=>
  cases rr
  cases r
  obtain⟨its,rv,pl,_⟩:=I1.list (SqL.of hl)
  have ln:=rv.length
  rw [length_map] at ln
  refine wy (knd:=strKind X.prog X.w) (val:=λi=>ts.getD i "") (I1.ok.hd hc) pl.isList (λi v hv=>?_) (by rw [size_toArray,<-ln];unfold scanBound;lia) λh' tk hS hk=>?_
  ·rw [List.getElem?_toArray] at hv
   have hi:i<ts.length:=by rw [ln];exact(List.getElem?_eq_some_iff.mp hv).1
   obtain⟨u,hu,ru⟩:=rv.get (i:=i) (x:=.str ts[i]) (by rw [getElem?_map,getElem?_eq_getElem hi];rfl)
   rw [hu] at hv
   cases hv
   obtain⟨t,rfl⟩:=ru
   rw [getD_eq_getElem?_getD,getElem?_eq_getElem hi]
   exact⟨PySem.strKind_is _ _ _ _,rfl⟩
  ·refine Calls.spliced_nil ?_
   rw [show its.toArray.size=ts.length by rw [size_toArray,<-ln]] at hS
   obtain⟨o,es,ep,tb,ho,hex,hd,_,_,hb,hf,en⟩:=hS
   have le:es.size<=1000:=by rw [en];exact le_trans (kF _ _) hz
   refine call_len_set ho hex hd hf (by lia) ⟨.int es.size,H1,(I1.kept (t':=tk+1+1) hk),⟨_,rfl⟩,?_⟩
   rw [en]
   exact q
def me:List V->Hp->VK->Prop:=λxs H Q=>∃(p:Addr) (ns:List Int),xs= [.ref p]/\H p=some (.lst (ns.map V.int))/\0<ns.length/\∀M:Int,M∈ns->(∀a∈ns,a<=M)->Q (.int M) H
theorem uV(hc:X.calm=true):cy X (.builtin "max") me:=by
 intro pins s σ H xs us Q I r h
 obtain⟨p,ns,rfl,hp,hne,q⟩:=h
 obtain⟨u,rfl,ru⟩:=eV r
 cases ru
 obtain⟨its,rv,pl,hz⟩:=I.list (SqL.of hp)
 have hi:=pA rv
 obtain⟨xs,hx⟩:=hi.allInts.items
 have hl:s.heap.IsList p (intItems xs):=hx▸pl.isList
 have hns:ns=xs.toList.map (·.1):=by
  rw [<-nums_intItems,<-hx]
  exact(show numsOf its.toArray.toList=ns from hi.numsOf).symm
 have hsz:0<xs.size:=by
  have h3:=hne;rw [hns,length_map,Array.length_toList] at h3;exact h3
 refine max_intList (I.ok.hd hc) hl hsz λv h' tk hv hk=>?_
 obtain⟨t,rfl⟩:=intItems_at hv
 obtain⟨h1,h2⟩:=argBest_gt (numAt xs) (xs.size-1)
 refine⟨.int _,H,I.kept hk,⟨t,rfl⟩,q _ ?_ λa ha=>?_⟩
 ·rw [hns,numAt_eq];exact getD_mem (by rw [length_map,Array.length_toList];lia)
 ·rw [hns] at ha
  obtain⟨j,hj,rfl⟩:=mem_getD ha
  rw [length_map,Array.length_toList] at hj
  rw [<-numAt_eq];exact h2 j (by lia)
end
section
variable{X:Cx}{a:Expr}{ta:TE}{pos:Pos}
def mf(ta:TE):TE:=λσ H Q=>ta σ H λx H1=>∃l xs,x= .ref l/\H1 l=some (.lst xs)/\Q (.bl xs.isEmpty) H1
theorem rF(ha:PE X a ta):PE X (.UnaryOp .Not a pos) (mf ta):=by
 intro pins s σ H Q I h
 refine UnaryOp_ (thn (ha pins s σ H _ I h) λv s1 ⟨x,H1,I1,r1,q1⟩=>?_)
 obtain⟨l,xs,rfl,hl,q1⟩:=q1
 refine not_of (thn (uh pins s1 σ H1 (.ref l) v (λk H2=>Q (.bl (!k)) H2) I1 r1 ⟨!xs.isEmpty,?_,by show Q (.bl (!!xs.isEmpty)) H1;rw [not_not];exact q1⟩) λk s2 ⟨H2,I2,q2⟩=>?_)
 ·exact .inl ⟨xs,SqL.of hl,rfl⟩
 ·exact⟨.bl (!k),H2,I2,rfl,q2⟩
end
end L2
namespace HD
open PySem PySem.W
def uW{α:Type}(v:Obj)(k:BT->α)(l r:BT):α:=k (.node v l r)
def uX{α:Type}(v:Obj)(k:BT->α)(fr:(BT->α)->α)(l:BT):α:=fr (uW v k l)
noncomputable def jq{α:Type}(t:BT):(BT->α)->α:=
 @BT.rec (λ_=>(BT->α)->α) (λk=>k .nil) (λv _ _ fl fr k=>fl (uX v k fr)) t
theorem ke{α:Type}:∀(t:BT) (k:BT->α),jq t k=k t
 | .nil,_=>rfl
 | .node v l r,k=>by
  show jq l (uX v k (jq r))=_
  rw [ke l]
  show jq r (uW v k l)=_
  rw [ke r]
  rfl
noncomputable def kf{α:Type}(n:Nat)(k:Nat->α):α:= @Nat.rec (λ_=>α) (k 0) (λm _=>k (m+1)) n
theorem nO{α:Type}(n:Nat)(k:Nat->α):kf n k=k n:=by cases n<;>rfl
def rG{α:Type}(k:SharedT->α)(life:Life)(gens:Array GenState)(drawn:Drawn)(os:OsState)(n toks:Nat)(t:BT):α:=k ⟨t,n,life,gens,drawn,toks,os⟩
noncomputable def putT{α:Type}(k:SharedT->α)(t:BT)(life:Life)(gens:Array GenState)(drawn:Drawn)(os:OsState)(n toks:Nat):α:=jq t (rG k life gens drawn os n toks)
noncomputable def Bu{α:Type}(k:SharedT->α)(t:BT)(life:Life)(gens:Array GenState)(drawn:Drawn)(os:OsState)(toks n:Nat):α:=kf toks (putT k t life gens drawn os n)
noncomputable def kg{α:Type}(s:SharedT)(k:SharedT->α):α:=match s with
 | ⟨t,n,life,gens,drawn,toks,os⟩=>kf n (Bu k t life gens drawn os toks)
theorem nP{α:Type}(s:SharedT)(k:SharedT->α):kg s k=k s:=by
 obtain⟨t,n,life,gens,drawn,toks,os⟩:=s
 show kf n (Bu k t life gens drawn os toks)=_
 rw [nO]
 show kf toks (putT k t life gens drawn os n)=_
 rw [nO]
 show jq t (rG k life gens drawn os n toks)=_
 rw [ke]
 rfl
section
variable(thr ok:Thread->Bool)(st:SharedT->Thread->Option (SharedT×Thread))
def mi(ih:SharedT->Thread->Option (Bool×SharedT×Thread))(s:SharedT)(t:Thread):Option (Bool×SharedT×Thread):=match thr t with
 | true=>some (true,s,t)
 | false=>match ok t with
  | false=>none
  | true=>match st s t with
   | some (s',t')=>ih s' t'
   | none=>none
noncomputable def pM(n:Nat):SharedT->Thread->Option (Bool×SharedT×Thread):=
 @Nat.rec (λ_=>SharedT->Thread->Option (Bool×SharedT×Thread)) (λs t=>some (false,s,t)) (λ_ ih=>mi thr ok st ih) n
def Bv{α:Type}(k:SharedT->α)(s:SharedT):Option α:=some (k s)
def Bw{α:Type}(ih:SharedT->Thread->Option α)(t:Thread)(s:SharedT):Option α:=ih s t
noncomputable def sY{α:Type}(m:Nat)(k:SharedT->α)(ih:SharedT->Thread->Option α)(s:SharedT)(t:Thread):Option α:=
 match pM thr ok st m s t with
  | some (true,s',_)=>kg s' (Bv k)
  | some (false,s',t')=>kg s' (Bw ih t')
  | none=>none
noncomputable def wz{α:Type}(m:Nat)(k:SharedT->α)(n:Nat):SharedT->Thread->Option α:=
 @Nat.rec (λ_=>SharedT->Thread->Option α) (λ_ _=>none) (λ_ ih=>sY thr ok st m k ih) n
end
section
variable {tb : String → Option Builtin} {p : Program} {w : World} {n₀ : Nat} {ann : Option Value}
noncomputable abbrev mj (tb : String → Option Builtin) (p : Program) (w : World) (n₀ : Nat) (ann : Option Value) := pM through (stepOk n₀ ann) (stepT (denote tb) p w)
noncomputable abbrev sZ {α : Type} (tb : String → Option Builtin) (p : Program) (w : World) (n₀ : Nat) (ann : Option Value) := @wz through (stepOk n₀ ann) (stepT (denote tb) p w) α
theorem pN:∀{n:Nat} {s s':SharedT} {t t':Thread},mj tb p w n₀ ann n s t=some (false,s',t')->∀N r,topRun tb p w n₀ ann N s'.abs t'=some r->topRun tb p w n₀ ann (n+N) s.abs t=some r
 | 0,s,s',t,t',h,N,r,k=>by
  cases h
  rw [zero_add];exact k
 | n+1,s,s',t,t',h,N,r,k=>by
  rw [show n+1+N=n+N+1 by lia]
  have h:mi through (stepOk n₀ ann) (stepT (denote tb) p w) (mj tb p w n₀ ann n) s t=some (false,s',t'):=h
  unfold mi at h
  unfold topRun
  cases ht:through t with
  | true=>rw [ht] at h;cases h
  | false=>
   rw [ht] at h
   cases hk:stepOk n₀ ann t with
   | false=>rw [hk] at h;cases h
   | true=>
    rw [hk] at h
    cases hs:stepT (denote tb) p w s t with
    | none=>rw [hs] at h;cases h
    | some x=>obtain⟨s₂,t₂⟩:=x;rw [hs] at h;rw [stepT_spec hs];exact pN h N r k
theorem nQ:∀{n:Nat} {s s':SharedT} {t t':Thread},mj tb p w n₀ ann n s t=some (true,s',t')->topRun tb p w n₀ ann n s.abs t=some s'.abs
 | 0,s,s',t,t',h=>by cases h
 | n+1,s,s',t,t',h=>by
  have h:mi through (stepOk n₀ ann) (stepT (denote tb) p w) (mj tb p w n₀ ann n) s t=some (true,s',t'):=h
  unfold mi at h
  unfold topRun
  cases ht:through t with
  | true=>rw [ht] at h;cases h;rfl
  | false=>
   rw [ht] at h
   cases hk:stepOk n₀ ann t with
   | false=>rw [hk] at h;cases h
   | true=>
    rw [hk] at h
    cases hs:stepT (denote tb) p w s t with
    | none=>rw [hs] at h;cases h
    | some x=>obtain⟨s₂,t₂⟩:=x;rw [hs] at h;rw [stepT_spec hs];exact nQ h
theorem pO{α:Type}{m:Nat}{k:SharedT->α}{r:α}:∀{n:Nat} {s:SharedT} {t:Thread},sZ tb p w n₀ ann m k n s t=some r->∃s',topRun tb p w n₀ ann (m*n) s.abs t=some s'.abs/\k s'=r
 | 0,s,t,h=>by cases h
 | n+1,s,t,h=>by
  have h:sY through (stepOk n₀ ann) (stepT (denote tb) p w) m k (sZ tb p w n₀ ann m k n) s t=some r:=h
  unfold sY at h
  cases hs:pM through (stepOk n₀ ann) (stepT (denote tb) p w) m s t with
  | none=>rw [hs] at h;cases h
  | some x=>
   obtain⟨b,s₂,t₂⟩:=x
   rw [hs] at h
   cases b with
   | true=>
    have h:kg s₂ (Bv k)=some r:=h
    rw [nP] at h
    refine⟨s₂,?_,Option.some.inj h⟩
    rw [show m*(n+1)=m+m*n by rw [Nat.mul_succ];lia]
    exact topRun_mono _ _ _ _ _ (nQ hs)
   | false=>
    have h:kg s₂ (Bw (sZ tb p w n₀ ann m k n) t₂)=some r:=h
    rw [nP] at h
    obtain⟨s',e,e'⟩:=pO h
    refine⟨s',?_,e'⟩
    rw [show m*(n+1)=m+m*n by rw [Nat.mul_succ];lia]
    exact pN hs _ _ e
end
noncomputable def C9(P:Params):BT:=
 .node (boot_o_0 P) (.node (boot_o_1 P) (.node (boot_o_3 P) (.node (boot_o_7 P) .nil .nil) .nil) (.node (boot_o_5 P) (.node (boot_o_9 P) .nil .nil) .nil))
  (.node (boot_o_2 P) (.node (boot_o_4 P) (.node (boot_o_8 P) .nil .nil) .nil) (.node (boot_o_6 P) (.node (boot_o_10 P) .nil .nil) .nil))
noncomputable def pP(w:World)(os:OsState):SharedT:=⟨C9 w.params,11,(boot_heap w.params).life, #[],boot_drawn,boot_toks,os⟩
noncomputable def pQ(w:World):Option Value:=(boot_heap w.params).nsMap mainGlobals "__annotations__"
theorem Da(w:World):(boot_heap w.params).isNs mainGlobals=true:=by kernel_rfl
noncomputable abbrev tf{α:Type}(p:Program)(w:World):= @wz through (Fast.tw6613529449190102663 11 (pQ w)) (Fast.tw10156331382660048174 (Fast.tw11892475500146522536 Fast.tw14364793385576792824) p w) α
theorem yC{α:Type}(p:Program)(w:World): @sZ α treeTable p w 11 (pQ w)=tf p w:=by
 show @wz through (stepOk 11 (pQ w)) (stepT (denote treeTable) p w) α=_
 rw [Fast.te6613529449190102663,Fast.te10156331382660048174,Fast.te11892475500146522536,Fast.te14364793385576792824]
def tm{α:Type}(o:Option Obj)(a:Nat)(ih:Frag->(Frag->α)->α)(acc:Frag)(k:Frag->α):α:=match o with
 | some o=>(match alive o with
  | some o'=>ih ((a,o')::acc) k
  | none=>ih acc k)
 | none=>ih acc k
noncomputable def oE{α:Type}(t:BT)(n:Nat):Frag->(Frag->α)->α:=
 @Nat.rec (λ_=>Frag->(Frag->α)->α) (λacc k=>k acc) (λa ih acc k=>tm (t.get a) a ih acc k) n
def iM(h:Heap)(n:Nat):Frag:=(List.range n).filterMap λa=>(h.get? a).map λo=>(a,o)
theorem dk{a:Addr}{o:Obj}:∀{K:Frag},K.lookup a=some o->(a,o)∈K
 | [],h=>nomatch h
 | (b,x)::K,h=>by
  simp only [List.lookup] at h
  split at h
  ·rename_i q;cases h;rw [beq_iff_eq.mp q];exact mem_cons_self
  ·exact mem_cons_of_mem _ (dk h)
theorem wA(h:Heap)(n:Nat):(iM h n).In h:=λa o e=>by
 obtain⟨b,_,q⟩:=List.mem_filterMap.mp (dk e)
 obtain⟨x,h1,h2⟩:=Option.map_eq_some_iff.mp q
 cases h2
 exact h1
def fE(t:BT)(n:Nat):Bool:=(List.range n).all λa=>(t.get a).isSome
theorem lB{α:Type}{t:BT}{m:Nat}{life:Life}{k:Frag->α}(f:fE t m=true):∀(n:Nat) (acc:Frag),n<=m->oE t n acc k=k (iM (absHeap t m life) n++acc)
 | 0,acc,_=>rfl
 | n+1,acc,le=>by
  have e:oE t (n+1) acc k=tm (t.get n) n (oE t n) acc k:=rfl
  have hs:(t.get n).isSome=true:=List.all_eq_true.mp f n (List.mem_range.mpr le)
  obtain⟨o,hg⟩:=Option.isSome_iff_exists.mp hs
  have hx:iM (absHeap t m life) (n+1)++acc=iM (absHeap t m life) n++((match alive o with | some o'=>[(n,o')] | none=>[])++acc):=by
   unfold iM
   rw [range_succ,List.filterMap_append,append_assoc]
   congr 2
   rw [filterMap_cons,List.filterMap_nil,abs_get le hg]
   cases alive o<;>rfl
  rw [e,hx]
  unfold tm
  rw [hg]
  cases ha:alive o with
  | none=>simp only [ha];exact lB f n acc (Nat.le_of_succ_le le)
  | some o'=>simp only [ha];exact lB f n _ (Nat.le_of_succ_le le)
noncomputable def tq{α:Type}(see:Frag->α)(s:SharedT):α:=oE s.tree s.n [] see
theorem wB{α:Type}{see:Frag->α}{s:SharedT}(f:fE s.tree s.n=true):tq see s=see (iM s.abs.heap s.abs.heap.objs.size):=by
 unfold tq
 rw [lB (life:=s.life) f s.n [] (le_refl _),append_nil]
 show _=see (iM (absHeap s.tree s.n s.life) (absHeap s.tree s.n s.life).objs.size)
 rw [absHeap_size]
noncomputable def tu{α:Type}(p q:Program)(loose:List Str)(Xt:Shared->Bool)(see:Frag->α)(w:World)(s:SharedT):=
 (fE s.tree s.n&&(staticsOk (importedModules p.main.body) (boot_heap w.params) s.abs.heap&&namesBound p s.abs.heap&&gensDone s.abs&&laidKept (boot_heap w.params) s.abs.heap),openSeen q loose (importedModules p.main.body) Xt true s.abs,tq see s)
def Ed{α:Type}(see:Frag->α)(s:Shared):α:=see (iM s.heap s.heap.objs.size)
theorem qQ{p q:Program}{loose:List Str}{Xt:Shared->Bool}{α:Type}{see:Frag->α}{saw:World->α}{N:Nat}{m n:Nat}
 (e:opening p=plainProg p.main.scope.names) (hN:Nat.ble 600 N=true) (f:∀s,fenceModules? p s=some s) (le:Nat.ble (m*n) N=true)
 (run:∀(w:World) (os:OsState),tf p w m (tu p q loose Xt see w) n (pP w os) (topStub p)=some (true,openGood q loose,saw w)):
 LeftO p q loose Xt (Ed see) saw N true:=by
 intro w
 obtain⟨⟨h,gs,d,k,os⟩,e1,e2⟩:=Option.map_eq_some_iff.mp (boot_open e hN f w)
 obtain⟨rfl,rfl,rfl,rfl⟩:h=boot_heap w.params/\gs=Array.mk []/\d=boot_drawn/\k=boot_toks:=by simpa using e2
 have r0:=run w os
 rw [<-yC] at r0
 obtain⟨s',r,l⟩:=pO r0
 have r:topRun treeTable p w 11 (pQ w) (m*n) ⟨boot_heap w.params,Array.mk [],boot_drawn,boot_toks,os⟩ (topStub p)=some s'.abs:=r
 have r:=topRun_mono (N-m*n) _ _ _ _ r
 rw [show m*n+(N-m*n)=N by have:=Nat.le_of_ble_eq_true le;lia] at r
 obtain⟨l0,l1⟩:=Bool.and_eq_true_iff.mp (congrArg Prod.fst l)
 have l2:=congrArg (λx=>x.2.1) l
 have l3:=(wB (see:=see) l0).symm.trans (congrArg (λx=>x.2.2) l)
 have t:topFrom treeTable p w N ⟨boot_heap w.params,Array.mk [],boot_drawn,boot_toks,os⟩=some s'.abs:=by
  unfold topFrom
  show(match (boot_heap w.params).isNs mainGlobals&&true with | true=>_ | false=>_)=_
  rw [Da w]
  show(topRun treeTable p w 11 (pQ w) N ⟨boot_heap w.params,Array.mk [],boot_drawn,boot_toks,os⟩ (topStub p)).bind _=_
  rw [r]
  show(match staticsOk (importedModules p.main.body) (boot_heap w.params) s'.abs.heap&&namesBound p s'.abs.heap&&gensDone s'.abs&&laidKept (boot_heap w.params) s'.abs.heap with | true=>_ | false=>_)=_
  rw [l1]
 unfold openEnds
 rw [e1]
 show Option.map _ (topFrom treeTable p w N _)=_
 rw [t]
 exact congrArg some (Prod.ext l2 l3)
theorem turn_of{P:Program->Prop}{p p':Program}(h:p=p')(x:P p'):P p:=h▸x
def iq(p:Program)(x:Str):List Str:=p.boundNames.filter λy=>!(y==x)
theorem uY{l:OpenLaw}{i N m n:Nat}{α:Type}{see:Frag->α}{saw:World->α}{d:DefRec}{kwd:List (Str×Expr)}
 (said:l.row.wellSaid=true)
 (e:opening l.prog=plainProg l.prog.main.scope.names) (f:∀s,fenceModules? l.prog s=some s) (hN:Nat.ble 600 N=true) (le:Nat.ble (m*n) N=true)
 (run:∀(w:World) (os:OsState),tf l.prog w m (tu l.prog (view l.prog [i]) (iq l.prog l.name) (λ_=>true) see w) n (pP w os) (topStub l.prog)=some (true,openGood (view l.prog [i]) (iq l.prog l.name),saw w))
 (hdef:defOf (view l.prog [i]) l.row.name=some (d,kwd)) (hp:l.row.prog.theDef l.row.name=some (d.params,d.body,d.scope)) (hk:kwWritten? d.params.kwonlyargs d.params.kw_defaults=some kwd)
 (ok:(chainsOk (view l.prog [i])&&opensWell l.row.prog&&(frees l.row.toRowW&&l.row.within.isEmpty))=true) (hb:l.row.prog.bare) (hw:l.row.toRowW.promised)
 (call:WalkO (view l.prog [i]) (iq l.prog l.name) (λ_ _=>True) (λw h=>∃K:Frag,K.In h/\see K=saw w) l.row.toRowW d kwd λf vs=>PySem.call f vs):l.row.Holds:=
 holds_open (r:=l.row) (qQ e hN f le run) (λ_ s h=>⟨_,wA s.heap _,h⟩) (λ_ _ _ ⟨K,a,b⟩ k=>⟨K,a.keeps k,b⟩) (λ_ _=>trivial) (λ_ _ _ _ _=>trivial) hdef hp hk (λs _=>recFacts_of (R:=[]) rfl) (by show(_ || true)=true;exact Bool.or_true _) said ok hb hw call
theorem wC{l:OpenLaw}{n k:Nat}{q:Program}{loose:List Str}{XP:(Str->Option Value)->Heap->Prop}{S:World->Frag->Prop}{d:DefRec}{CX:L2.CXT}{sp:Frag->L2.Sp}{x:Str}
 (hn:l.most=some n) (hn2:n<=sizeLine) (hdf:d.params.defaults= []) (hr:L2.Room k callerA)
 (F:∀(w:World) (K:Frag) (mg:Str->Option Value) (fa:Addr) (h:Heap),S w K->K.In h->h.Ns mainGlobals mg->mg d.name=some (.ref fa)->
  ∃fd:FuncData,(∀(s:Shared) (u:Value),BindsTo s fd ⟨[u],[]⟩ [(x,u)])/\
   ∀base:Heap,K.In base->base.Ns mainGlobals mg->L2.fP l.prog w K mg base CX k fa fd [x] (sp K))
 (hsp:∀(K:Frag) (H:L2.Hp) (a:Addr) (ns:List Int),ns.length<=n->L2.wm H->L2.SqL K H a (ns.map L2.V.int)->sp K [.ref a] H (λv _=>v= .bl true) λ_ _ _=>False)
 (hCX:∀(H:L2.Hp) (s:Shared) (e:Value) (s':Shared),CX [] H s (λ_ _ _=>False) e s'->False):
 WalkO q loose XP (λw h=>∃K:Frag,K.In h/\S w K) l.row.toRowW d [] (λf vs=>PySem.call f vs):=by
 refine Att.qL hn hdf λw s₀ s₁ mg mb fa o pm cd doc a vs ns G Y ho hd hcd hmg hobj hints hlen hg=>?_
 obtain⟨K,KX,hS⟩:=Y
 obtain⟨fd,hb,hF⟩:=F w K mg fa _ hS KX G.T.g hmg
 exact L2.wn KX G.T.g G.T.b G.T.builtins G.T.nolimit hg hobj hints (le_trans hlen hn2) hr hF hb (λH hO hS=>hsp K H a ns hlen hO hS) λH e s'=>hCX H s₁ e s'
def cO(s:Stmt):Str:=match s with
 | .FunctionDef n _ _ _ _ _ _ _ _ _=>n
 | _=>""
abbrev pR:=Option (Str×Str×Arguments×FuncBody×Scope×Addr×List (Str×Addr)×Value×Addr×Bool)
def pS(K:Frag)(q:Str)(f:Addr):pR:=match K.lookup f with
 | some ⟨_,_,.func fd,_⟩=>some (fd.name,fd.qualname,fd.params,fd.body,fd.scope,fd.globals,fd.closure,fd.defaults,fd.builtins,codeIn K fd.code q)
 | _=>none
def kG(x q:Str)(st:Stmt):pR:=some (x,q,L2.jk st,.stmts (L2.fq st),L2.au st,mainGlobals,[],.none,builtinsNs,true)
theorem ow{K:Frag}{x q:Str}{st:Stmt}{f:Addr}(e:pS K q f=kG x q st):
 ∃fd:FuncData,L2.Fun K x q st f fd:=by
 unfold pS at e
 split at e
 ·rename_i oc od fd sl hl
  obtain⟨nm,qn,pa,bo,sc,gl,cl,df,kd,doc,pm,an,cdv,ct,bu⟩:=fd
  simp only [kG,Option.some.injEq,Prod.mk.injEq] at e
  obtain⟨rfl,rfl,rfl,rfl,rfl,rfl,rfl,rfl,rfl,c⟩:=e
  exact⟨_,⟨oc,od,kd,doc,pm,an,cdv,ct,sl,rfl,hl,c⟩,by unfold keepIn;simp only [hl]⟩
 ·cases e
theorem wD{K:Frag}{x q:Str}{st:Stmt}{f:Addr}{fd:FuncData}{ps:List Str}(F:L2.Fun K x q st f fd)
 (b:∀(kV doc pm:Value) (an:Option Addr) (cdv ct:Value) (us:List Value),us.length=ps.length->bindArgs (fnOf x q (L2.jk st) (L2.fq st) (L2.au st) .none kV doc pm an cdv ct) ⟨us,[]⟩=pure (ps.zip us)):L2.Binds K fd ps []:=by
 obtain⟨⟨oc,od,kV,doc,pm,an,cdv,ct,osl,rfl,_,_⟩,_⟩:=F
 exact .all (b kV doc pm an cdv ct)
def jr(K:Frag)(st:Stmt):pR:=match nsIn K mainGlobals (cO st) with
 | some (some (.ref f))=>pS K (cO st) f
 | _=>none
theorem uZ{K:Frag}{st:Stmt}{x:Str}(e:jr K st=kG (cO st) (cO st) st)(hx:cO st=x):∃f fd,nsIn K mainGlobals x=some (some (.ref f))/\L2.Fun K x x st f fd:=by
 subst hx
 unfold jr at e
 split at e
 ·rename_i f ha
  obtain⟨fd,F⟩:=ow e
  exact⟨f,fd,ha,F⟩
 ·cases e
theorem aE{K:Frag}{h:Heap}{mg:Str->Option Value}{st:Stmt}{x:Str}{ps:List Str}(X:K.In h)(G:h.Ns mainGlobals mg)(e:jr K st=kG (cO st) (cO st) st)(hx:cO st=x)
 (b:∀(kV doc pm:Value) (an:Option Addr) (cdv ct:Value) (us:List Value),us.length=ps.length->bindArgs (fnOf x x (L2.jk st) (L2.fq st) (L2.au st) .none kV doc pm an cdv ct) ⟨us,[]⟩=pure (ps.zip us)):L2.DefAt K mg x st ps:=by
 obtain⟨f,fd,ha,F⟩:=uZ e hx
 exact⟨f,fd,mg_of X G ha,F,wD F b⟩
theorem yD{K:Frag}{h:Heap}{mg:Str->Option Value}{st:Stmt}{x y:Str}{fa:Addr}(X:K.In h)(G:h.Ns mainGlobals mg)(e:jr K st=kG (cO st) (cO st) st)(hx:cO st=x)(hfa:mg x=some (.ref fa))
 (b:∀(kV doc pm:Value) (an:Option Addr) (cdv ct:Value) (s:Shared) (u:Value),BindsTo s (fnOf x x (L2.jk st) (L2.fq st) (L2.au st) .none kV doc pm an cdv ct) ⟨[u],[]⟩ [(y,u)]):
 ∃fd:FuncData,L2.Fun K x x st fa fd/\∀(s:Shared) (u:Value),BindsTo s fd ⟨[u],[]⟩ [(y,u)]:=by
 obtain⟨f,fd,ha,F⟩:=uZ e hx
 have e:=hfa.symm.trans (mg_of X G ha)
 cases e
 refine⟨fd,F,?_⟩
 obtain⟨⟨oc,od,kV,doc,pm,an,cdv,ct,osl,rfl,_,_⟩,_⟩:=F
 exact b kV doc pm an cdv ct
def fg(K:Frag)(x:Str):Bool:=match nsIn K mainGlobals x with
 | some none=>true
 | _=>false
theorem eO{K:Frag}{h:Heap}{mg:Str->Option Value}{x:Str}(X:K.In h)(G:h.Ns mainGlobals mg)(e:fg K x=true):mg x=none:=by
 unfold fg at e
 split at e
 ·rename_i ha;exact mg_none_of X G ha
 ·cases e
def isInt(K:Frag)(x:Str)(n:Int):Bool:=match nsIn K mainGlobals x with
 | some (some (.int m _))=>decide (m=n)
 | _=>false
theorem fF{K:Frag}{h:Heap}{mg:Str->Option Value}{x:Str}{n:Int}(X:K.In h)(G:h.Ns mainGlobals mg)(e:isInt K x n=true):∃tk,mg x=some (.int n tk):=by
 unfold isInt at e
 split at e
 ·rename_i m tk ha;cases of_decide_eq_true e;exact⟨tk,mg_of X G ha⟩
 ·cases e
def kH(K:Frag)(x:Str)(n:Str):Bool:=match nsIn K mainGlobals x with
 | some (some (.str m _))=>decide (m=n)
 | _=>false
theorem ml{K:Frag}{h:Heap}{mg:Str->Option Value}{x:Str}{n:Str}(X:K.In h)(G:h.Ns mainGlobals mg)(e:kH K x n=true):∃tk,mg x=some (.str n tk):=by
 unfold kH at e
 split at e
 ·rename_i m tk ha;cases of_decide_eq_true e;exact⟨tk,mg_of X G ha⟩
 ·cases e
def dq(K:Frag)(x:Str):Bool:=match nsIn K mainGlobals x with
 | some (some (.ref _))=>true
 | _=>false
def adr(K:Frag)(x:Str):Addr:=match nsIn K mainGlobals x with
 | some (some (.ref f))=>f
 | _=>0
theorem cR{K:Frag}{x:Str}(e:dq K x=true):nsIn K mainGlobals x=some (some (.ref (adr K x))):=by
 unfold dq at e
 unfold adr
 split at e
 ·rename_i f ha;rw [ha]
 ·cases e
def All(l:List Bool):Bool:=l.all id
theorem all_cons{b:Bool}{l:List Bool}(h:All (b::l)=true):b=true/\All l=true:=Bool.and_eq_true_iff.mp h
theorem aK{α:Type}{a b:α}{l m:List α}(h:a::l=b::m):a=b/\l=m:=List.cons.inj h
end HD
namespace HD
open PySem PySem.W L2
theorem tD{x:V}{u:Value}(h:oM u=some x):RelV x u:=by
 cases u<;>simp only [oM,Option.some.injEq,reduceCtorEq] at h<;>(try subst h)<;>first | rfl | exact⟨_,rfl⟩
theorem kR:∀{xs:List V} {us:List Value},us.map oM=xs.map some->Vals xs us
 | [],[],_=>.nil
 | [],_::_,h=>by cases h
 | _::_,[],h=>by cases h
 | x::xs,u::us,h=>by
  rw [map_cons,map_cons] at h
  obtain⟨a,b⟩:=List.cons.inj h
  exact .cons (tD a) (kR b)
def jt(K:Frag)(a:Addr):Option (Value×List (Option V)):=match K.lookup a with
 | some ⟨c,_,.seq its _,_⟩=>some (c,its.toList.map oM)
 | _=>none
theorem u0{K:Frag}{a:Addr}{xs:List V}(e:jt K a=some (.type "tuple",xs.map some))(hl:xs.length<=sizeLine)(H:Hp):SqT K H a xs:=by
 unfold jt at e
 split at e
 ·rename_i c d its n sl hk
  simp only [Option.some.injEq,Prod.mk.injEq] at e
  obtain⟨rfl,e⟩:=e
  have v:=kR e
  refine .inr ⟨_,its,n,hk,rfl,rfl,?_,v⟩
  rw [<-Array.length_toList,<-v.length]
  exact hl
 ·cases e
def hG(K:Frag)(a:Addr):=match K.lookup a with
 | some ⟨c,d,.dict es _,sl⟩=>some (c,d,sl,es.toList.map λ(e:DictEntry)=>(e.hash,(match e.key with | Value.str x _=>some x | _=>none),(match e.val with | Value.ref t=>jt K t | _=>none)))
 | _=>none
def kI(K:Frag)(C:Addr):Bool:=(findIn K (.ref C) "__getattribute__" ==some (some (.builtin "BaseException.__getattribute__")))&&(findIn K (.ref C) "__getattr__" ==some none)&&(mroIn K C (.type "BaseException")==some true) &&
 (clsIn K C).isSome&&(findIn K (.ref C) "__class__" ==some (some (.builtin "object.__class__")))&&(specialIn K (.builtin "object.__class__") "__get__" ==some (some (.builtin "getset_descriptor.__get__"))) &&
 (takesIn K (.builtin "object.__class__")==some true)&&(mroIn K C (.type "object")==some true)
theorem u1{K:Frag}{C:Addr}(e:kI K C=true):j8 K C:=by
 unfold kI at e
 simp only [and_eq_true,beq_iff_eq] at e
 obtain⟨⟨⟨⟨⟨⟨⟨a,b⟩,c⟩,d⟩,e⟩,f⟩,g⟩,h⟩:=e
 exact⟨a,b,c,d,e,f,g,h⟩
end HD
seal L2.PE L2.PA L2.PS L2.PSs L2.PT L2.PW L2.PG L2.PGs L2.OpR L2.cy L2.PI L2.sk L2.PO L2.SlR L2.IxR L2.PC L2.UnR L2.MtR
local macro_rules
  | `(tactic| walk_at "rl") => do
    let a ← L2.rdArgs L2.lzPre
    `(tactic| simp (config := { maxSteps := 3000000 }) only [$a,*, L2.lW, L2.lY, L2.pH, L2.mf, L2.lZ, L2.l5, L2.jp, L2.me, *])
  | `(tactic| walk_at "ro") => do
    let a ← L2.rdArgs (L2.rdPre)
    `(tactic| simp (config := { maxSteps := 3000000 }) only [and_assoc, $a,*, L2.lW, L2.lY, L2.pH, L2.mf, L2.lZ, L2.l5, L2.jp, L2.me, *])
  | `(tactic| walk_at "rz") => do
    let a ← L2.rdArgs (L2.lzPre ++ " lazyAll")
    `(tactic| simp (config := { maxSteps := 3000000 }) only [$a,*, L2.lW, L2.lY, L2.pH, L2.mf, L2.lZ, L2.l5, L2.jp, L2.me, *])
  | `(tactic| walk_at "rd") => `(tactic| first | (walk_at "rl"; try walk_at "ro") | walk_at "ro")
  | `(tactic| walk_at "ry") => do
    let a ← L2.rdArgs (L2.lzPre2 ++ " lazyAll")
    `(tactic| simp (config := { maxSteps := 3000000, zeta := false, zetaDelta := false }) only [$a,*, L2.lW, L2.lY, L2.pH, L2.mf, L2.lZ, L2.l5, L2.jp, L2.me, *])
  | `(tactic| walk_at "rh") => `(tactic| with_reducible first | (refine L2.hideL ?_; intro T) | refine L2.hRet ?_ | refine L2.hIf ?_ | refine L2.hFor ?_ | refine L2.hDrop ?_ | refine L2.hAsg ?_ | refine L2.hWhile ?_ | refine L2.hFld ?_ | refine L2.hForU ?_ | refine L2.hForK ?_ | refine L2.hPut ?_ | refine L2.hRetN ?_)
  | `(tactic| walk_at "r2") => `(tactic| ((try walk_at "rh"); (try walk_at "ry"); repeat (walk_at "rh"; walk_at "ry")))
namespace K07
open PySem L2
def top(i:Nat):Stmt:=PySem.Challenge.pw_rerunyard_k07_rows_of_no_form.main.body.getD i (.Pass ⟨0,0,0,0⟩)
abbrev kh:Stmt:=top 23
theorem tE:aC ["word"] ["word"] (au kh):=⟨rfl,rfl,rfl,by decide +kernel,rfl,by decide +kernel,by decide +kernel⟩
abbrev iU:Stmt:=top 24
theorem pT:aC ["word"] ["word"] (au iU):=⟨rfl,rfl,rfl,by decide +kernel,rfl,by decide +kernel,by decide +kernel⟩
abbrev jI:Stmt:=top 25
theorem qR:aC ["word","most"] ["word","most"] (au jI):=⟨rfl,rfl,rfl,by decide +kernel,rfl,by decide +kernel,by decide +kernel⟩
abbrev ir:Stmt:=top 26
theorem sc_expression:aC ["word","tokens","e","at"] ["word"] (au ir):=⟨rfl,rfl,rfl,by decide +kernel,rfl,by decide +kernel,by decide +kernel⟩
abbrev iV:Stmt:=top 27
theorem sc_tokens_of:aC ["word","tokens","sign"] ["word"] (au iV):=⟨rfl,rfl,rfl,by decide +kernel,rfl,by decide +kernel,by decide +kernel⟩
abbrev gT:Stmt:=top 28
theorem sc_read_sum:aC ["tokens","at","depth","e","sign","right"] ["tokens","at","depth"] (au gT):=⟨rfl,rfl,rfl,by decide +kernel,rfl,by decide +kernel,by decide +kernel⟩
abbrev gz:Stmt:=top 29
theorem sc_read_term:aC ["tokens","at","depth","e","right"] ["tokens","at","depth"] (au gz):=⟨rfl,rfl,rfl,by decide +kernel,rfl,by decide +kernel,by decide +kernel⟩
abbrev eW:Stmt:=top 30
theorem sc_read_factor:aC ["tokens","at","depth","e"] ["tokens","at","depth"] (au eW):=⟨rfl,rfl,rfl,by decide +kernel,rfl,by decide +kernel,by decide +kernel⟩
abbrev pU:Stmt:=top 31
theorem yE:aC ["token"] ["token"] (au pU):=⟨rfl,rfl,rfl,by decide +kernel,rfl,by decide +kernel,by decide +kernel⟩
abbrev pV:Stmt:=top 40
theorem sc_read:aC ["text","texts","program","bodies","k","row","parts"] ["text"] (au pV):=⟨rfl,rfl,rfl,by decide +kernel,rfl,by decide +kernel,by decide +kernel⟩
abbrev jJ:Stmt:=top 41
theorem sc_parts_of:aC ["row","words","kinds"] ["row"] (au jJ):=⟨rfl,rfl,rfl,by decide +kernel,rfl,by decide +kernel,by decide +kernel⟩
abbrev iW:Stmt:=top 42
theorem sc_kinds_due:aC ["words","first_word","fixed","kind","least","most","rest"] ["words"] (au iW):=⟨rfl,rfl,rfl,by decide +kernel,rfl,by decide +kernel,by decide +kernel⟩
abbrev pW:Stmt:=top 43
theorem yF:aC ["kind","word"] ["kind","word"] (au pW):=⟨rfl,rfl,rfl,by decide +kernel,rfl,by decide +kernel,by decide +kernel⟩
abbrev gI:Stmt:=top 44
theorem sc_check_place:aC ["k","word","program","bodies","hands","fits"] ["k","word","program","bodies"] (au gI):=⟨rfl,rfl,rfl,by decide +kernel,rfl,by decide +kernel,by decide +kernel⟩
abbrev gJ:Stmt:=top 45
theorem mR:aC ["k","word","bodies"] ["k","word","bodies"] (au gJ):=⟨rfl,rfl,rfl,by decide +kernel,rfl,by decide +kernel,by decide +kernel⟩
abbrev fG:Stmt:=top 46
theorem sc_check_measure:aC ["k","parts","word","fits"] ["k","parts"] (au fG):=⟨rfl,rfl,rfl,by decide +kernel,rfl,by decide +kernel,by decide +kernel⟩
abbrev gL:Stmt:=top 47
theorem sc_check_twice:aC ["k","parts","program","tools","stores","rows","hands","ahead","again"] ["k","parts","program"] (au gL):=⟨rfl,rfl,rfl,by decide +kernel,rfl,by decide +kernel,by decide +kernel⟩
abbrev jK:Stmt:=top 48
theorem sc_lay_down:aC ["k","parts","program","bodies","tools","stores","rows","hands","word","body"] ["k","parts","program","bodies"] (au jK):=⟨rfl,rfl,rfl,by decide +kernel,rfl,by decide +kernel,by decide +kernel⟩
abbrev fR:Stmt:=top 49
theorem sc_statement_of:aC ["k","parts","word"] ["k","parts"] (au fR):=⟨rfl,rfl,rfl,by decide +kernel,rfl,by decide +kernel,by decide +kernel⟩
abbrev fH:Stmt:=top 50
theorem lC:aC ["statement","bodies"] ["statement","bodies"] (au fH):=⟨rfl,rfl,rfl,by decide +kernel,rfl,by decide +kernel,by decide +kernel⟩
abbrev fS:Stmt:=top 52
theorem mo:aC ["script","k"] ["script","k"] (au fS):=⟨rfl,rfl,rfl,by decide +kernel,rfl,by decide +kernel,by decide +kernel⟩
abbrev iX:Stmt:=top 53
theorem sc__law_stir:aC ["cell","k","number"] ["cell","k"] (au iX):=⟨rfl,rfl,rfl,by decide +kernel,rfl,by decide +kernel,by decide +kernel⟩
abbrev gM:Stmt:=top 54
theorem sc__law_barred:aC ["some"] [] (au gM):=⟨rfl,rfl,rfl,by decide +kernel,rfl,by decide +kernel,by decide +kernel⟩
abbrev iu:Stmt:=top 55
theorem sc__law_names:aC ["head","k","many","letters","size","stem","found","j","number","at","word"] ["head","k","many"] (au iu):=⟨rfl,rfl,rfl,by decide +kernel,rfl,by decide +kernel,by decide +kernel⟩
abbrev iY:Stmt:=top 56
theorem sc__law_name:aC ["number","names"] ["number"] (au iY):=⟨rfl,rfl,rfl,by decide +kernel,rfl,by decide +kernel,by decide +kernel⟩
abbrev iZ:Stmt:=top 57
theorem sc__law_leaf:aC ["number","kind"] ["number"] (au iZ):=⟨rfl,rfl,rfl,by decide +kernel,rfl,by decide +kernel,by decide +kernel⟩
abbrev ja:Stmt:=top 58
theorem sc__law_tree:aC ["cell","k","deep","number","sign"] ["cell","k","deep"] (au ja):=⟨rfl,rfl,rfl,by decide +kernel,rfl,by decide +kernel,by decide +kernel⟩
abbrev gN:Stmt:=top 59
theorem sc__law_worded:aC ["tree","more","left","right"] ["tree","more"] (au gN):=⟨rfl,rfl,rfl,by decide +kernel,rfl,by decide +kernel,by decide +kernel⟩
abbrev fU:Stmt:=top 60
theorem sc__law_deepest:aC ["word","deep","most","sign"] ["word"] (au fU):=⟨rfl,rfl,rfl,by decide +kernel,rfl,by decide +kernel,by decide +kernel⟩
abbrev jb:Stmt:=top 61
theorem sc__law_expr:aC ["cell","k","tree","more","word"] ["cell","k"] (au jb):=⟨rfl,rfl,rfl,by decide +kernel,rfl,by decide +kernel,by decide +kernel⟩
abbrev jc:Stmt:=top 62
theorem sc__law_good:aC ["head","k","name","number","far","count","most","first","numbers"] ["head","k","name"] (au jc):=⟨rfl,rfl,rfl,by decide +kernel,rfl,by decide +kernel,by decide +kernel⟩
abbrev iw:Stmt:=top 63
theorem sc__law_goods:aC ["head","rows","parts","names","k","name","row","place","told"] ["head"] (au iw):=⟨rfl,rfl,rfl,by decide +kernel,rfl,by decide +kernel,by decide +kernel⟩
abbrev ix:Stmt:=top 64
theorem sc__law_plain:aC ["cell","k","number","word","tree","name","kind","deed","other","some"] ["cell","k"] (au ix):=⟨rfl,rfl,rfl,by decide +kernel,rfl,by decide +kernel,by decide +kernel⟩
abbrev gO:Stmt:=top 65
theorem sc__law_opener:aC ["cell","k","one","other","sign"] ["cell","k"] (au gO):=⟨rfl,rfl,rfl,by decide +kernel,rfl,by decide +kernel,by decide +kernel⟩
abbrev jd:Stmt:=top 66
theorem sc__law_hand:aC ["hands","head","opened","name","number","names"] ["hands","head","opened"] (au jd):=⟨rfl,rfl,rfl,by decide +kernel,rfl,by decide +kernel,by decide +kernel⟩
abbrev jL:Stmt:=top 67
theorem sc__law_row:aC ["cell","k","opened","most","number","row","told"] ["cell","k","opened","most"] (au jL):=⟨rfl,rfl,rfl,by decide +kernel,rfl,by decide +kernel,by decide +kernel⟩
abbrev iy:Stmt:=top 68
theorem sc__law_built:aC ["script","head","rows","parts","hands","opened","cell"] ["script","head"] (au iy):=⟨rfl,rfl,rfl,by decide +kernel,rfl,by decide +kernel,by decide +kernel⟩
abbrev jM:Stmt:=top 69
theorem sc__law_bad:aC ["cell","some"] ["cell"] (au jM):=⟨rfl,rfl,rfl,by decide +kernel,rfl,by decide +kernel,by decide +kernel⟩
abbrev fV:Stmt:=top 70
theorem sc__law_refused:aC ["rows","told","e"] ["rows"] (au fV):=⟨rfl,rfl,rfl,by decide +kernel,rfl,by decide +kernel,by decide +kernel⟩
abbrev gP:Stmt:=top 71
theorem sc__law_spoilt:aC ["row","kind","cell","words","at"] ["row","kind","cell"] (au gP):=⟨rfl,rfl,rfl,by decide +kernel,rfl,by decide +kernel,by decide +kernel⟩
abbrev tF:Stmt:=top 72
theorem sc_law:aC ["script","rows","program","at","kind","cell"] ["script"] (au tF):=⟨rfl,rfl,rfl,by decide +kernel,rfl,by decide +kernel,by decide +kernel⟩
def isL(s:Str)(c:Nat):Bool:=!(Builtin.Str.occurrences s ⟨#[c]⟩ 0 s.length 1).isEmpty
def noN:List V:=[.str "tool",.str "store",.str "row",.str "hand",.str "end",.str "wait",.str "take",.str "give",.str "put",.str "get",.str "let",.str "draw",.str "say",.str "start",.str "if",.str "else",.str "while",.str "stop",.str "now",.str "own"]
def aW(x:Str):Bool:=decide (1<=x.length)&&decide (x.length<=8)&& !(inV (.str x) noN)&&x.cps.toList.all (isL "abcdefghijklmnopqrstuvwxyz")
def cV(x:Str):Bool:=decide (1<=x.length)&&decide (x.length<=6)&&(decide (x= "0") || !(PySem.Txt.startswith x "0"))&&x.cps.toList.all (isL "0123456789")
theorem lD{L x:Str}{H:Hp}{Q:VK}(hz:x.length<sizeLine)(q:∀H',Same H H'->Q (.bl (x.cps.toList.all (isL L))) H'):
 lS [] (sQ (cJ 0)) pi (tOp (λx y H Q=>∃i,x=V.str i/\∃x,y=V.str x/\Q (V.bl !(Builtin.Str.occurrences x i 0 x.length 1).isEmpty) H) (cJ 0) (tC (V.str L)))
  [some (V.str x)] H λx H1=>∃p,x=V.ref p/\∃x,H1 p=some (HO.lst (List.map V.bl x))/\Q (V.bl (x.all id)) H1:=by
 refine uD x (λ_=>true) (λc=>.bl (isL L c)) (λR hR=>⟨_,rfl,hR⟩) hz (λc hc H Q h=>h) (λc hc _ H Q h=>?_) λD H' hD hS e=>?_
 ·exact⟨_,rfl,_,rfl,_,rfl,h⟩
 ·refine⟨D,rfl,(x.cps.toList.filter λ_=>true).map (isL L),by rw [e,map_map];rfl,?_⟩
  have:=q H' hS
  simpa using this
theorem sz8{n:Nat}(h:n<=8):n<sizeLine:=by unfold sizeLine;lia
section
variable{P:Program}{w:World}{K:PySem.W.Frag}{mg:Str->Option Value}{base:Heap}
def lE:Sp:=λvs H Q _=>∃x:Str,vs= [.str x]/\x.length<=sizeLine/\∀H',Same H H'->Q (.bl (aW x)) H'
theorem tG(D:DefAt K mg "is_name" kh ["word"]){t1 t2:Tok}{aNN:Addr}(hML:mg "MOST_LETTERS" =some (.int 8 t1))(hLETTERS:mg "LETTERS" =some (.str "abcdefghijklmnopqrstuvwxyz" t2))
 (hNN:mg "NO_NAMES" =some (.ref aNN)) (qNN:∀H,SqT K H aNN noN) (hlen:mg "len" =none) (hall:mg "all" =none):OkD P w K mg base 1 "is_name" ["word"] lE:=by
 refine D.ok tE (λvs H Q E h=>?_) (λf cdv A outer s H vs Q E hr h=>?_)
 ·obtain⟨x,rfl,_⟩:=h;rfl
 obtain⟨x,rfl,hz,q⟩:=h
 refine⟨_,(ah (ax (jg (jG eJ eJ ae (aN dQ rfl hlen PySem.boot_len (aa (pv 0) ad)) (aU (v:=.int 8) rfl hML ⟨_,rfl⟩)) (jg (bZ uC (pv 0) (aU (v:=.ref aNN) rfl hNN rfl) (by with_unfolding_all rfl)) (jZ (aN (pj rfl) rfl hall (by decide +kernel) (aa (mL (iT rfl rfl rfl) rfl (lT (pv 0)) rfl rfl (λ_ _ _ _=>dB) (λ_ _ _ _=>(bZ j2 (pv 0) (aU (v:=.str "abcdefghijklmnopqrstuvwxyz") rfl hLETTERS ⟨_,rfl⟩) (by with_unfolding_all rfl)))) ad))))))),?_⟩
 walk_at "rd"
 unfold aW at q
 by_cases h1:(1:Int)<=x.length
 ·by_cases h2:(x.length:Int)<=8
  ·rw [if_pos h1,if_pos h2]
   refine⟨noN,qNN,by decide +kernel,?_⟩
   have e1:decide (1<=x.length)=true:=decide_eq_true (by lia)
   have e2:decide (x.length<=8)=true:=decide_eq_true (by lia)
   rw [e1,e2] at q
   cases hN:inV (.str x) noN with
   | true=>rw [hN] at q;exact cK (q H (Same.refl H))
   | false=>
    rw [hN] at q
    exact cX (lD (sz8 (by lia)) (by simpa using q))
  ·rw [if_pos h1,if_neg h2]
   have e2:decide (x.length<=8)=false:=decide_eq_false (by lia)
   rw [e2] at q
   simpa using q H (Same.refl H)
 ·rw [if_neg h1]
  have e1:decide (1<=x.length)=false:=decide_eq_false (by lia)
  rw [e1] at q
  simpa using q H (Same.refl H)
def rH(m:Nat)(x:Str):Bool:=decide (1<=x.length)&&decide (x.length<=m)&&(decide (x= "0") || !(PySem.Txt.startswith x "0"))&&x.cps.toList.all (isL "0123456789")
def rJ:Sp:=λvs H Q _=>∃(x:Str) (m:Nat),vs= [.str x,.int (m:Nat)]/\m<=8/\x.length<=sizeLine/\∀H',Same H H'->Q (.bl (rH m x)) H'
theorem qS(D:DefAt K mg "is_whole" jI ["word","most"]){t2:Tok}(hFIGURES:mg "FIGURES" =some (.str "0123456789" t2))
 (hlen:mg "len" =none) (hall:mg "all" =none):OkD P w K mg base 1 "is_whole" ["word","most"] rJ:=by
 refine D.ok qR (λvs H Q E h=>?_) (λf cdv A outer s H vs Q E hr h=>?_)
 ·obtain⟨x,m,rfl,_⟩:=h;rfl
 obtain⟨x,m,rfl,hm,hz,q⟩:=h
 refine⟨_,(ah (ax (jg (jG eJ eJ ae (aN dQ rfl hlen PySem.boot_len (aa (pv 0) ad)) (pv 1)) (jg (CI (bZ aJ (pv 0) ac (ap _)) (jZ (uc (om (pv 0) ac)))) (jZ (aN (pj rfl) rfl hall (by decide +kernel) (aa (mL (iT rfl rfl rfl) rfl (lT (pv 0)) rfl rfl (λ_ _ _ _=>dB) (λ_ _ _ _=>(bZ j2 (pv 0) (aU (v:=.str "0123456789") rfl hFIGURES ⟨_,rfl⟩) (by with_unfolding_all rfl)))) ad))))))),?_⟩
 walk_at "rd"
 unfold rH at q
 by_cases h1:(1:Int)<=x.length
 ·by_cases h2:(x.length:Int)<=m
  ·rw [if_pos h1,if_pos h2]
   have e1:decide (1<=x.length)=true:=decide_eq_true (by lia)
   have e2:decide (x.length<=m)=true:=decide_eq_true (by lia)
   rw [e1,e2] at q
   by_cases h3:x=Str.ofString "0"
   ·rw [if_pos h3]
    have e3:decide (x=Str.ofString "0")=true:=decide_eq_true h3
    rw [e3] at q
    exact lD (sz8 (by lia)) (by simpa using q)
   ·rw [if_neg h3]
    have e3:decide (x=Str.ofString "0")=false:=decide_eq_false h3
    rw [e3] at q
    cases h4:PySem.Txt.startswith x (Str.ofString "0") with
    | true=>rw [h4] at q;exact cK (by simpa using q H (Same.refl H))
    | false=>rw [h4] at q;exact cX (lD (sz8 (by lia)) (by simpa using q))
  ·rw [if_pos h1,if_neg h2]
   have e2:decide (x.length<=m)=false:=decide_eq_false (by lia)
   rw [e2] at q
   simpa using q H (Same.refl H)
 ·rw [if_neg h1]
  have e1:decide (1<=x.length)=false:=decide_eq_false (by lia)
  rw [e1] at q
  simpa using q H (Same.refl H)
def mS:Sp:=λvs H Q _=>∃x:Str,vs= [.str x]/\x.length<=sizeLine/\∀H',Same H H'->Q (.bl (cV x)) H'
theorem pY(D:DefAt K mg "is_number" iU ["word"]){t1:Tok}(hMF:mg "MOST_FIGURES" =some (.int 6 t1))(G_is_whole:OkD P w K mg base 1 "is_whole" ["word","most"] rJ):OkD P w K mg base 2 "is_number" ["word"] mS:=by
 refine D.ok pT (λvs H Q E h=>?_) (λf cdv A outer s H vs Q E hr h=>?_)
 ·obtain⟨x,rfl,_⟩:=h;rfl
 obtain⟨x,rfl,hz,q⟩:=h
 refine⟨_,(ah (ax (aA G_is_whole hr rfl (aa (pv 0) (aa (aU (v:=.int 6) rfl hMF ⟨_,rfl⟩) ad))))),?_⟩
 walk_at "rd"
 exact⟨x,6,rfl,by lia,hz,λH' g=>q H' g⟩
end
inductive Op | add | sub | mul
def Op.sg:Op->Str | .add=>"+" | .sub=>"-" | .mul=>"*"
inductive Tr | name (x:Str) | num (n:Int) | now | own | bin (o:Op) (l r:Tr)
def Tr.toD:Tr->PyData
 | .name x=>.tuple [.str "name",.str x]
 | .num n=>.tuple [.str "number",.int n]
 | .now=>.tuple [.str "now"]
 | .own=>.tuple [.str "own"]
 | .bin o l r=>.tuple [.str o.sg,l.toD,r.toD]
def bc(x:Str):Option Tr:=if x= "now" then some .now else if x= "own" then some .own else if aW x=true then some (.name x) else if cV x=true then (PySem.intText? x).map .num else none
theorem bC(a b:Str):(a++b).length=a.length+b.length:=by
 show(a.cps++b.cps).size=_
 rw [Array.size_append];rfl
theorem ju{s:Str}{c:Nat}:isL s c=decide (c∈s.cps.toList):=PySem.StrLaws.found_one s c
theorem Bx:(Str.ofString "0123456789").cps.toList=List.range' 48 10:=by decide +kernel
theorem fW{c:Nat}(h:isL "0123456789" c=true):48<=c/\c<=57:=by
 rw [ju,decide_eq_true_eq] at h
 have h':c∈(Str.ofString "0123456789").cps.toList:=h
 rw [Bx,mem_range'_1] at h'
 lia
theorem rK{x:Str}(h:cV x=true):x.length<=6/\PySem.intText? x=some ((PySem.NumText.digitsVal x.cps.toList:Nat):Int):=by
 unfold cV at h
 simp only [and_eq_true,decide_eq_true_eq] at h
 obtain⟨⟨⟨h1,h2⟩,_⟩,h4⟩:=h
 refine⟨h2,PySem.intText_digits (λc hc=>fW (List.all_eq_true.mp h4 c hc)) (λe=>?_) (by lia)⟩
 have:x.cps.toList.length=x.length:=Array.length_toList
 rw [e] at this
 have e0:(0:Nat)=x.length:=this
 lia
section
variable{P:Program}{w:World}{K:PySem.W.Frag}{mg:Str->Option Value}{base:Heap}
def pZ(K:PySem.W.Frag)(C:Addr):Sp:=λvs H Q E=>∃x:Str,vs= [.str x]/\x.length<=100000/\(∀t,bc x=some t->∀r H',Same H H'->Rp K H' r t.toD->Q r H')/\(bc x=none->∀H',Same H H'->E (.ref C) none H')
theorem yG(D:DefAt K mg "leaf" pU ["token"])(G_is_name:OkD P w K mg base 1 "is_name" ["word"] lE)(G_is_number:OkD P w K mg base 2 "is_number" ["word"] mS){C:Addr}(O_NoRow:cB K mg "NoRow" C)
 (hint:mg "int" =none):OkR P w K mg base 3 "leaf" ["token"] (pZ K C):=by
 refine D.okR yE (λvs H Q E h=>?_) (λf cdv A outer s H vs Q E hr h=>?_)
 ·obtain⟨x,rfl,_⟩:=h;rfl
 obtain⟨x,rfl,hz,q,qn⟩:=h
 refine⟨_,(af (aB (aj dR (pv 0) (az (aa ac (aa ac ad))) (by with_unfolding_all rfl))
 (ah (ax (az (aa (pv 0) ad))))
 ay)
 (af (aB (hV (br G_is_name.toR cA hr rfl (aa (pv 0) ad)))
 (ah (ax (az (aa ac (aa (pv 0) ad)))))
 ay)
 (af (aB (hV (br G_is_number.toR cA hr rfl (aa (pv 0) ad)))
 (ah (ax (az (aa ac (aa (dL j9 rfl hint (by decide +kernel) (aa (pv 0) ad)) ad)))))
 ay)
 (ah (bS bx rfl O_NoRow rfl (aa (eM (bb ac (bb (dU (pv 0)) fA))) ad)))))),?_⟩
 walk_at "rd"
 intro p H1 hp g1 h1
 refine⟨_,.inl h1,rfl,?_⟩
 unfold bc at q qn
 simp only [bR,eK,dj,Bool.or_false,or_eq_true,decide_eq_true_eq]
 by_cases c1:x=Str.ofString "now"
 ·rw [if_pos (.inl c1.symm)]
  intro p2 H2 hp2 g2 h2
  exact q .now (if_pos c1) _ _ (g1.trans g2) (.tup h2 (.cons (by rw [c1];exact .str _) .nil))
 ·rw [if_neg c1] at q qn
  by_cases c2:x=Str.ofString "own"
  ·rw [if_pos (.inr c2.symm)]
   intro p2 H2 hp2 g2 h2
   exact q .own (if_pos c2) _ _ (g1.trans g2) (.tup h2 (.cons (by rw [c2];exact .str _) .nil))
  ·rw [if_neg c2] at q qn
   rw [if_neg (λh=>h.elim (λh=>c1 h.symm) λh=>c2 h.symm)]
   have hz':x.length<=sizeLine:=by unfold sizeLine;lia
   refine⟨x,rfl,hz',λH2 g2=>⟨_,rfl,?_⟩⟩
   cases c3:aW x with
   | true=>
    rw [if_pos c3] at q
    refine cX λp3 H3 hp3 g3 h3=>?_
    exact q _ rfl _ _ (g1.trans (g2.trans g3)) (.tup h3 (.cons (.str _) (.cons (.str _) .nil)))
   | false=>
    rw [if_neg (by rw [c3];exact Bool.false_ne_true)] at q qn
    refine cK ⟨x,rfl,hz',λH3 g3=>⟨_,rfl,?_⟩⟩
    cases c4:cV x with
    | true=>
     obtain⟨h6,hi⟩:=rK c4
     rw [if_pos c4,hi] at q
     refine cX ⟨_,hi,by lia,λp4 H4 hp4 g4 h4=>?_⟩
     exact q _ rfl _ _ (g1.trans (g2.trans (g3.trans g4))) (.tup h4 (.cons (.str _) (.cons (.int _) .nil)))
    | false=>
     rw [if_neg (by rw [c4];exact Bool.false_ne_true)] at qn
     have hm:(Str.empty++Str.ofString "no factor of an expression: "++x).length<=sizeLine:=by
      rw [bC,bC]
      have e1:(Str.ofString "no factor of an expression: ").length=28:=by decide +kernel
      have e0:Str.empty.length=0:=rfl
      rw [e1,e0]
      unfold sizeLine
      lia
     refine cK ⟨by decide +kernel,hz',hm,hm,qn rfl _ (g1.trans (g2.trans g3))⟩
end
def bh(s:List Str×Str)(c:Nat):List Str×Str:=if isL "+-*()" c=true then (s.1++[s.2]++[⟨#[c]⟩],Str.ofString "") else (s.1,s.2++⟨#[c]⟩)
def bT(l:List Nat):List Str×Str:=l.foldl bh ([],Str.ofString "")
def bj(s:List Str×Str):List Str:=s.1++[s.2]
def bv(x:Str):List Str:=(bj (bT x.cps.toList)).filter (λt=>!decide (t=Str.ofString ""))++[Str.ofString ""]
def tH(s:List Str×Str)(n:Nat):Prop:=s.1.length<=2*n/\s.2.length<=n
theorem kS(l:List Nat)(c:Nat):bT (l++[c])=bh (bT l) c:=by unfold bT;rw [foldl_append];rfl
theorem qa:∀(l:List Nat) (s:List Str×Str) (n:Nat),tH s n->tH (l.foldl bh s) (n+l.length)
 | [],s,n,h=>h
 | c::l,s,n,h=>by
  have e:n+(c::l).length=(n+1)+l.length:=by rw [length_cons];lia
  rw [e]
  refine qa l (bh s c) (n+1) ?_
  obtain⟨h1,h2⟩:=h
  unfold bh tH
  split
  ·refine⟨?_,zero_le _⟩
   show(s.1++[s.2]++[_]).length<=_
   simp only [length_append,length_singleton];lia
  ·refine⟨by show s.1.length<=_;lia,?_⟩
   show(s.2++_).length<=_
   rw [bC]
   have:(⟨#[c]⟩:Str).length=1:=rfl
   lia
theorem wE(l:List Nat):tH (bT l) l.length:=by
 have:=qa l ([],Str.ofString "") 0 ⟨le_refl _,zero_le _⟩
 rw [zero_add] at this
 exact this
theorem rL{d:List Str}{u:Str}:ixN ((d++[u]).map V.str).length (-1)=some d.length:=by
 unfold ixN
 rw [if_neg (by decide),length_map,length_append,length_singleton,if_pos (by lia)]
 congr 1;lia
theorem yH{d:List Str}{u:Str}:atI ((d++[u]).map V.str) (-1)=some (V.str u):=by
 unfold atI
 rw [rL]
 simp
theorem wF{d:List Str}{u v:Str}:((d++[u]).map V.str).set d.length (V.str v)=(d++[v]).map V.str:=by
 simp
section
variable{P:Program}{w:World}{K:PySem.W.Frag}{mg:Str->Option Value}{base:Heap}
def xJ:Sp:=λvs H Q _=>∃x:Str,vs= [.str x]/\x.length<=60/\∀p H',H p=none->Same H H'->H' p=some (.lst ((bv x).map V.str))->Q (.ref p) H'
theorem qb{H H':Hp}{p:Addr}(g:Same H H')(h:H' p=none):H p=none:=by
 cases e:H p with
 | none=>rfl
 | some o=>rw [g _ _ e] at h;cases h
theorem qc(D:DefAt K mg "tokens_of" iV ["word"]){t1 t2:Tok}(hSIGNS:mg "SIGNS" =some (.str "+-*()" t1))(hLAST:mg "LAST" =some (.str "" t2)):
 OkD P w K mg base 1 "tokens_of" ["word"] xJ:=by
 refine D.ok sc_tokens_of (λvs H Q E h=>?_) (λf cdv A outer s H vs Q E hr h=>?_)
 ·obtain⟨x,rfl,_⟩:=h;rfl
 obtain⟨x,rfl,hz,q⟩:=h
 refine⟨_,(af (ai (i:=1) sc_tokens_of.nd rfl (Or.inl rfl) (ak (aa ac ad)))
 (af (hZ PassesOwn.never rfl (lT (pv 0)) (aw (i:=2) sc_tokens_of.nd rfl (Or.inl rfl))
 (ah (aB (aj j2 (pv 2) (aU (v:=.str "+-*()") rfl hSIGNS ⟨_,rfl⟩) (by with_unfolding_all rfl))
 (af (aS (bp (pv 1) (pv 2)))
 (ah (aS (bp (pv 1) ac))))
 (ah (bQ (ag aq (ao av (pv 1) (gu eT ae) (λ_ _=>rfl)) (pv 2)) (lL (pv 1) (gu eT ae) iL))))))
 (ah (ax (ag aV (mL (iT rfl rfl rfl) rfl (fk (pv 1)) rfl rfl (λ_ _ _ _=>(mK (aj lM (pv 0) ac (ap _)))) (λ_ _ _ _=>(pv 0))) (ak (aa (aU (v:=.str "") rfl hLAST ⟨_,rfl⟩) ad))))))),?_⟩
 walk_at "rd"
 intro p H1 hp g1 h1
 have hxl:x.cps.toList.length<=60:=by rw [Array.length_toList];exact hz
 refine pz x (λR hR=>⟨_,rfl,hR⟩) (λl σ H2=>∃v,σ= [some (.str x),some (.ref p),v]/\Same H H2/\H2 p=some (.lst ((bj (bT l)).map V.str))) ⟨_,rfl,g1,h1⟩ ?_ ?_
 ·rintro l c r σ H2 hx ⟨v,rfl,g2,h2⟩
  have hl:l.length+1<=60:=by
   have e:=congrArg List.length hx
   rw [length_append,length_cons] at e
   lia
  have b:=wE l
  rw [kS]
  generalize bT l=u at h2 b
  obtain⟨d,u⟩:=u
  obtain⟨b1,b2⟩:=b
  have b1':d.length<=2*l.length:=b1
  have b2':u.length<=l.length:=b2
  unfold bj at h2⊢
  unfold bh
  walk_at "rd"
  have e:(!(Builtin.Str.occurrences (Str.ofString "+-*()") {cps:= #[c]} 0 (Str.ofString "+-*()").length 1).isEmpty)=isL "+-*()" c:=rfl
  rw [e]
  cases hc:isL "+-*()" c with
  | true=>
   refine cX ⟨?_,λH3 m3=>⟨_,m3.at_,_,m3.at_,?_,λH4 m4=>⟨m4.same (m3.same g2 hp) hp,?_⟩⟩⟩
   ·simp only [length_map,length_append,length_singleton];unfold sizeLine;lia
   ·simp only [length_map,length_append,length_singleton];unfold sizeLine;lia
   ·rw [m4.at_,if_pos rfl]
    simp
  | false=>
   refine cK ⟨_,yH,_,rfl,?_,_,rL,λH3 m3=>⟨m3.same g2 hp,?_⟩⟩
   ·have e1:(⟨#[c]⟩:Str).length=1:=rfl
    rw [e1];unfold sizeLine;lia
   ·rw [m3.at_,wF,if_neg Bool.false_ne_true]
 ·rintro σ H2 ⟨v,rfl,g2,h2⟩
  have b:=wE x.cps.toList
  have bl:(bj (bT x.cps.toList)).length<=121:=by
   unfold bj
   rw [length_append,length_singleton]
   have:=b.1
   lia
  walk_at "rd"
  refine sR p _ (λv=>match v with | .str t=>!decide (t=Str.ofString "") | _=>true) id (λR hR=>⟨_,rfl,hR⟩) h2 (by rw [length_map];unfold sizeLine;lia) ?_ (λv hv _ H Q h=>⟨_,rfl,h⟩) ?_
  ·intro v hv H Q h
   obtain⟨t,ht,rfl⟩:=List.mem_map.mp hv
   walk_at "rd"
  ·intro d H3 hd g3 h3 p4 H4 hp4 g4 h4
   have ef:(((bj (bT x.cps.toList)).map V.str).filter (λv=>match v with | .str t=>!decide (t=Str.ofString "") | _=>true)).map id=((bj (bT x.cps.toList)).filter (λt=>!decide (t=Str.ofString ""))).map V.str:=by
    rw [List.map_id,List.filter_map];rfl
   rw [ef] at h3
   refine⟨_,rfl,_,g4 _ _ h3,_,h4,?_,λp5 H5 hp5 g5 h5=>q _ _ (qb (g2.trans (g3.trans g4)) hp5) (g2.trans (g3.trans (g4.trans g5))) ?_⟩
   ·rw [length_map]
    have:=List.length_filter_le (λt=>!decide (t=Str.ofString "")) (bj (bT x.cps.toList))
    rw [length_singleton]
    unfold sizeLine;lia
   ·rw [h5];unfold bv;rw [map_append];rfl
end
abbrev Pz:=List Str->Option (Tr×List Str)
def fI:Option (Tr×List Str)->Option (Tr×List Str)
 | some (e,t::r)=>if t=Str.ofString ")" then some (e,r) else none
 | _=>none
def bV(sub:Pz):Pz
 | []=>none
 | t::r=>if t=Str.ofString "(" then fI (sub r) else (bc t).map (·,r)
theorem cS{sub:Pz}{t:Str}{r:List Str}:bV sub (t::r)=if t=Str.ofString "(" then fI (sub r) else (bc t).map (·,r):=rfl
def cu(f:Pz)(sg:Str->Option Op):Nat->Tr->Pz
 | 0,e,rest=>some (e,rest)
 | n+1,e,rest=>match rest with
  | []=>some (e,[])
  | t::r=>match sg t with
   | none=>some (e,t::r)
   | some o=>match f r with
    | none=>none
    | some (e2,r2)=>cu f sg n (.bin o e e2) r2
def bn(f:Pz)(sg:Str->Option Op):Pz:=λrest=>match f rest with
 | none=>none
 | some (e,r)=>cu f sg r.length e r
def bq(t:Str):Option Op:=if t=Str.ofString "*" then some .mul else none
def bf(t:Str):Option Op:=if t=Str.ofString "+" then some .add else if t=Str.ofString "-" then some .sub else none
def smF:Nat->Pz
 | 0=>bn (bn (bV λ_=>none) bq) bf
 | k+1=>bn (bn (bV (smF k)) bq) bf
def Ends(l:List Str):Prop:=l.getLast? =some (Str.ofString "")
theorem Ends.drop{l:List Str}{n:Nat}(h:Ends l)(hn:n<l.length):Ends (l.drop n):=by
 unfold Ends at h⊢
 rw [List.getLast?_drop,if_neg (by lia)];exact h
theorem nR:bc (Str.ofString "")=none:=by decide +kernel
theorem tI:bq (Str.ofString "")=none:=by decide +kernel
theorem tJ:bf (Str.ofString "")=none:=by decide +kernel
structure tK(T:List Str):Prop where
 ends:Ends T
 few:T.length<=1000
 short:∀t∈T,t.length<=100000
theorem qT{e:Tr}{t:Str}{r:List Str}:fI (some (e,t::r))=if t=Str.ofString ")" then some (e,r) else none:=rfl
theorem kj{T:List Str}{i:Nat}(h:i<T.length):atI (T.map V.str) (i:Int)=some (V.str T[i]):=by
 unfold atI ixN
 rw [if_pos (by lia),length_map,if_pos (by lia)]
 simp [h]
section
variable{P:Program}{w:World}{K:PySem.W.Frag}{mg:Str->Option Value}{base:Heap}
def jN(K:PySem.W.Frag)(C:Addr)(f:Pz)(d:Nat):Sp:=λvs H Q E=>∃(p:Addr) (T:List Str) (i:Nat),vs= [.ref p,.int i,.int d]/\H p=some (.lst (T.map V.str))/\tK T/\i<T.length/\
 (∀e n,f (T.drop i)=some (e,T.drop n)->i<n->n<T.length->∀r a H',Same H H'->H' r=some (.tup [a,.int (n:Nat)])->Rp K H' a e.toD->Q (.ref r) H')/\(f (T.drop i)=none->∀H',Same H H'->E (.ref C) none H')
theorem jv(D:DefAt K mg "read_factor" eW ["tokens","at","depth"]){C:Addr}{n k:Nat}{sub:Pz}{t1:Tok}(hk:k<=5)(h0:k=0->∀l,sub l=none)(hMB:mg "MOST_BRACKETS" =some (.int 5 t1))(O_NoRow:cB K mg "NoRow" C)
 (G_leaf:OkR P w K mg base 3 "leaf" ["token"] (pZ K C)) {spS:Sp} (hS:k≠0->∀vs H Q E,jN K C sub (6-k) vs H Q E->spS vs H Q E) (G_read_sum:OkR P w K mg base n "read_sum" ["tokens","at","depth"] spS) (hn:3<=n):OkR P w K mg base (n+1) "read_factor" ["tokens","at","depth"] (jN K C (bV sub) (5-k)):=by
 refine D.okR sc_read_factor (λvs H Q E h=>?_) (λf cdv A outer s H vs Q E hr h=>?_)
 ·obtain⟨p,T,i,rfl,_⟩:=h;rfl
 obtain⟨p,T,i,rfl,hp,hT,hi,q,qn⟩:=h
 refine⟨_,(af (aB (aj lM (ao av (pv 0) (pv 1) (λ_ _=>rfl)) ac (ap _))
 (ah (ax (az (aa (br G_leaf cA hr rfl (aa (ao av (pv 0) (pv 1) (λ_ _=>rfl)) ad)) (aa (ag aM (pv 1) ae) ad)))))
 ay)
 (af (aB (aj aJ (pv 2) (aU (v:=.int 5) rfl hMB ⟨_,rfl⟩) (ap _))
 (ah (bS bx rfl O_NoRow rfl (aa ac ad)))
 ay)
 (af (bQ (br G_read_sum cA hr rfl (aa (pv 0) (aa (ag aM (pv 1) ae) (aa (ag aM (pv 2) ae) ad)))) (dO 2 rfl (aD (aw (i:=3) sc_read_factor.nd rfl (Or.inl rfl)) (aD (aw (i:=1) sc_read_factor.nd rfl (Or.inl rfl)) bO))))
 (af (aB (aj lM (ao av (pv 0) (pv 1) (λ_ _=>rfl)) ac (ap _))
 (ah (bS bx rfl O_NoRow rfl (aa ac ad)))
 ay)
 (ah (ax (az (aa (pv 3) (aa (ag aM (pv 1) ae) ad))))))))),?_⟩
 have ha:=kj hi
 walk_at "rd"
 have hd:T.drop i=T[i]::T.drop (i+1):=drop_eq_getElem_cons hi
 rw [hd,cS] at q qn
 by_cases c:T[i]=Str.ofString "("
 ·rw [decide_eq_true c]
  rw [if_pos c] at q qn
  refine cK (aY (λc5=>?_) (λc5=>?_))
  ·rw [h0 (by lia)] at qn
   exact qn rfl H (Same.refl H)
  ·have hi1:i+1<T.length:=by
    by_cases hh:i+1<T.length
    ·exact hh
    ·have he:=hT.ends.drop hi
     rw [hd,drop_eq_nil_of_le (by lia)] at he
     unfold Ends at he
     rw [getLast?_singleton,c] at he
     exact absurd he (by decide +kernel)
   refine hS (by lia) _ _ _ _ ⟨p,T,i+1,?_,hp,hT,hi1,λe n hf h1 h2 r a H1 g1 hr1 ra=>⟨r,rfl,_,hr1,rfl,_,_,rfl,_,_,rfl,rfl,_,rfl,_,.inr (g1 _ _ hp),_,kj h2,rfl,?_⟩,λhf H1 g1=>?_⟩
   ·have e6:((5-k:Nat):Int)+1=((6-k:Nat):Int):=by lia
    rw [e6];rfl
   ·have hdn:T.drop n=T[n]::T.drop (n+1):=drop_eq_getElem_cons h2
    rw [hf,hdn] at q qn
    rw [qT] at q qn
    by_cases c2:T[n]=Str.ofString ")"
    ·rw [c2,decide_eq_true rfl]
     rw [if_pos c2] at q
     refine cK ⟨_,rfl,λp2 H2 hp2 g2 h2'=>?_⟩
     have hn1:n+1<T.length:=by
      by_cases hh:n+1<T.length
      ·exact hh
      ·have he:=hT.ends.drop h2
       rw [hdn,drop_eq_nil_of_le (by lia)] at he
       unfold Ends at he
       rw [getLast?_singleton,c2] at he
       exact absurd he (by decide +kernel)
     exact q e (n+1) rfl (by lia) hn1 _ _ _ (g1.trans g2) h2' (Rp.mono g2 ra)
    ·rw [if_neg c2] at qn
     rw [decide_eq_false (λh=>c2 (V.str.inj h))]
     exact cX (qn rfl _ g1)
   ·rw [hf] at qn
    exact qn rfl _ g1
 ·rw [decide_eq_false c]
  rw [if_neg c] at q qn
  refine cX ⟨T[i],rfl,hT.short _ (getElem_mem hi),λt ht a H1 g1 ra p2 H2 hp2 g2 h2=>?_,λhl H1 g1=>?_⟩
  ·rw [ht] at q
   have hi1:i+1<T.length:=by
    by_cases hh:i+1<T.length
    ·exact hh
    ·have he:=hT.ends.drop hi
     rw [hd,drop_eq_nil_of_le (by lia)] at he
     unfold Ends at he
     rw [getLast?_singleton] at he
     rw [Option.some.inj he,nR] at ht;cases ht
   exact q t (i+1) rfl (by lia) hi1 _ _ _ (g1.trans g2) h2 (Rp.mono g2 ra)
  ·rw [hl] at qn
   exact qn rfl _ g1
end
section
variable{P:Program}{w:World}{K:PySem.W.Frag}{mg:Str->Option Value}{base:Heap}
def LoopS(K:PySem.W.Frag)(C:Addr)(f:Pz)(sg:Str->Option Op)(H:Hp)(T:List Str)(i:Nat)(Q:VK)(E:XK)(j:Nat)(a:V)(H2:Hp):Prop:=∃(n:Nat) (e:Tr),Same H H2/\Rp K H2 a e.toD/\i<j/\j<T.length/\(T.drop j).length<=n/\
 (∀e' k,cu f sg n e (T.drop j)=some (e',T.drop k)->i<k->k<T.length->∀r a H',Same H H'->H' r=some (.tup [a,.int (k:Nat)])->Rp K H' a e'.toD->Q (.ref r) H')/\(cu f sg n e (T.drop j)=none->∀H',Same H H'->E (.ref C) none H')
theorem mq{f:Pz}{sg:Str->Option Op}{n:Nat}{e:Tr}{t:Str}{r:List Str}:cu f sg (n+1) e (t::r)=match sg t with
 | none=>some (e,t::r)
 | some o=>match f r with
  | none=>none
  | some (e2,r2)=>cu f sg n (.bin o e e2) r2:=rfl
section
variable{C:Addr}{f:Pz}{sg:Str->Option Op}{H:Hp}{T:List Str}{i:Nat}{Q:VK}{E:XK}{j:Nat}{a:V}{H2:Hp}
theorem LoopS.mono{H3:Hp}(L:LoopS K C f sg H T i Q E j a H2)(g:Same H2 H3):LoopS K C f sg H T i Q E j a H3:=by
 obtain⟨n,e,g2,ra,r⟩:=L
 exact⟨n,e,g2.trans g,Rp.mono g ra,r⟩
theorem LoopS.stop(L:LoopS K C f sg H T i Q E j a H2)(h:∀hj:j<T.length,sg T[j]=none){p:Addr}{H':Hp}(g:Same H2 H')(hp:H' p=some (.tup [a,.int (j:Nat)])):Q (.ref p) H':=by
 obtain⟨n,e,g2,ra,h1,h2,hn,q,qn⟩:=L
 have hd:T.drop j=T[j]::T.drop (j+1):=drop_eq_getElem_cons h2
 cases n with
 | zero=>rw [length_drop] at hn;lia
 | succ n=>
  refine q e j ?_ h1 h2 p a H' (g2.trans g) hp (Rp.mono g ra)
  rw [hd,mq,h h2]
theorem LoopS.step(L:LoopS K C f sg H T i Q E j a H2)(hsg:sg (Str.ofString "")=none){o:Op}(h:∀hj:j<T.length,sg T[j]=some o)(hT:tK T){p:Addr}(hp:H2 p=some (.lst (T.map V.str))){d:Nat}{Q':VK}
 (hq:∀j' r ar H3,j<j'->j'<T.length->Same H2 H3->H3 r=some (.tup [ar,.int (j':Nat)])->(∀q H4,Same H3 H4->H4 q=some (.tup [.str o.sg,a,ar])->LoopS K C f sg H T i Q E j' (.ref q) H4)->Q' (.ref r) H3):
 jN K C f d [.ref p,.int ((j:Int)+1),.int d] H2 Q' E:=by
 obtain⟨n,e,g2,ra,h1,h2,hn,q,qn⟩:=L
 have hd:T.drop j=T[j]::T.drop (j+1):=drop_eq_getElem_cons h2
 have hj1:j+1<T.length:=by
  by_cases hh:j+1<T.length
  ·exact hh
  ·have he:=hT.ends.drop h2
   rw [hd,drop_eq_nil_of_le (by lia)] at he
   unfold Ends at he
   rw [getLast?_singleton] at he
   have:=h h2
   rw [Option.some.inj he,hsg] at this;cases this
 cases n with
 | zero=>rw [length_drop] at hn;lia
 | succ n=>
  rw [hd,mq,h h2] at q qn
  refine⟨p,T,j+1,rfl,hp,hT,hj1,λe2 k hf h3 h4 r ar H3 g3 hr3 rar=>hq k r ar H3 (by lia) h4 g3 hr3 λq4 H4 g4 h4'=>?_,λhf H3 g3=>?_⟩
  ·simp only [hf] at q qn
   refine⟨n,.bin o e e2,g2.trans (g3.trans g4),.tup h4' (.cons (.str _) (.cons (Rp.mono (g3.trans g4) ra) (.cons (Rp.mono g4 rar) .nil))),by lia,h4,?_,q,qn⟩
   rw [length_drop] at hn⊢
   lia
  ·simp only [hf] at qn
   exact qn trivial _ (g2.trans g3)
end
theorem km(D:DefAt K mg "read_term" gz ["tokens","at","depth"]){C:Addr}{n d:Nat}{f:Pz}
 (G_read_factor:OkR P w K mg base n "read_factor" ["tokens","at","depth"] (jN K C f d)):OkR P w K mg base (n+1) "read_term" ["tokens","at","depth"] (jN K C (bn f bq) d):=by
 refine D.okR sc_read_term (λvs H Q E h=>?_) (λff cdv A outer s H vs Q E hr h=>?_)
 ·obtain⟨p,T,i,rfl,_⟩:=h;rfl
 obtain⟨p,T,i,rfl,hp,hT,hi,q,qn⟩:=h
 refine⟨_,(af (bQ (br G_read_factor cA hr rfl (aa (pv 0) (aa (pv 1) (aa (pv 2) ad)))) (dO 2 rfl (aD (aw (i:=3) sc_read_term.nd rfl (Or.inl rfl)) (aD (aw (i:=1) sc_read_term.nd rfl (Or.inl rfl)) bO))))
 (af (oO k9 (aj aJ (ao av (pv 0) (pv 1) (λ_ _=>rfl)) ac (ap _))
 (af (bQ (br G_read_factor cA hr rfl (aa (pv 0) (aa (ag aM (pv 1) ae) (aa (pv 2) ad)))) (dO 2 rfl (aD (aw (i:=4) sc_read_term.nd rfl (Or.inl rfl)) (aD (aw (i:=1) sc_read_term.nd rfl (Or.inl rfl)) bO))))
 (ah (ai (i:=3) sc_read_term.nd rfl (Or.inl rfl) (az (aa ac (aa (pv 3) (aa (pv 4) ad))))))))
 (ah (ax (az (aa (pv 3) (aa (pv 1) ad))))))),?_⟩
 walk_at "rd"
 refine⟨p,T,i,rfl,hp,hT,hi,λe j hj h1 h2 r a H1 g1 hr1 ra=>⟨r,rfl,_,hr1,rfl,_,_,rfl,_,_,rfl,rfl,?_⟩,λhj H1 g1=>qn (by unfold bn;rw [hj]) _ g1⟩
 have hres:bn f bq (T.drop i)=cu f bq (T.drop j).length e (T.drop j):=by unfold bn;rw [hj]
 rw [hres] at q qn
 refine⟨λm σ H2=>∃(j:Nat) (a:V) (v:Option V),σ= [some (.ref p),some (.int j),some (.int d),some a,v]/\m=T.length-j/\LoopS K C f bq H T i Q E j a H2,⟨_,j,a,_,rfl,rfl,_,e,g1,ra,h1,h2,le_refl _,q,qn⟩,?_⟩
 clear q qn hres hj hr1 g1 ra h2 h1 hi
 rintro m σ H2 ⟨j,a,v,rfl,rfl,L⟩
 obtain⟨n,e,g2,_,_,h2,_⟩:=id L
 have hp2:=g2 _ _ hp
 have ha:=kj h2
 walk_at "rd"
 refine aY (λc=>?_) (λc=>?_)
 ·refine⟨λσ' H'=>∃(j':Nat) (a:V) (v:Option V),σ'= [some (.ref p),some (.int j'),some (.int d),some a,v]/\j<j'/\j'<T.length/\LoopS K C f bq H T i Q E j' a H',λσ' H' ⟨j',a,v,e,hl,hl2,L'⟩=>⟨T.length-j',by lia,j',a,v,e,rfl,L'⟩,?_⟩
  refine L.step tI (o:=.mul) (λ_=>if_pos c) hT hp2 λj' r ar H3 hj hj2 g3 hr3 hL=>⟨r,rfl,_,hr3,rfl,_,_,rfl,_,_,rfl,rfl,λp4 H4 hp4 g4 h4=>⟨j',_,_,rfl,hj,hj2,hL p4 H4 g4 h4⟩⟩
 ·intro p3 H3 hp3 g3 h3
  exact L.stop (λ_=>if_neg c) g3 h3
theorem kT(D:DefAt K mg "read_sum" gT ["tokens","at","depth"]){C:Addr}{n d:Nat}{f:Pz}
 (G_read_term:OkR P w K mg base n "read_term" ["tokens","at","depth"] (jN K C f d)):OkR P w K mg base (n+1) "read_sum" ["tokens","at","depth"] (jN K C (bn f bf) d):=by
 refine D.okR sc_read_sum (λvs H Q E h=>?_) (λff cdv A outer s H vs Q E hr h=>?_)
 ·obtain⟨p,T,i,rfl,_⟩:=h;rfl
 obtain⟨p,T,i,rfl,hp,hT,hi,q,qn⟩:=h
 refine⟨_,(af (bQ (br G_read_term cA hr rfl (aa (pv 0) (aa (pv 1) (aa (pv 2) ad)))) (dO 2 rfl (aD (aw (i:=3) sc_read_sum.nd rfl (Or.inl rfl)) (aD (aw (i:=1) sc_read_sum.nd rfl (Or.inl rfl)) bO))))
 (af (oO k9 (aj dR (ao av (pv 0) (pv 1) (λ_ _=>rfl)) (az (aa ac (aa ac ad))) (by with_unfolding_all rfl))
 (af (ai (i:=4) sc_read_sum.nd rfl (Or.inl rfl) (ao av (pv 0) (pv 1) (λ_ _=>rfl)))
 (af (bQ (br G_read_term cA hr rfl (aa (pv 0) (aa (ag aM (pv 1) ae) (aa (pv 2) ad)))) (dO 2 rfl (aD (aw (i:=5) sc_read_sum.nd rfl (Or.inl rfl)) (aD (aw (i:=1) sc_read_sum.nd rfl (Or.inl rfl)) bO))))
 (ah (ai (i:=3) sc_read_sum.nd rfl (Or.inl rfl) (az (aa (pv 4) (aa (pv 3) (aa (pv 5) ad)))))))))
 (ah (ax (az (aa (pv 3) (aa (pv 1) ad))))))),?_⟩
 walk_at "rd"
 refine⟨p,T,i,rfl,hp,hT,hi,λe j hj h1 h2 r a H1 g1 hr1 ra=>⟨r,rfl,_,hr1,rfl,_,_,rfl,_,_,rfl,rfl,?_⟩,λhj H1 g1=>qn (by unfold bn;rw [hj]) _ g1⟩
 have hres:bn f bf (T.drop i)=cu f bf (T.drop j).length e (T.drop j):=by unfold bn;rw [hj]
 rw [hres] at q qn
 refine⟨λm σ H2=>∃(j:Nat) (a:V) (v v':Option V),σ= [some (.ref p),some (.int j),some (.int d),some a,v,v']/\m=T.length-j/\LoopS K C f bf H T i Q E j a H2,⟨_,j,a,_,_,rfl,rfl,_,e,g1,ra,h1,h2,le_refl _,q,qn⟩,?_⟩
 clear q qn hres hj hr1 g1 ra h2 h1 hi
 rintro m σ H2 ⟨j,a,v,v',rfl,rfl,L⟩
 obtain⟨n,e,g2,ra,h1,h2,hn,q,qn⟩:=id L
 have hp2:=g2 _ _ hp
 have ha:=kj h2
 walk_at "rd"
 clear ra h1 hn q qn
 intro p3 H3 hp3 g3 h3
 refine⟨_,.inl h3,rfl,?_⟩
 simp only [bR,eK,dj,Bool.or_false,or_eq_true,decide_eq_true_eq]
 have L3:=L.mono g3
 refine aY (λc=>?_) (λc=>?_)
 ·refine⟨λσ' H'=>∃(j':Nat) (a:V) (v v':Option V),σ'= [some (.ref p),some (.int j'),some (.int d),some a,v,v']/\j<j'/\j'<T.length/\LoopS K C f bf H T i Q E j' a H',λσ' H' ⟨j',a,v,v',e,hl,hl2,L'⟩=>⟨T.length-j',by lia,j',a,v,v',e,rfl,L'⟩,_,.inr (g3 _ _ hp2),_,ha,?_⟩
  have ho:∃o:Op,T[j]=o.sg/\bf T[j]=some o:=by
   rcases c with c | c
   ·exact⟨.add,c.symm,if_pos c.symm⟩
   ·refine⟨.sub,c.symm,?_⟩
    unfold bf
    rw [<-c,if_neg (by decide +kernel),if_pos rfl]
  obtain⟨o,ho1,ho2⟩:=ho
  rw [ho1]
  refine L3.step tJ (o:=o) (λ_=>ho2) hT (g3 _ _ hp2) λj' r ar H4 hj hj2 g4 hr4 hL=>⟨r,rfl,_,hr4,rfl,_,_,rfl,_,_,rfl,rfl,λp5 H5 hp5 g5 h5=>⟨j',_,_,_,rfl,hj,hj2,hL p5 H5 g5 h5⟩⟩
 ·intro p4 H4 hp4 g4 h4
  refine L3.stop (λ_=>?_) g4 h4
  unfold bf
  rw [if_neg (λh=>c (.inl h.symm)),if_neg (λh=>c (.inr h.symm))]
end
def dr(x:Str):Option Tr:=if 60<x.length then none else match smF 5 (bv x) with
 | some (e,t::_)=>if t=Str.ofString "" then some e else none
 | _=>none
def wG(s:List Str×Str)(n:Nat):Prop:=(∀t∈s.1,t.length<=n)/\s.2.length<=n
theorem qe:∀(l:List Nat) (s:List Str×Str) (n:Nat),wG s n->wG (l.foldl bh s) (n+l.length)
 | [],s,n,h=>h
 | c::l,s,n,h=>by
  have e:n+(c::l).length=(n+1)+l.length:=by rw [length_cons];lia
  rw [e]
  refine qe l (bh s c) (n+1) ?_
  obtain⟨h1,h2⟩:=h
  have h3:(⟨#[c]⟩:Str).length=1:=rfl
  unfold bh wG
  split
  ·refine⟨λt ht=>?_,zero_le _⟩
   have ht':t∈s.1++[s.2]++[⟨#[c]⟩]:=ht
   simp only [mem_append,mem_singleton] at ht'
   rcases ht' with (h | rfl) | rfl
   ·have:=h1 t h;lia
   ·lia
   ·lia
  ·refine⟨λt ht=>Nat.le_succ_of_le (h1 t ht),?_⟩
   show(s.2++_).length<=_
   rw [bC];lia
theorem By{x:Str}(h:x.length<=60):tK (bv x):=by
 have hl:x.cps.toList.length=x.length:=Array.length_toList
 refine⟨?_,?_,λt ht=>?_⟩
 ·unfold Ends bv;rw [List.getLast?_concat]
 ·unfold bv
  have h1:=List.length_filter_le (λt=>!decide (t=Str.ofString "")) (bj (bT x.cps.toList))
  have h2:=(wE x.cps.toList).1
  have h3:(bj (bT x.cps.toList)).length=(bT x.cps.toList).1.length+1:=by unfold bj;rw [length_append,length_singleton]
  rw [length_append,length_singleton]
  lia
 ·have b:=qe x.cps.toList ([],Str.ofString "") 0 (And.intro (λt ht=>absurd ht (not_mem_nil)) (zero_le _))
  unfold bv at ht
  rw [mem_append] at ht
  rcases ht with ht | ht
  ·have hm:=(List.mem_filter.mp ht).1
   unfold bj at hm
   rw [mem_append,mem_singleton] at hm
   rcases hm with hm | rfl
   ·have:=b.1 t hm;lia
   ·have:(bT x.cps.toList).2.length<=0+x.cps.toList.length:=b.2
    lia
  ·rw [List.mem_singleton.mp ht];exact zero_le _
section
variable{P:Program}{w:World}{K:PySem.W.Frag}{mg:Str->Option Value}{base:Heap}
theorem rM{C:Addr}{t1:Tok}(Df:DefAt K mg "read_factor" eW ["tokens","at","depth"])(Dt:DefAt K mg "read_term" gz ["tokens","at","depth"])(Ds:DefAt K mg "read_sum" gT ["tokens","at","depth"])
 (hMB:mg "MOST_BRACKETS" =some (.int 5 t1)) (O:cB K mg "NoRow" C) (G_leaf:OkR P w K mg base 3 "leaf" ["token"] (pZ K C)):
 ∀k,k<=5->OkR P w K mg base (3*k+6) "read_sum" ["tokens","at","depth"] (jN K C (smF k) (5-k))
 | 0,_=>kT Ds (km Dt (jv Df (k:=0) (by lia) (λ_ _=>rfl) hMB O G_leaf (spS:=λ_ _ _ _=>False) (λh=>absurd rfl h) (Ds.neverR 3 λ_ _ _ _ h=>h) (le_refl _)))
 | k+1,hk=>by
  have e:5-k=6-(k+1):=by lia
  have G:=rM Df Dt Ds hMB O G_leaf k (by lia)
  rw [e] at G
  exact kT Ds (km Dt (jv Df (k:=k+1) hk (λh=>by lia) hMB O G_leaf (λ_ _ _ _ _ h=>h) G (by lia)))
def u2(K:PySem.W.Frag)(C:Addr):Sp:=λvs H Q E=>∃x:Str,vs= [.str x]/\x.length<=100000/\(∀t,dr x=some t->∀r H',Same H H'->Rp K H' r t.toD->Q r H')/\(dr x=none->∀H',Same H H'->E (.ref C) none H')
theorem oo(D:DefAt K mg "expression" ir ["word"]){C:Addr}{t1 t2:Tok}(hMS:mg "MOST_SIGNS" =some (.int 60 t1))(hLAST:mg "LAST" =some (.str "" t2))(hlen:mg "len" =none)(O_NoRow:cB K mg "NoRow" C)
 (G_tokens_of:OkD P w K mg base 1 "tokens_of" ["word"] xJ) (G_read_sum:OkR P w K mg base 21 "read_sum" ["tokens","at","depth"] (jN K C (smF 5) 0)):OkR P w K mg base 22 "expression" ["word"] (u2 K C):=by
 refine D.okR sc_expression (λvs H Q E h=>?_) (λf cdv A outer s H vs Q E hr h=>?_)
 ·obtain⟨x,rfl,_⟩:=h;rfl
 obtain⟨x,rfl,hz,q,qn⟩:=h
 refine⟨_,(af (aB (aj jF (aN dQ rfl hlen PySem.boot_len (aa (pv 0) ad)) (aU (v:=.int 60) rfl hMS ⟨_,rfl⟩) (ap _))
 (ah (bS bx rfl O_NoRow rfl (aa ac ad)))
 ay)
 (af (ai (i:=1) sc_expression.nd rfl (Or.inl rfl) (br G_tokens_of.toR cA hr rfl (aa (pv 0) ad)))
 (af (bQ (br G_read_sum cA hr rfl (aa (pv 1) (aa ae (aa ae ad)))) (dO 2 rfl (aD (aw (i:=2) sc_expression.nd rfl (Or.inl rfl)) (aD (aw (i:=3) sc_expression.nd rfl (Or.inl rfl)) bO))))
 (af (aB (aj lM (ao av (pv 1) (pv 3) (λ_ _=>rfl)) (aU (v:=.str "") rfl hLAST ⟨_,rfl⟩) (ap _))
 (ah (bS bx rfl O_NoRow rfl (aa (eM (bb ac (bb (dU (pv 0)) fA))) ad)))
 ay)
 (ah (ax (pv 2))))))),?_⟩
 have hz':x.length<=sizeLine:=by unfold sizeLine;lia
 walk_at "rd"
 refine aY (λc=>?_) (λc=>?_)
 ·refine qn ?_ H (Same.refl H)
  unfold dr;rw [if_pos (by lia)]
 ·have c60:x.length<=60:=by lia
  unfold dr at q qn
  rw [if_neg (by lia)] at q qn
  have hT:=By c60
  have h0:0<(bv x).length:=by unfold bv;rw [length_append,length_singleton];lia
  refine⟨x,rfl,c60,λp H1 hp g1 h1=>⟨p,_,0,rfl,h1,hT,h0,λe n hf hn0 hn r a H2 g2 hr2 ra=>⟨r,rfl,_,hr2,rfl,_,_,rfl,_,_,rfl,rfl,p,rfl,_,rfl,_,.inr (g2 _ _ h1),_,kj hn,rfl,?_⟩,λhf H2 g2=>?_⟩⟩
  ·rw [drop_zero,drop_eq_getElem_cons hn] at hf
   rw [hf] at q qn
   by_cases ce:(bv x)[n]=Str.ofString ""
   ·rw [ce,decide_eq_true rfl]
    exact cK (q e (if_pos ce) a H2 (g1.trans g2) ra)
   ·rw [decide_eq_false (λh=>ce (V.str.inj h))]
    have hm:(Str.empty++Str.ofString "no expression: "++x).length<=sizeLine:=by
     rw [bC,bC]
     have e1:(Str.ofString "no expression: ").length=15:=by decide +kernel
     have e0:Str.empty.length=0:=rfl
     rw [e1,e0]
     unfold sizeLine
     lia
    exact cX ⟨by decide +kernel,hm,hm,qn (if_neg ce) H2 (g1.trans g2)⟩
  ·rw [drop_zero] at hf
   rw [hf] at qn
   exact qn rfl H2 (g1.trans g2)
end
def Len(f:Pz):Prop:=∀r e r2,f r=some (e,r2)->r2.length<r.length
theorem qf{f:Pz}{sg:Str->Option Op}(h:Len f):∀(n:Nat) (e:Tr) (rest:List Str) (e':Tr) (r':List Str),cu f sg n e rest=some (e',r')->r'.length<=rest.length
 | 0,e,rest,e',r',hf=>by cases hf;exact le_refl _
 | n+1,e,[],e',r',hf=>by cases hf;exact le_refl _
 | n+1,e,t::r,e',r',hf=>by
  unfold cu at hf
  dsimp only at hf
  cases hs:sg t with
  | none=>rw [hs] at hf;cases hf;exact le_refl _
  | some o=>
   rw [hs] at hf
   dsimp only at hf
   cases hr:f r with
   | none=>rw [hr] at hf;cases hf
   | some p=>
    obtain⟨e2,r2⟩:=p
    rw [hr] at hf
    dsimp only at hf
    have h1:=qf h n _ _ _ _ hf
    have h2:=h _ _ _ hr
    rw [length_cons];lia
theorem gF{f:Pz}{sg:Str->Option Op}(h:Len f):Len (bn f sg):=by
 intro r e r2 hf
 unfold bn at hf
 cases hr:f r with
 | none=>rw [hr] at hf;cases hf
 | some p=>
  obtain⟨e1,r1⟩:=p
  rw [hr] at hf
  dsimp only at hf
  have:=qf h _ _ _ _ _ hf
  have:=h _ _ _ hr
  lia
theorem dF{sub:Pz}(h:Len sub):Len (bV sub):=by
 intro r e r2 hf
 cases r with
 | nil=>cases hf
 | cons t r=>
  rw [cS] at hf
  rw [length_cons]
  by_cases c:t=Str.ofString "("
  ·rw [if_pos c] at hf
   cases hs:sub r with
   | none=>rw [hs] at hf;cases hf
   | some p=>
    obtain⟨e1,r1⟩:=p
    rw [hs] at hf
    have h1:=h _ _ _ hs
    cases r1 with
    | nil=>cases hf
    | cons t1 r1=>
     unfold fI at hf
     dsimp only at hf
     split at hf
     ·cases hf;rw [length_cons] at h1;lia
     ·cases hf
  ·rw [if_neg c] at hf
   cases hl:bc t with
   | none=>rw [hl] at hf;cases hf
   | some u=>rw [hl] at hf;cases hf;lia
def iA:Nat->Pz
 | 0=>λ_=>none
 | k+1=>smF k
theorem kn:∀k,smF k=bn (bn (bV (iA k)) bq) bf
 | 0=>rfl
 | _+1=>rfl
theorem fX:∀k,Len (iA k)
 | 0=>λ_ _ _ h=>nomatch h
 | k+1=>by
  show Len (smF k)
  rw [kn]
  exact gF (gF (dF (fX k)))
theorem nU{f:Pz}{sg:Str->Option Op}(h:Len f):∀(n m:Nat) (e:Tr) (rest:List Str),rest.length<=n->rest.length<=m->cu f sg n e rest=cu f sg m e rest
 | 0,0,e,rest,_,_=>rfl
 | 0,m+1,e,[],_,_=>rfl
 | 0,m+1,e,t::r,h1,_=>absurd h1 (by rw [length_cons];lia)
 | n+1,0,e,[],_,_=>rfl
 | n+1,0,e,t::r,_,h1=>absurd h1 (by rw [length_cons];lia)
 | n+1,m+1,e,[],_,_=>rfl
 | n+1,m+1,e,t::r,h1,h2=>by
  unfold cu
  dsimp only
  cases hs:sg t with
  | none=>rfl
  | some o=>
   dsimp only
   cases hr:f r with
   | none=>rfl
   | some p=>
    obtain⟨e2,r2⟩:=p
    dsimp only
    have:=h _ _ _ hr
    rw [length_cons] at h1 h2
    exact nU h n m _ _ (by lia) (by lia)
abbrev fE(f:Pz)(sg:Str->Option Op)(e:Tr)(rest:List Str):Option (Tr×List Str):=cu f sg rest.length e rest
theorem nV{f:Pz}{sg:Str->Option Op}(h:Len f){e e2:Tr}{o:Op}{t:Str}{r r2:List Str}(hs:sg t=some o)(hr:f r=some (e2,r2)):fE f sg e (t::r)=fE f sg (.bin o e e2) r2:=by
 unfold fE
 rw [length_cons]
 show cu f sg (r.length+1) e (t::r)=_
 rw [cu,hs]
 dsimp only
 rw [hr]
 exact nU h _ _ _ _ (le_of_lt (h _ _ _ hr)) (le_refl _)
theorem nW{f:Pz}{sg:Str->Option Op}{e:Tr}{o:Op}{t:Str}{r:List Str}(hs:sg t=some o)(hr:f r=none):fE f sg e (t::r)=none:=by
 unfold fE
 rw [length_cons,cu,hs]
 dsimp only
 rw [hr]
def dM(sg:Str->Option Op):List Str->Prop
 | []=>True
 | t::_=>sg t=none
theorem iN{f:Pz}{sg:Str->Option Op}{e:Tr}:∀{rest:List Str},dM sg rest->fE f sg e rest=some (e,rest)
 | [],_=>rfl
 | t::r,h=>by
  have h:sg t=none:=h
  unfold fE
  rw [length_cons,cu,h]
theorem qg{f:Pz}{sg:Str->Option Op}{e:Tr}{a r:List Str}(h:f a=some (e,r)):bn f sg a=fE f sg e r:=by
 unfold bn
 rw [h]
theorem qh{f:Pz}{sg:Str->Option Op}{a:List Str}(h:f a=none):bn f sg a=none:=by
 unfold bn
 rw [h]
inductive Pr:Nat->Tr->List Str->Nat->Prop
 | leaf {lv:Nat} {t:Tr} {x:Str}:x≠Str.ofString "("->bc x=some t->Pr lv t [x] 0
 | brk {lv:Nat} {t:Tr} {a:List Str} {d:Nat}:Pr 2 t a d->Pr lv t (Str.ofString "("::(a++[Str.ofString ")"])) (d+1)
 | mul {lv:Nat} {l r:Tr} {a b:List Str} {d e:Nat}:Pr 1 l a d->Pr 0 r b e->1<=lv->Pr lv (.bin .mul l r) (a++Str.ofString "*"::b) (max d e)
 | sum {o:Op} {l r:Tr} {a b:List Str} {d e:Nat}:Pr 2 l a d->Pr 1 r b e->bf o.sg=some o->Pr 2 (.bin o l r) (a++o.sg::b) (max d e)
theorem Pr.up{lv lv':Nat}{t:Tr}{a:List Str}{d:Nat}(h:Pr lv t a d)(hl:lv<=lv')(hm:lv'<=2):Pr lv' t a d:=by
 cases h with
 | leaf h1 h2=>exact .leaf h1 h2
 | brk h=>exact .brk h
 | mul h1 h2 h3=>exact .mul h1 h2 (le_trans h3 hl)
 | sum h1 h2 h3=>
  have:lv'=2:=Nat.le_antisymm hm hl
  subst this
  exact .sum h1 h2 h3
theorem yI{t:Str}{o:Op}(h:bf t=some o):bq t=none:=by
 unfold bf at h
 unfold bq
 split at h
 ·rename_i e;subst e;decide +kernel
 ·split at h
  ·rename_i e;subst e;decide +kernel
  ·cases h
structure Reads0(k:Nat)(t:Tr)(a:List Str)(d:Nat):Prop where
 ok:d<=k->∀rest,bV (iA k) (a++rest)=some (t,rest)
 no:k<d->∀rest,bV (iA k) (a++rest)=none
structure Reads1(k:Nat)(t:Tr)(a:List Str)(d:Nat):Prop where
 ok:d<=k->∀rest,bn (bV (iA k)) bq (a++rest)=fE (bV (iA k)) bq t rest
 no:k<d->∀rest,bn (bV (iA k)) bq (a++rest)=none
structure ko(k:Nat)(t:Tr)(a:List Str)(d:Nat):Prop where
 ok:d<=k->∀rest,dM bq rest->smF k (a++rest)=fE (bn (bV (iA k)) bq) bf t rest
 no:k<d->∀rest,dM bq rest->smF k (a++rest)=none
theorem Reads0.one{k:Nat}{t:Tr}{a:List Str}{d:Nat}(h:Reads0 k t a d):Reads1 k t a d:=
 ⟨λhd rest=>qg (h.ok hd rest),λhd rest=>qh (h.no hd rest)⟩
theorem Reads1.two{k:Nat}{t:Tr}{a:List Str}{d:Nat}(h:Reads1 k t a d):ko k t a d:=by
 refine⟨λhd rest hr=>?_,λhd rest hr=>?_⟩
 ·rw [kn]
  exact qg ((h.ok hd rest).trans (iN hr))
 ·rw [kn]
  exact qh (h.no hd rest)
theorem jO{k:Nat}{t:Tr}{x:Str}(h1:x≠Str.ofString "(")(h2:bc x=some t):Reads0 k t [x] 0:=by
 refine⟨λ_ rest=>?_,λh=>absurd h (Nat.not_lt_zero _)⟩
 show bV (iA k) (x::rest)=_
 rw [cS,if_neg h1,h2]
 rfl
theorem kq{t:Tr}{a:List Str}{d:Nat}(h:∀k,ko k t a d)(k:Nat):Reads0 k t (Str.ofString "("::(a++[Str.ofString ")"])) (d+1):=by
 have e:∀rest,(Str.ofString "("::(a++[Str.ofString ")"]))++rest=Str.ofString "("::(a++Str.ofString ")"::rest):=λrest=>by simp
 have nm:∀rest:List Str,dM bq (Str.ofString ")"::rest):=λrest=>(show bq (Str.ofString ")")=none by decide +kernel)
 have ns:∀rest:List Str,dM bf (Str.ofString ")"::rest):=λrest=>(show bf (Str.ofString ")")=none by decide +kernel)
 refine⟨λhd rest=>?_,λhd rest=>?_⟩
 ·rw [e,cS,if_pos rfl]
  cases k with
  | zero=>lia
  | succ k=>
   show fI (smF k (a++Str.ofString ")"::rest))=_
   rw [(h k).ok (by lia) _ (nm rest),iN (ns rest)]
   unfold fI
   dsimp only
   rw [if_pos rfl]
 ·rw [e,cS,if_pos rfl]
  cases k with
  | zero=>rfl
  | succ k=>
   show fI (smF k (a++Str.ofString ")"::rest))=_
   rw [(h k).no (by lia) _ (nm rest)]
   rfl
theorem nY{k:Nat}{l r:Tr}{a b:List Str}{d e:Nat}(hl:Reads1 k l a d)(hr:Reads0 k r b e):Reads1 k (.bin .mul l r) (a++Str.ofString "*"::b) (max d e):=by
 have sg:bq (Str.ofString "*")=some .mul:=by unfold bq;rw [if_pos rfl]
 have ea:∀rest,(a++Str.ofString "*"::b)++rest=a++(Str.ofString "*"::(b++rest)):=λrest=>by simp
 refine⟨λhd rest=>?_,λhd rest=>?_⟩
 ·rw [ea,hl.ok (by lia),nV (dF (fX k)) sg (hr.ok (by lia) rest)]
 ·rw [ea]
  by_cases hk:k<d
  ·exact hl.no hk _
  ·rw [hl.ok (by lia),nW sg (hr.no (by lia) rest)]
theorem u3{k:Nat}{o:Op}{l r:Tr}{a b:List Str}{d e:Nat}(ho:bf o.sg=some o)(hl:ko k l a d)(hr:Reads1 k r b e):ko k (.bin o l r) (a++o.sg::b) (max d e):=by
 have ea:∀rest,(a++o.sg::b)++rest=a++(o.sg::(b++rest)):=λrest=>by simp
 have nm:∀rest:List Str,dM bq (o.sg::rest):=λrest=>yI ho
 refine⟨λhd rest hn=>?_,λhd rest hn=>?_⟩
 ·rw [ea,hl.ok (by lia) _ (nm _),nV (gF (dF (fX k))) ho ((hr.ok (by lia) rest).trans (iN hn))]
 ·rw [ea]
  by_cases hk:k<d
  ·exact hl.no hk _ (nm _)
  ·rw [hl.ok (by lia) _ (nm _),nW ho (hr.no (by lia) rest)]
theorem Pr.reads{lv:Nat}{t:Tr}{a:List Str}{d:Nat}(h:Pr lv t a d):(lv=0->∀k,Reads0 k t a d)/\(lv<=1->∀k,Reads1 k t a d)/\∀k,ko k t a d:=by
 induction h with
 | leaf h1 h2=>exact⟨λ_ k=>jO h1 h2,λ_ k=>(jO h1 h2).one,λk=>(jO h1 h2).one.two⟩
 | brk _ ih=>exact⟨λ_ k=>kq ih.2.2 k,λ_ k=>(kq ih.2.2 k).one,λk=>(kq ih.2.2 k).one.two⟩
 | mul _ _ h3 ih1 ih2=>exact⟨λh=>by lia,λ_ k=>nY (ih1.2.1 (le_refl _) k) (ih2.1 rfl k),λk=>(nY (ih1.2.1 (le_refl _) k) (ih2.1 rfl k)).two⟩
 | sum _ _ h3 ih1 ih2=>exact⟨λh=>by lia,λh=>by lia,λk=>u3 h3 (ih1.2.2 k) (ih2.2.1 (le_refl _) k)⟩
theorem Pr.whole{t:Tr}{a:List Str}{d:Nat}(h:Pr 2 t a d)(k:Nat):smF k (a++[Str.ofString ""])=if d<=k then some (t,[Str.ofString ""]) else none:=by
 have nm:dM bq [Str.ofString ""]:=(show bq (Str.ofString "")=none by decide +kernel)
 have ns:dM bf [Str.ofString ""]:=(show bf (Str.ofString "")=none by decide +kernel)
 by_cases hd:d<=k
 ·rw [if_pos hd,(h.reads.2.2 k).ok hd _ nm,iN ns]
 ·rw [if_neg hd,(h.reads.2.2 k).no (by lia) _ nm]
def cT(a:List Str):List Nat:=a.flatMap λt=>t.cps.toList
def qi(t:Str):Prop:=∃c,t=⟨#[c]⟩/\isL (Str.ofString "+-*()") c=true
def mT(t:Str):Prop:=t≠Str.ofString ""/\∀c∈t.cps.toList,isL (Str.ofString "+-*()") c=false
def Apart:Bool->List Str->Prop
 | _,[]=>True
 | b,t::r=>(qi t/\Apart false r)\/(b=false/\mT t/\Apart true r)
theorem qj:∀(l:List Nat) (s:List Str×Str),(∀c∈l,isL (Str.ofString "+-*()") c=false)->l.foldl bh s=(s.1,⟨s.2.cps++l.toArray⟩)
 | [],s,_=>by simp
 | c::l,s,h=>by
  rw [foldl_cons]
  have e:bh s c=(s.1,s.2++⟨#[c]⟩):=by
   unfold bh
   rw [if_neg (by rw [h c mem_cons_self];exact Bool.false_ne_true)]
  rw [e,qj l _ λd hd=>h d (mem_cons_of_mem _ hd)]
  have:(s.2++(⟨#[c]⟩:Str)).cps++l.toArray=s.2.cps++(c::l).toArray:=by
   show(s.2.cps++ #[c])++l.toArray=_
   rw [Array.append_assoc]
   congr 1
   simp
  rw [this]
def fil(l:List Str):List Str:=l.filter λt=>!decide (t=Str.ofString "")
theorem fY(a b:List Str):fil (a++b)=fil a++fil b:=filter_append ..
theorem dX:(Str.ofString "").cps= #[]:=by decide +kernel
theorem iO:fil [Str.ofString ""]= []:=by decide +kernel
theorem kJ{t:Str}(h:t≠Str.ofString ""):fil [t]= [t]:=by
 unfold fil
 rw [List.filter_cons_of_pos (by simpa using h)]
 rfl
theorem kr:∀(a:List Str) (b:Bool) (s:List Str×Str),Apart b a->(b=false->s.2=Str.ofString "")->fil (bj ((cT a).foldl bh s))=fil (bj s)++a
 | [],b,s,_,_=>by simp [cT]
 | t::r,b,s,h,hs=>by
  have ef:cT (t::r)=t.cps.toList++cT r:=by unfold cT;rw [flatMap_cons]
  rw [ef,foldl_append]
  rcases h with ⟨⟨c,rfl,hc⟩,hr⟩ | ⟨rfl,⟨hn,hl⟩,hr⟩
  ·have e:(#[c]:Array Nat).toList.foldl bh s=(s.1++[s.2]++[⟨#[c]⟩],Str.ofString ""):=by
    show bh s c=_
    unfold bh
    rw [if_pos hc]
   rw [e,kr r false _ hr λ_=>rfl]
   have n:(⟨#[c]⟩:Str)≠Str.ofString "":=λz=>by
    have:=congrArg (λx:Str=>x.cps.size) z
    rw [dX] at this
    exact absurd this (by simp)
   unfold bj
   rw [fY,iO,fY,kJ n]
   simp
  ·rw [qj _ s hl]
   have e2:s.2.cps++t.cps.toList.toArray=t.cps:=by
    rw [hs rfl,dX];simp
   rw [e2]
   rw [kr r true _ hr λz=>by cases z]
   have e3:(⟨t.cps⟩:Str)=t:=rfl
   unfold bj
   rw [e3,fY,kJ hn,fY,hs rfl,iO]
   simp
theorem qU{a:List Str}(h:Apart false a):bv ⟨(cT a).toArray⟩=a++[Str.ofString ""]:=by
 unfold bv bT
 have:=kr a false ([],Str.ofString "") h λ_=>rfl
 have e:fil (bj (([],Str.ofString ""):List Str×Str))= []:=iO
 rw [e] at this
 show fil (bj ((cT a).toArray.toList.foldl bh ([],Str.ofString "")))++_=_
 rw [this]
 rfl
theorem Apart.app:∀{a:List Str} {b:Bool} {t:Str} {r:List Str},Apart b a->qi t->Apart false r->Apart b (a++t::r)
 | [],b,t,r,_,hs,hr=>.inl ⟨hs,hr⟩
 | u::a,b,t,r,h,hs,hr=>by
  rcases h with ⟨h1,h2⟩ | ⟨h0,h1,h2⟩
  ·exact .inl ⟨h1,h2.app hs hr⟩
  ·exact .inr ⟨h0,h1,h2.app hs hr⟩
theorem xK(o:Op):qi o.sg:=by
 cases o
 ·exact⟨43,by decide +kernel,by decide +kernel⟩
 ·exact⟨45,by decide +kernel,by decide +kernel⟩
 ·exact⟨42,by decide +kernel,by decide +kernel⟩
theorem Db:qi (Str.ofString "("):=⟨40,by decide +kernel,by decide +kernel⟩
theorem Dc:qi (Str.ofString ")"):=⟨41,by decide +kernel,by decide +kernel⟩
theorem Pr.apart(hlf:∀x t,bc x=some t->mT x){lv:Nat}{t:Tr}{a:List Str}{d:Nat}(h:Pr lv t a d):Apart false a:=by
 induction h with
 | leaf _ h2=>exact .inr ⟨rfl,hlf _ _ h2,trivial⟩
 | brk _ ih=>exact .inl ⟨Db,ih.app Dc trivial⟩
 | mul _ _ _ ih1 ih2=>exact ih1.app (xK .mul) ih2
 | sum _ _ _ ih1 ih2=>exact ih1.app (xK _) ih2
def dz(s:Int×Int)(c:Nat):Int×Int:=
 let e:=if c=40 then s.1+1 else if c=41 then s.1-1 else s.1
 (e,max s.2 e)
theorem nZ:∀(l:List Nat) (s:Int×Int),(∀c∈l,isL (Str.ofString "+-*()") c=false)->s.1<=s.2->l.foldl dz s=s
 | [],s,_,_=>rfl
 | c::l,s,h,hs=>by
  rw [foldl_cons]
  have hc:=h c mem_cons_self
  have n1:c≠40:=λz=>by rw [z] at hc;revert hc;decide +kernel
  have n2:c≠41:=λz=>by rw [z] at hc;revert hc;decide +kernel
  have e:dz s c=s:=by
   unfold dz
   rw [if_neg n1,if_neg n2]
   show(s.1,max s.2 s.1)=s
   rw [Int.max_eq_left hs]
  rw [e]
  exact nZ l s (λd hd=>h d (mem_cons_of_mem _ hd)) hs
theorem rN{o:Op}{s:Int×Int}(hs:s.1<=s.2):o.sg.cps.toList.foldl dz s=s:=by
 have key:∀c:Nat,c≠40->c≠41->[c].foldl dz s=s:=λc n1 n2=>by
  show dz s c=s
  unfold dz
  rw [if_neg n1,if_neg n2]
  show(s.1,max s.2 s.1)=s
  rw [Int.max_eq_left hs]
 cases o
 ·exact key 43 (by decide) (by decide)
 ·exact key 45 (by decide) (by decide)
 ·exact key 42 (by decide) (by decide)
theorem dY(a b:List Str):cT (a++b)=cT a++cT b:=by unfold cT;rw [flatMap_append]
theorem bP(t:Str)(b:List Str):cT (t::b)=t.cps.toList++cT b:=by unfold cT;rw [flatMap_cons]
theorem u4:(Str.ofString "(").cps.toList= [40]:=by decide +kernel
theorem u5:(Str.ofString ")").cps.toList= [41]:=by decide +kernel
theorem Pr.deep(hlf:∀x t,bc x=some t->mT x){lv:Nat}{t:Tr}{a:List Str}{d:Nat}(h:Pr lv t a d):∀s:Int×Int,s.1<=s.2->(cT a).foldl dz s=(s.1,max s.2 (s.1+d)):=by
 induction h with
 | leaf _ h2=>
  intro s hs
  rw [bP,foldl_append,nZ _ s (hlf _ _ h2).2 hs]
  show s=_
  refine Prod.ext rfl ?_
  show s.2=max s.2 (s.1+((0:Nat):Int))
  lia
 | @brk lv t a d _ ih=>
  intro s hs
  rw [bP,dY,bP,u4,u5,foldl_append,foldl_append]
  have e1:[40].foldl dz s=(s.1+1,max s.2 (s.1+1)):=rfl
  rw [e1,ih _ (by show s.1+1<=max s.2 (s.1+1);lia)]
  show((s.1+1)-1,max (max (max s.2 (s.1+1)) (s.1+1+d)) (s.1+1-1))=_
  refine Prod.ext (by show s.1+1-1=s.1;lia) ?_
  show max (max (max s.2 (s.1+1)) (s.1+1+d)) (s.1+1-1)=max s.2 (s.1+((d+1:Nat):Int))
  lia
 | @mul lv l r a b d e _ _ _ ih1 ih2=>
  intro s hs
  rw [dY,bP,foldl_append,foldl_append,ih1 s hs]
  have:=rN (o:=.mul) (s:=(s.1,max s.2 (s.1+d))) (by show s.1<=max s.2 (s.1+d);lia)
  have e0:(Str.ofString "*")=Op.mul.sg:=rfl
  rw [e0,this,ih2 _ (by show s.1<=max s.2 (s.1+d);lia)]
  refine Prod.ext rfl ?_
  show max (max s.2 (s.1+d)) (s.1+e)=max s.2 (s.1+((max d e:Nat):Int))
  lia
 | @sum o l r a b d e _ _ _ ih1 ih2=>
  intro s hs
  rw [dY,bP,foldl_append,foldl_append,ih1 s hs]
  have:=rN (o:=o) (s:=(s.1,max s.2 (s.1+d))) (by show s.1<=max s.2 (s.1+d);lia)
  rw [this,ih2 _ (by show s.1<=max s.2 (s.1+d);lia)]
  refine Prod.ext rfl ?_
  show max (max s.2 (s.1+d)) (s.1+e)=max s.2 (s.1+((max d e:Nat):Int))
  lia
def jw(x:Str):Int:=(x.cps.toList.foldl dz (0,0)).2
theorem Pr.expr(hlf:∀x t,bc x=some t->mT x){t:Tr}{a:List Str}{d:Nat}(h:Pr 2 t a d){w:Str}(hw:w.cps.toList=cT a):jw w=d/\dr w=if w.length<=60/\jw w<=5 then some t else none:=by
 have hd:jw w=d:=by
  unfold jw
  rw [hw,h.deep hlf (0,0) (Int.le_refl _)]
  show max (0:Int) (0+d)=d
  lia
 refine⟨hd,?_⟩
 unfold dr
 by_cases hl:60<w.length
 ·rw [if_pos hl,if_neg (by lia)]
 ·rw [if_neg hl]
  have e:w=⟨(cT a).toArray⟩:=by rw [<-hw]
  have et:bv w=a++[Str.ofString ""]:=by rw [e,qU (h.apart hlf)]
  rw [et,h.whole 5]
  by_cases h5:d<=5
  ·rw [if_pos h5,if_pos ⟨by lia,by lia⟩]
   dsimp only
   rw [if_pos rfl]
  ·rw [if_neg h5,if_neg (by lia)]
theorem qk(m:Nat)(h:0<m):∃c r,Nat.toDigits 10 m=c::r/\c.toNat≠48:=by
 induction m using Nat.strongRecOn with
 | _ m ih=>
  by_cases hm:m<10
  ·refine⟨Nat.digitChar m,[],Nat.toDigits_of_lt_base hm,?_⟩
   have:∀d:Nat,d<10->0<d->(Nat.digitChar d).toNat≠48:=by decide
   exact this m hm h
  ·have hq:m%10<10:=Nat.mod_lt m (by decide)
   have t:Nat.toDigits 10 (m/10)++Nat.toDigits 10 (m%10)=Nat.toDigits 10 (10*(m/10)+m%10):=Nat.toDigits_append_toDigits (by decide) (by lia) hq
   rw [Nat.div_add_mod] at t
   obtain⟨c,r,e,hc⟩:=ih (m/10) (by lia) (by lia)
   exact⟨c,r++Nat.toDigits 10 (m%10),by rw [<-t,e];rfl,hc⟩
theorem sgS:(Str.ofString "+-*()").cps.toList= [43,45,42,40,41]:=by decide +kernel
theorem wH:(Str.ofString "abcdefghijklmnopqrstuvwxyz").cps.toList=List.range' 97 26:=by decide +kernel
theorem jx{c:Nat}(h:isL "abcdefghijklmnopqrstuvwxyz" c=true):97<=c/\c<=122:=by
 rw [ju,decide_eq_true_eq] at h
 have h':c∈(Str.ofString "abcdefghijklmnopqrstuvwxyz").cps.toList:=h
 rw [wH,mem_range'_1] at h'
 lia
theorem Dd{c:Nat}(h:48<=c):isL (Str.ofString "+-*()") c=false:=by
 rw [ju,decide_eq_false_iff_not,sgS]
 simp only [mem_cons,not_mem_nil,or_false]
 lia
theorem oF{x:Str}(hx:1<=x.length)(h:∀c∈x.cps.toList,48<=c):mT x:=by
 refine⟨λe=>?_,λc hc=>Dd (h c hc)⟩
 rw [e] at hx
 revert hx;decide +kernel
theorem rO(x:Str)(t:Tr)(h:bc x=some t):mT x:=by
 unfold bc at h
 split at h
 ·rename_i e;rw [e];exact oF (by decide +kernel) (by decide +kernel)
 split at h
 ·rename_i e;rw [e];exact oF (by decide +kernel) (by decide +kernel)
 split at h
 ·rename_i e
  unfold aW at e
  simp only [and_eq_true,decide_eq_true_eq] at e
  exact oF e.1.1.1 λc hc=>by have:=jx (List.all_eq_true.mp e.2 c hc);lia
 split at h
 ·rename_i e
  unfold cV at e
  simp only [and_eq_true,decide_eq_true_eq] at e
  exact oF e.1.1.1 λc hc=>(fW (List.all_eq_true.mp e.2 c hc)).1
 ·cases h
theorem jy(k:Nat):(Str.ofString (toString ((k:Nat):Int))).cps.toList=(Nat.toDigits 10 k).map Char.toNat:=PySem.W.KIN.signs_num k
theorem u6{c:Char}(h:c.isDigit=true):isL "0123456789" c.toNat=true:=by
 rw [ju,decide_eq_true_eq]
 show c.toNat∈(Str.ofString "0123456789").cps.toList
 rw [Bx,mem_range'_1]
 unfold Char.isDigit at h
 simp only [and_eq_true,decide_eq_true_eq] at h
 have h1:c.val.toNat>=48:=h.1
 have h2:c.val.toNat<=57:=h.2
 have e:c.toNat=c.val.toNat:=rfl
 lia
theorem cZ{k:Nat}(h:k<10^6):1<=(Str.ofString (toString ((k:Nat):Int))).length/\(Str.ofString (toString ((k:Nat):Int))).length<=6:=by
 have e:(Str.ofString (toString ((k:Nat):Int))).cps.toList.length=(Str.ofString (toString ((k:Nat):Int))).length:=Array.length_toList
 rw [<-e,jy,length_map]
 exact⟨PySem.toDigits_len_ge 10 k,PySem.toDigits_len_pow (by decide) (by decide) h⟩
theorem lF{k:Nat}(h:k<10^6):bc (Str.ofString (toString ((k:Nat):Int)))=some (.num k):=by
 have hd:∀c∈(Str.ofString (toString ((k:Nat):Int))).cps.toList,isL "0123456789" c=true:=λc hc=>by
  rw [jy] at hc
  obtain⟨d,hd,rfl⟩:=List.mem_map.mp hc
  exact u6 (Nat.isDigit_of_mem_toDigits (by decide) (by decide) hd)
 have hl:=cZ h
 have hne:(Str.ofString (toString ((k:Nat):Int))).cps.toList≠[]:=λe=>by
  have:=congrArg List.length e
  rw [Array.length_toList] at this
  have h2:(Str.ofString (toString ((k:Nat):Int))).length=0:=this
  lia
 obtain⟨c,r,ec⟩:=List.exists_cons_of_ne_nil hne
 have hc:isL "0123456789" c=true:=hd c (by rw [ec];exact mem_cons_self)
 have notS:∀s:Str,(∀d∈s.cps.toList.head?,isL "0123456789" d=false)->s.cps.toList≠[]->Str.ofString (toString ((k:Nat):Int))≠s:=λs hs hne' e=>by
  rw [e] at ec
  have:=hs c (by rw [ec];rfl)
  rw [hc] at this;cases this
 have e1:Str.ofString (toString ((k:Nat):Int))≠Str.ofString "now":=notS _ (by decide +kernel) (by decide +kernel)
 have e2:Str.ofString (toString ((k:Nat):Int))≠Str.ofString "own":=notS _ (by decide +kernel) (by decide +kernel)
 have e3:aW (Str.ofString (toString ((k:Nat):Int)))=false:=by
  cases hn:aW (Str.ofString (toString ((k:Nat):Int))) with
  | false=>rfl
  | true=>
   unfold aW at hn
   simp only [and_eq_true,decide_eq_true_eq] at hn
   have a:=jx (List.all_eq_true.mp hn.2 c (by rw [ec];exact mem_cons_self))
   have b:=fW hc
   lia
 have e4:cV (Str.ofString (toString ((k:Nat):Int)))=true:=by
  unfold cV
  simp only [and_eq_true,decide_eq_true_eq]
  refine⟨⟨hl,?_⟩,List.all_eq_true.mpr hd⟩
  by_cases hk:k=0
  ·subst hk
   decide +kernel
  ·obtain⟨ch,rr,ed,hch⟩:=qk k (by lia)
   have hs:PySem.Txt.startswith (Str.ofString (toString ((k:Nat):Int))) (Str.ofString "0")=false:=by
    have h1:(Str.ofString "0").length=1:=by decide +kernel
    have z:(Str.ofString "0").cps.toList= [48]:=by decide +kernel
    unfold PySem.Txt.startswith
    rw [PySem.StrLaws.subAt_eq,h1,jy,ed,z]
    rw [Bool.eq_false_iff]
    intro q
    simp at q
    exact hch q.2
   rw [hs,Bool.not_false,Bool.or_true]
 unfold bc
 rw [if_neg e1,if_neg e2,if_neg (by rw [e3];exact Bool.false_ne_true),if_pos e4,PySem.W.KIN.num_reads (by lia) (by lia)]
 rfl
def aF(k x:Str):Option PyData:=if k= "expression" then (dr x).map Tr.toD else if k= "number"/\cV x=true then (PySem.intText? x).map .int else if k= "name"/\aW x=true then some (.str x) else if k= "sign"/\(x= "<"\/x= "=") then some (.str x) else none
section
variable{P:Program}{w:World}{K:PySem.W.Frag}{mg:Str->Option Value}{base:Heap}
theorem cD(a b:Str):(a++b).length=a.length+b.length:=bC a b
theorem cE:Str.empty.length=0:=rfl
def u7(K:PySem.W.Frag)(C:Addr):Sp:=λvs H Q E=>∃k x:Str,vs= [.str k,.str x]/\k.length<=100/\x.length<=100000/\(∀d,aF k x=some d->∀r H',Same H H'->Rp K H' r d->Q r H')/\(aF k x=none->∀H',Same H H'->E (.ref C) none H')
theorem yJ{C:Addr}(D:DefAt K mg "part" pW ["kind","word"])(G_expression:OkR P w K mg base 22 "expression" ["word"] (u2 K C))(G_is_name:OkD P w K mg base 1 "is_name" ["word"] lE)(G_is_number:OkD P w K mg base 2 "is_number" ["word"] mS)(hint:mg "int" =none)(O_NoRow:cB K mg "NoRow" C):OkR P w K mg base 23 "part" ["kind","word"] (u7 K C):=by
 refine D.okR yF (λvs H Q E h=>?_) (λf cdv A outer s H vs Q E hr h=>?_)
 ·obtain⟨k,x,rfl,_⟩:=h;rfl
 obtain⟨k,x,rfl,hk,hx,q,e⟩:=h
 have big:2000000<=sizeLine:=by unfold sizeLine;decide
 refine⟨_,(af (aB (aj aJ (pv 0) ac (ap _))
 (ah (ax (br G_expression cA hr rfl (aa (pv 1) ad))))
 ay)
 (af (aB (PW.pt (dJ (aj aJ (pv 0) ac (ap _)) (cY (hV (br G_is_number.toR cA hr rfl (aa (pv 1) ad))))))
 (ah (ax (dL j9 rfl hint (by decide +kernel) (aa (pv 1) ad))))
 ay)
 (af (aB (PW.pt (dJ (aj aJ (pv 0) ac (ap _)) (cY (hV (br G_is_name.toR cA hr rfl (aa (pv 1) ad))))))
 (ah (ax (pv 1)))
 ay)
 (af (aB (PW.pt (dJ (aj aJ (pv 0) ac (ap _)) (cY (aj dR (pv 1) (az (aa ac (aa ac ad))) (by with_unfolding_all rfl)))))
 (ah (ax (pv 1)))
 ay)
 (ah (bS bx rfl O_NoRow rfl (aa (eM (bb ac (bb (dU (pv 0)) (bb ac (bb (dU (pv 1)) fA))))) ad))))))),?_⟩
 walk_at "rz"
 refine aY (λc1=>?_) λc1=>?_
 ·have ep:aF k x=(dr x).map Tr.toD:=if_pos c1
  walk_at "rz"
  refine⟨x,rfl,hx,λt et r H' g rt=>?_,λen H' g=>?_⟩
  ·exact q _ (by rw [ep,et];rfl) r H' g rt
  ·exact e (by rw [ep,en];rfl) H' g
 have l1:(Str.ofString "no ").length=3:=by decide +kernel
 have l2:(Str.ofString ": ").length=2:=by decide +kernel
 have sy:∀a b:Str,decide (a=b)=decide (b=a):=λa b=>by by_cases z:a=b<;>simp [z,eq_comm]
 walk_at "rz"
 refine aY (λc2=>?_) λc2=>?_
 ·subst c2
  walk_at "rz"
  refine⟨x,rfl,by lia,λH1 g1=>⟨_,rfl,?_⟩⟩
  cases c3:cV x with
  | true=>
   obtain⟨h6,hi⟩:=rK c3
   refine cX ?_
   walk_at "rz"
   exact⟨by lia,q _ (by unfold aF;rw [if_neg (by decide +kernel),if_pos ⟨rfl,c3⟩,hi];rfl) _ _ g1 (.int _)⟩
  | false=>
   refine cK ?_
   walk_at "rz"
   repeat (refine⟨by first | lia | (simp only [cD,cE,l1,l2];lia),?_⟩;try walk_at "rz")
   exact e (by unfold aF;rw [if_neg (by decide +kernel),if_neg (λz=>absurd z.2 (by rw [c3];decide)),if_neg (λz=>absurd z.1 (by decide +kernel)),if_neg (λz=>absurd z.1 (by decide +kernel))]) _ g1
 walk_at "rz"
 refine aY (λc3=>?_) λc3=>?_
 ·subst c3
  walk_at "rz"
  refine⟨x,rfl,by lia,λH1 g1=>⟨_,rfl,?_⟩⟩
  cases c4:aW x with
  | true=>
   refine cX ?_
   walk_at "rz"
   exact q _ (by unfold aF;rw [if_neg (by decide +kernel),if_neg (λz=>absurd z.1 (by decide +kernel)),if_pos ⟨rfl,c4⟩]) _ _ g1 (.str _)
  | false=>
   refine cK ?_
   walk_at "rz"
   repeat (refine⟨by first | lia | (simp only [cD,cE,l1,l2];lia),?_⟩;try walk_at "rz")
   exact e (by unfold aF;rw [if_neg (by decide +kernel),if_neg (λz=>absurd z.1 (by decide +kernel)),if_neg (λz=>absurd z.2 (by rw [c4];decide)),if_neg (λz=>absurd z.1 (by decide +kernel))]) _ g1
 walk_at "rz"
 refine aY (λc4=>?_) λc4=>?_
 ·subst c4
  walk_at "rz"
  intro p1 H1 hp1 g1 h1
  have es:aF (Str.ofString "sign") x=if x=Str.ofString "<"\/x=Str.ofString "=" then some (.str x) else none:=by
   unfold aF
   rw [if_neg (by decide +kernel),if_neg (λz=>absurd z.1 (by decide +kernel)),if_neg (λz=>absurd z.1 (by decide +kernel))]
   by_cases z:x=Str.ofString "<"\/x=Str.ofString "="
   ·rw [if_pos z,if_pos ⟨rfl,z⟩]
   ·rw [if_neg z,if_neg (λy=>z y.2)]
  have ei:inV (.str x) [.str "<",.str "="]=decide (x=Str.ofString "<"\/x=Str.ofString "="):=by
   rw [bR,bR,eK,dj,dj,Bool.or_false,sy "<" x,sy "=" x,decide_or]
  have w1:=PLift.up h1
  clear h1
  walk_at "rz"
  refine⟨_,.inl w1.down,rfl,rfl,decide (x=Str.ofString "<"\/x=Str.ofString "="),congrArg V.bl (by rw [if_neg (by decide)];exact ei),?_⟩
  clear w1
  by_cases z:x=Str.ofString "<"\/x=Str.ofString "="
  ·rw [decide_eq_true z]
   refine cX ?_
   walk_at "rz"
   exact q _ (by rw [es,if_pos z]) _ _ g1 (.str _)
  ·rw [decide_eq_false z]
   refine cK ?_
   walk_at "rz"
   repeat (refine⟨by first | lia | (simp only [cD,cE,l1,l2];lia),?_⟩;try walk_at "rz")
 walk_at "rz"
 repeat (refine⟨by first | lia | (simp only [cD,cE,l1,l2];lia),?_⟩;try walk_at "rz")
 exact e (by unfold aF;rw [if_neg c1,if_neg (λz=>c2 z.1),if_neg (λz=>c3 z.1),if_neg (λz=>c4 z.1)]) _ (Same.refl _)
def fixL:List (Str×List Str):=[("tool",["name","number"]),("store",["name","number","number"]),("row",["name"]),("hand",["name"]),("end",[]),("wait",["expression"]),("take",["name","expression"]),("give",["name","expression"]),("put",["name","expression"]),("get",["name","expression"]),("let",["name","expression"]),("draw",["name","name"]),("say",["name","expression"]),("start",["name"]),("if",["expression","sign","expression"]),("else",[]),("while",["expression","sign","expression"]),("stop",[])]
def tailL:List (Str×Str×Nat×Nat):=[("row","number",1,20),("hand","name",0,3),("start","expression",0,3)]
def bD(x:Str):Str×Nat×Nat:=(tailL.lookup x).getD ("",0,0)
def bi(ws:List Str):Option (List Str):=match ws with
 | []=>none
 | x::r=>match fixL.lookup x with
  | none=>none
  | some l=>if l.length+(bD x).2.1<=r.length/\r.length<=l.length+(bD x).2.2 then some (l++replicate (r.length-l.length) (bD x).1) else none
theorem gU{x:Str}{r:List Str}(h:fixL.lookup x=none):bi (x::r)=none:=by simp only [bi,h]
theorem fJ{x:Str}{r l:List Str}(h:fixL.lookup x=some l):bi (x::r)=if l.length+(bD x).2.1<=r.length/\r.length<=l.length+(bD x).2.2 then some (l++replicate (r.length-l.length) (bD x).1) else none:=by simp only [bi,h]
def FxA(P:Program)(w:World)(K:PySem.W.Frag)(a:Addr):Prop:=∃kvs,KD P w K a kvs/\(∀x l,fixL.lookup x=some l->∃t,cP kvs (.inr x)=some (.ref t)/\∀H,SqT K H t (l.map V.str))/\∀x,fixL.lookup x=none->cP kvs (.inr x)=none
def TlA(P:Program)(w:World)(K:PySem.W.Frag)(a:Addr):Prop:=∃kvs,KD P w K a kvs/\(∀x (k:Str) (n m:Nat),tailL.lookup x=some (k,n,m)->∃t,cP kvs (.inr x)=some (.ref t)/\∀H,SqT K H t [.str k,.int n,.int m])/\∀x,tailL.lookup x=none->cP kvs (.inr x)=none
def Bz(K:PySem.W.Frag)(C:Addr):Sp:=λvs H Q E=>∃(p:Addr) (ws:List Str),vs= [.ref p]/\H p=some (.lst (ws.map V.str))/\ws≠[]/\ws.length<=10000/\(∀x∈ws,x.length<=100000)/\(∀ks,bi ws=some ks->∀r H',Same H H'->SqT K H' r (ks.map V.str)->Q (.ref r) H')/\(bi ws=none->∀H',Same H H'->E (.ref C) none H')
def KdI(p:Addr)(x:Str)(t:Addr)(H1:Hp)(σ:St)(H':Hp):Prop:=σ= [some (.ref p),some (.str x),some (.ref t),none,none,none,none]/\H'=H1
theorem wI{C aFx aTl:Addr}(D:DefAt K mg "kinds_due" iW ["words"])(hFx:mg "FIXED" =some (.ref aFx))(hTl:mg "TAILS" =some (.ref aTl))(fx:FxA P w K aFx)(tl:TlA P w K aTl)(hlen:mg "len" =none)(O_NoRow:cB K mg "NoRow" C):OkR P w K mg base 1 "kinds_due" ["words"] (Bz K C):=by
 refine D.okR sc_kinds_due (λvs H Q E h=>?_) (λf cdv A outer s H vs Q E hr h=>?_)
 ·obtain⟨_,_,rfl,_⟩:=h;rfl
 obtain⟨p,ws,rfl,hp,hne,hz,hx,q,e⟩:=h
 have big:2000000<=sizeLine:=by unfold sizeLine;decide
 obtain⟨kvs,kdX,vX,nX⟩:=fx
 obtain⟨kvt,kdT,vT,nT⟩:=tl
 refine⟨_,(af (ai (i:=1) sc_kinds_due.nd rfl (Or.inl rfl) (ao av (pv 0) ae (λ_ _=>rfl)))
 (af (aB (zu (sU kdX (pv 1) (aU (v:=.ref aFx) rfl hFx rfl)) (by with_unfolding_all rfl))
 (ah (bS bx rfl O_NoRow rfl (aa (eM (bb ac (bb (dU (pv 1)) fA))) ad)))
 ay)
 (af (cL (ai (i:=2) sc_kinds_due.nd rfl (Or.inl rfl) (wv kdX (aU (v:=.ref aFx) rfl hFx rfl) (pv 1) (λ_ _=>rfl))))
 (af (bQ (uN kdT (aU (v:=.ref aTl) rfl hTl rfl) (pv 1) (az (aa lK (aa ae (aa ae ad)))) ⟨rfl,rfl,rfl,rfl⟩) (ud (n:=3) rfl (aD (aw (i:=3) sc_kinds_due.nd rfl (Or.inl rfl)) (aD (aw (i:=4) sc_kinds_due.nd rfl (Or.inl rfl)) (aD (aw (i:=5) sc_kinds_due.nd rfl (Or.inl rfl)) bO)))))
 (af (ai (i:=6) sc_kinds_due.nd rfl (Or.inl rfl) (ag gE (ag gE (aN aQ rfl hlen PySem.boot_len (aa (pv 0) ad)) ae) (aN ig rfl hlen PySem.boot_len (aa (pv 2) ad))))
 (af (aB (oK (vZ eJ eJ (pv 4) (pv 6) (pv 5)))
 (ah (bS bx rfl O_NoRow rfl (aa (eM (bb ac (bb (dU (pv 1)) fA))) ad)))
 ay)
 (ah (ax (ag yv (pv 2) (ag yw (az (aa (pv 3) ad)) (pv 6))))))))))),?_⟩
 cases ws with
 | nil=>exact absurd rfl hne
 | cons x r=>
 have hx0:=hx x (mem_cons_self ..)
 rw [map_cons] at hp
 walk_at "rz"
 have l1:(Str.ofString "no row begins so: ").length=18:=by decide +kernel
 have l2:(Str.ofString "a row with too many or too few words: ").length=38:=by decide +kernel
 cases lk:fixL.lookup x with
 | none=>
  rw [nX x lk]
  refine cX ?_
  walk_at "rz"
  repeat (refine⟨by first | lia | (simp only [cD,cE,l1,l2];lia),?_⟩;try walk_at "rz")
  exact e (gU lk) _ (Same.refl _)
 | some l=>
 obtain⟨t,ev,hsq⟩:=vX x l lk
 rw [ev]
 refine cK ?_
 have ev':=PLift.up ev
 clear ev
 walk_at "rz"
 refine⟨KdI p x t H,⟨_,ev'.down,rfl,rfl⟩,?_⟩
 rintro σ' H' ⟨rfl,rfl⟩
 walk_at "rz"
 intro pd H1 hpd g1 h1
 have h1':=PLift.up h1
 have hp1:=g1 _ _ hp
 clear h1 hp
 walk_at "rz"
 obtain⟨a,kv,ea,sqa,ekv⟩:∃a kv,(cP kvt (.inr x)).getD (.ref pd)= .ref a/\SqT K H1 a [kv,.int ((bD x).2.1:Nat),.int ((bD x).2.2:Nat)]/\(kv= .str (bD x).1\/(bD x).2.2=0):=by
  unfold bD
  cases tk:tailL.lookup x with
  | none=>exact⟨pd,.non,by rw [nT x tk];rfl,SqT.of h1'.down,.inr rfl⟩
  | some kk=>
   obtain⟨k,n,m⟩:=kk
   obtain⟨t2,e2,sq2⟩:=vT x k n m tk
   exact⟨t2,_,by rw [e2];rfl,sq2 _,.inl rfl⟩
 refine⟨a,ea,_,sqa,rfl,?_⟩
 walk_at "rz"
 refine⟨_,.inr (hsq _),?_⟩
 walk_at "rz"
 have eR:((((List.map V.str r).length+1:Nat):Int)-1-((List.map V.str l).length:Nat))=(r.length:Int)-(l.length:Int):=by rw [length_map,length_map];lia
 have ks:=fJ (r:=r) lk
 rw [length_cons] at hz
 refine aY (λc1=>?_) λc1=>?_
 ·rw [eR] at c1
  walk_at "rz"
  by_cases c2:(r.length:Int)-(l.length:Int)<=((bD x).2.2:Int)
  ·rw [decide_eq_true c2]
   rw [if_pos ⟨by lia,by lia⟩] at ks
   refine cK ?_
   walk_at "rz"
   intro p2 H2 hp2 g2 h2
   have h2':=PLift.up h2
   clear h2 hp1
   obtain⟨n,en⟩:∃n:Nat,n=r.length-l.length:=⟨_,rfl⟩
   rw [<-en] at ks
   have eN:(((V.str x::List.map V.str r).length:Nat):Int)-1-((List.map V.str l).length:Nat)=((n:Nat):Int):=by rw [length_cons];rw [eR];lia
   walk_at "rz"
   refine⟨_,SqT.of h2'.down,?_⟩
   rw [eN]
   refine⟨by lia,by lia,by rw [toNat_natCast,length_singleton];lia,by simp,λp3 H3 g3 sq3=>?_⟩
   rw [toNat_natCast] at sq3
   have ll:l.length<=10000:=by lia
   walk_at "rz"
   refine⟨_,hsq _,_,sq3,by simp;lia,λp4 H4 g4 sq4=>?_⟩
   have sq4:SqT K H4 p4 (List.map V.str l++(replicate n [kv]).flatten):=sq4
   refine q _ ks p4 H4 (g1.trans (g2.trans (g3.trans g4))) ?_
   rw [map_append,List.map_replicate]
   rcases ekv with rfl | z
   ·simpa using sq4
   ·have n0:n=0:=by lia
    subst n0
    simpa using sq4
  ·rw [decide_eq_false c2]
   refine cX ?_
   walk_at "rz"
   repeat (refine⟨by first | lia | (simp only [cD,cE,l1,l2];lia),?_⟩;try walk_at "rz")
   exact e (by rw [ks,if_neg (λz=>c2 (by lia))]) _ g1
 ·rw [eR] at c1
  walk_at "rz"
  repeat (refine⟨by first | lia | (simp only [cD,cE,l1,l2];lia),?_⟩;try walk_at "rz")
  exact e (by rw [ks,if_neg (λz=>c1 (by lia))]) _ g1
end
def jn(c:Nat):List (List Nat)->List Nat
 | []=>[]
 | [x]=>x
 | x::y::r=>x++c::jn c (y::r)
theorem rP{c:Nat}:∀{x y A B:List Nat},c∉x->c∉y->x++c::A=y++c::B->x=y/\A=B
 | [],[],A,B,_,_,h=>by injection h with _ h;exact⟨rfl,h⟩
 | [],d::y,A,B,_,hy,h=>by injection h with h _;exact absurd (h▸mem_cons_self) hy
 | d::x,[],A,B,hx,_,h=>by injection h with h _;exact absurd (h▸mem_cons_self) hx
 | d::x,e::y,A,B,hx,hy,h=>by
  injection h with h1 h2
  obtain⟨a,b⟩:=rP (λz=>hx (mem_cons_of_mem _ z)) (λz=>hy (mem_cons_of_mem _ z)) h2
  exact⟨by rw [h1,a],b⟩
theorem u8{c:Nat}:∀{l m:List (List Nat)},l≠[]->m≠[]->(∀x∈l,c∉x)->(∀x∈m,c∉x)->jn c l=jn c m->l=m
 | [],_,h,_,_,_,_=>absurd rfl h
 | _,[],_,h,_,_,_=>absurd rfl h
 | [x],[y],_,_,_,_,h=>by rw [show x=y from h]
 | [x],y::z::r,_,_,hx,_,h=>absurd (show c∈x by rw [show x=y++c::jn c (z::r) from h];simp) (hx x mem_cons_self)
 | x::z::r,[y],_,_,_,hy,h=>absurd (show c∈y by rw [<-show x++c::jn c (z::r)=y from h];simp) (hy y mem_cons_self)
 | x::z::r,y::z'::r',_,_,hx,hy,h=>by
  obtain⟨a,b⟩:=rP (hx x mem_cons_self) (hy y mem_cons_self) (show x++c::jn c (z::r)=y++c::jn c (z'::r') from h)
  rw [a,u8 (by simp) (by simp) (λq hq=>hx q (mem_cons_of_mem _ hq)) (λq hq=>hy q (mem_cons_of_mem _ hq)) b]
theorem bJ(c:Nat):∀ts:List Str,(Str.join ⟨#[c]⟩ ts).cps.toList=jn c (ts.map λt=>t.cps.toList)
 | []=>rfl
 | [x]=>rfl
 | x::y::r=>by
  show((x++⟨#[c]⟩++Str.join ⟨#[c]⟩ (y::r)):Str).cps.toList=_
  have e:((x++⟨#[c]⟩++Str.join ⟨#[c]⟩ (y::r)):Str).cps=x.cps++ #[c]++(Str.join ⟨#[c]⟩ (y::r)).cps:=rfl
  rw [e,Array.toList_append,Array.toList_append,bJ c (y::r)]
  simp [jn]
theorem jP(c:Nat){ys:List Str}(hy:ys≠[])(h:∀y∈ys,c∉y.cps.toList):PySem.Txt.split (Str.join ⟨#[c]⟩ ys) ⟨#[c]⟩=ys:=by
 have e:=PySem.StrLaws.join_split (Str.join ⟨#[c]⟩ ys) ⟨#[c]⟩
 have f:=PySem.StrLaws.split_free (Str.join ⟨#[c]⟩ ys) c
 have ne:PySem.Txt.split (Str.join ⟨#[c]⟩ ys) ⟨#[c]⟩≠[]:=λz=>by
  have:=PyProof.Rows.split_pos (Str.join ⟨#[c]⟩ ys) ⟨#[c]⟩
  rw [z] at this;simp at this
 have e2:=congrArg (λs:Str=>s.cps.toList) e
 simp only [bJ] at e2
 have:=u8 (c:=c) (by simpa using ne) (by simpa using hy) (λx hx=>by obtain⟨t,ht,rfl⟩:=List.mem_map.mp hx;exact f t ht) (λx hx=>by obtain⟨t,ht,rfl⟩:=List.mem_map.mp hx;exact h t ht) e2
 have inj:∀{l m:List Str},(l.map λt=>t.cps.toList)=(m.map λt=>t.cps.toList)->l=m:=by
  intro l
  induction l with
  | nil=>intro m h;cases m with
   | nil=>rfl
   | cons _ _=>cases h
  | cons a l ih=>
   intro m h
   cases m with
   | nil=>cases h
   | cons b m=>
    rw [map_cons,map_cons] at h
    injection h with h1 h2
    rw [ih h2,PySem.Str.ext' (Array.toList_inj.mp h1)]
 exact inj this
theorem bW(x:Str):x.cps.toList.length=x.length:=Array.length_toList
theorem u9(c:Nat):∀l:List (List Nat),l.length<=(jn c l).length+1
 | []=>by simp
 | [x]=>by simp
 | x::y::r=>by
  have h:=u9 c (y::r)
  show(y::r).length+1<=(x++c::jn c (y::r)).length+1
  rw [length_append,length_cons (a:=c)]
  lia
theorem vd(c:Nat):∀{l:List (List Nat)} {x:List Nat},x∈l->x.length<=(jn c l).length/\∀d∈x,d∈jn c l
 | [],_,h=>absurd h not_mem_nil
 | [y],x,h=>by rw [List.mem_singleton.mp h];exact⟨le_refl _,λd hd=>hd⟩
 | y::z::r,x,h=>by
  have e:jn c (y::z::r)=y++c::jn c (z::r):=rfl
  rw [e]
  rcases List.mem_cons.mp h with rfl | h
  ·exact⟨by rw [length_append];lia,λd hd=>mem_append_left _ hd⟩
  ·have i:=vd c h
   exact⟨by rw [length_append,length_cons];lia,λd hd=>mem_append_right _ (mem_cons_of_mem _ (i.2 d hd))⟩
theorem kt(t:Str)(c:Nat):(PySem.Txt.split t ⟨#[c]⟩).length<=t.length+1:=by
 have e:=PySem.StrLaws.join_split t ⟨#[c]⟩
 have h:=u9 c ((PySem.Txt.split t ⟨#[c]⟩).map λt=>t.cps.toList)
 rw [<-bJ,length_map] at h
 rw [e,bW] at h
 exact h
theorem oa{t:Str}{c:Nat}{x:Str}(h:x∈PySem.Txt.split t ⟨#[c]⟩):x.length<=t.length/\(∀d∈x.cps.toList,d∈t.cps.toList)/\c∉x.cps.toList:=by
 have e:=PySem.StrLaws.join_split t ⟨#[c]⟩
 have m:=vd c (List.mem_map_of_mem (f:=λt:Str=>t.cps.toList) h)
 rw [<-bJ,e,bW,bW] at m
 exact⟨m.1,m.2,PySem.StrLaws.split_free t c x h⟩
theorem jQ(t:Str)(c:Nat):PySem.Txt.split t ⟨#[c]⟩≠[]:=λz=>by
 have:=PyProof.Rows.split_pos t ⟨#[c]⟩
 rw [z] at this;simp at this
section
variable{K:PySem.W.Frag}{H H':Hp}
theorem _root_.L2.RpL.get{vs:List V}:∀{ds:List PyData},RpL K H vs ds->∀{i:Nat} {v:V},vs[i]? =some v->∃d,ds[i]? =some d/\Rp K H v d:=by
 induction vs with
 | nil=>intro ds t i v e;simp at e
 | cons a vs ih=>
  intro ds t i v e
  cases t with
  | cons h r=>
   cases i with
   | zero=>simp at e;exact⟨_,rfl,e▸h⟩
   | succ i=>simpa using ih r (i:=i) (v:=v) (by simpa using e)
theorem _root_.L2.RpL.len{vs:List V}:∀{ds:List PyData},RpL K H vs ds->vs.length=ds.length:=by
 induction vs with
 | nil=>intro ds t;cases t;rfl
 | cons a vs ih=>intro ds t;cases t with | cons h r=>rw [length_cons,length_cons,ih r]
theorem _root_.L2.RpL.app{vs ws:List V}{es:List PyData}(u:RpL K H ws es):∀{ds:List PyData},RpL K H vs ds->RpL K H (vs++ws) (ds++es):=by
 induction vs with
 | nil=>intro ds t;cases t;exact u
 | cons a vs ih=>intro ds t;cases t with | cons h r=>exact .cons h (ih r)
theorem _root_.L2.RpL.rev{vs:List V}:∀{ds:List PyData},RpL K H vs ds->RpL K H vs.reverse ds.reverse:=by
 induction vs with
 | nil=>intro ds t;cases t;exact .nil
 | cons a vs ih=>intro ds t;cases t with | cons h r=>rw [reverse_cons,reverse_cons];exact RpL.app (.cons h .nil) (ih r)
end
def dy:List (Option PyData)->Option (List PyData)
 | []=>some []
 | none::_=>none
 | some d::l=>(dy l).map (d:: ·)
theorem vf(ds:List PyData):dy (ds.map some)=some ds:=by
 induction ds with
 | nil=>rfl
 | cons d l ih=>rw [map_cons,dy,ih];rfl
theorem ku{l:List (Option PyData)}(h:none∈l):dy l=none:=by
 induction l with
 | nil=>cases h
 | cons x l ih=>
  cases x with
  | none=>rfl
  | some d=>
   rw [dy,ih (by simpa using h)];rfl
def aZ(row:Str):Option (Str×List PyData):=match PySem.Txt.split row ⟨#[32]⟩ with
 | []=>none
 | x::r=>match bi (x::r) with
  | none=>none
  | some ks=>(dy (zipWith aF ks r)).map λds=>(x,ds)
theorem De{K:PySem.W.Frag}{H G:Hp}(ne:∀a xs,H a=some (.tup xs)->G a=some (.tup xs))(t:Tr):∀{v:V},Rp K H v t.toD->Rp K G v t.toD:=by
 induction t with
 | name x=>intro v r;obtain⟨a,x1,x2,rfl,h,h1,h2⟩:=Rp.tup2 r;cases h1;cases h2;exact .tup (ne _ _ h) (.cons (.str _) (.cons (.str _) .nil))
 | num n=>intro v r;obtain⟨a,x1,x2,rfl,h,h1,h2⟩:=Rp.tup2 r;cases h1;cases h2;exact .tup (ne _ _ h) (.cons (.str _) (.cons (.int _) .nil))
 | now=>intro v r;obtain⟨a,x1,rfl,h,h1⟩:=Rp.tup1 r;cases h1;exact .tup (ne _ _ h) (.cons (.str _) .nil)
 | own=>intro v r;obtain⟨a,x1,rfl,h,h1⟩:=Rp.tup1 r;cases h1;exact .tup (ne _ _ h) (.cons (.str _) .nil)
 | bin o l r ihl ihr=>intro v q;obtain⟨a,x1,x2,x3,rfl,h,h1,h2,h3⟩:=Rp.tup3 q;cases h1;exact .tup (ne _ _ h) (.cons (.str _) (.cons (ihl h2) (.cons (ihr h3) .nil)))
theorem rQ{K:PySem.W.Frag}{H G:Hp}(ne:∀a xs,H a=some (.tup xs)->G a=some (.tup xs)){k x:Str}{d:PyData}(h:aF k x=some d){v:V}(r:Rp K H v d):Rp K G v d:=by
 unfold aF at h
 split at h
 ·obtain⟨t,_,rfl⟩:=Option.map_eq_some_iff.mp h
  exact De ne t r
 split at h
 ·obtain⟨n,_,rfl⟩:=Option.map_eq_some_iff.mp h
  cases r;exact .int _
 split at h
 ·cases h;cases r;exact .str _
 split at h
 ·cases h;cases r;exact .str _
 ·cases h
theorem vg{K:PySem.W.Frag}{H:Hp}{D:Addr}{ys:List V}(hD:H D=some (.lst ys)){k x:Str}{d:PyData}(h:aF k x=some d){v:V}(r:Rp K H v d):Rp K (cg D H) v d:=rQ (λa xs e=>bI (λz=>by rw [z,hD] at e;cases e) e) h r
theorem kx{x:Str}{r ks:List Str}(h:bi (x::r)=some ks):ks.length=r.length:=by
 unfold bi at h
 simp only at h
 split at h
 ·cases h
 ·split at h
  ·cases h
   rw [length_append,length_replicate];lia
  ·cases h
theorem qV{x:Str}{r ks:List Str}(h:bi (x::r)=some ks):∀k∈ks,k.length<=100:=by
 have a:∀p∈fixL,∀k∈p.2,k.length<=100:=by decide +kernel
 have b:∀p∈tailL,p.2.1.length<=100:=by decide +kernel
 have lk:∀{l:List (Str×List Str)} {x:Str} {y:List Str},l.lookup x=some y->∃p∈l,p.2=y:=λ{l}=>by
  induction l with
  | nil=>intro x y h;cases h
  | cons p l ih=>
   intro x y h
   rw [lookup_cons] at h
   split at h
   ·cases h;exact⟨p,mem_cons_self ..,rfl⟩
   ·obtain⟨q,m,e⟩:=ih h
    exact⟨q,mem_cons_of_mem _ m,e⟩
 have tl:(bD x).1.length<=100:=by
  unfold bD
  cases tk:tailL.lookup x with
  | none=>decide
  | some y=>
   have lk2:∀{l:List (Str×Str×Nat×Nat)} {x:Str} {y:Str×Nat×Nat},l.lookup x=some y->∃p∈l,p.2=y:=λ{l}=>by
    induction l with
    | nil=>intro x y h;cases h
    | cons p l ih=>
     intro x y h
     rw [lookup_cons] at h
     split at h
     ·cases h;exact⟨p,mem_cons_self ..,rfl⟩
     ·obtain⟨q,m,e⟩:=ih h
      exact⟨q,mem_cons_of_mem _ m,e⟩
   obtain⟨p,m,rfl⟩:=lk2 tk
   exact b p m
 unfold bi at h
 simp only at h
 split at h
 ·cases h
 ·rename_i l hl
  split at h
  ·cases h
   obtain⟨p,m,e⟩:=lk hl
   intro k hk
   rcases List.mem_append.mp hk with z | z
   ·exact a p m k (by rw [e];exact z)
   ·rw [(List.mem_replicate.mp z).2];exact tl
  ·cases h
section
variable{P:Program}{w:World}{K:PySem.W.Frag}{mg:Str->Option Value}{base:Heap}
def BA(K:PySem.W.Frag)(C:Addr):Sp:=λvs H Q E=>∃t:Str,vs= [.str t]/\t.length<=9000/\(∀x ds,aZ t=some (x,ds)->∀p H' ys,H p=none->Same H H'->H' p=some (.lst (.str x::ys))->RpL K (cg p H') ys ds->Q (.ref p) H')/\(aZ t=none->∀H',Same H H'->E (.ref C) none H')
theorem wJ{C:Addr}(D:DefAt K mg "parts_of" jJ ["row"])(G_kinds_due:OkR P w K mg base 1 "kinds_due" ["words"] (Bz K C))(G_part:OkR P w K mg base 23 "part" ["kind","word"] (u7 K C))(hzip:mg "zip" =none):OkR P w K mg base 24 "parts_of" ["row"] (BA K C):=by
 refine D.okR sc_parts_of (λvs H Q E h=>?_) (λf cdv A outer s H vs Q E hr h=>?_)
 ·obtain⟨r,rfl,_⟩:=h;rfl
 obtain⟨t,rfl,tl,q,e⟩:=h
 have big:3000000<=sizeLine:=by unfold sizeLine;decide
 have sl:=kt t 32
 have sm:=λx (hx:x∈PySem.Txt.split t ⟨#[32]⟩)=>(oa hx).1
 have sn:=jQ t 32
 refine⟨_,(af (ai (i:=1) sc_parts_of.nd rfl (Or.inl rfl) (lP PySem.F.plainAttrs_str PySem.F.slot_str_split PySem.F.type_str_split lu (pv 0) (aa ac ad)))
 (af (ai (i:=2) sc_parts_of.nd rfl (Or.inl rfl) (br G_kinds_due cA hr rfl (aa (pv 1) ad)))
 (ah (ax (ag aV (bg fQ (pv 1) bz (bA ae)) (uL (bL 2 (N:=["kind","word"]) (cap:=[]) rfl rfl rfl rfl (by decide +kernel) rfl rfl rfl) rfl (Bq rfl hzip (aa (pv 2) (aa (bg fQ (pv 1) (bA ae) bz) ad))) (λ_ _ _ _=>(dO 2 rfl (aD (aw (i:=0) (show List.Nodup (α:=Str) ["kind","word"] by decide +kernel) rfl (Or.inl (lookup_relabel_local rfl)) (Or.inr (lookup_relabel_local rfl))) (aD (aw (i:=1) (show List.Nodup (α:=Str) ["kind","word"] by decide +kernel) rfl (Or.inl (lookup_relabel_local rfl)) (Or.inr (lookup_relabel_local rfl))) bO)))) (λ_ _ _ _=>dB) (λ_ _ _ _ hO=>(br G_part (C8 hO) hr rfl (aa (pv 0) (aa (pv 1) ad)))))))))),?_⟩
 walk_at "rz"
 rw [show Str.ofString " " =⟨#[32]⟩ by decide +kernel]
 refine⟨_,_,rfl,rfl,by decide,by lia,by lia,λws H1 hws g1 h1'=>?_⟩
 unfold aZ at q e
 generalize PySem.Txt.split t ⟨#[32]⟩=W at q e sl sm sn h1'
 cases W with
 | nil=>exact absurd rfl sn
 | cons x r=>
 simp only at q e
 have h1w:=PLift.up h1'
 clear h1'
 refine⟨ws,x::r,rfl,h1w.down,cons_ne_nil _ _,by lia,λy hy=>by have:=sm y hy;lia,λks ek kp H2 g2 sq2=>?_,λen H2 g2=>e (by rw [en]) _ (g1.trans g2)⟩
 rw [ek] at q e
 simp only at q e
 have kl:=kx ek
 rw [length_cons] at sl
 have kk:=qV ek
 have h12:=PLift.up (g2 _ _ h1w.down)
 refine⟨ws,rfl,_,.inr ⟨h12.down,λp3 H3 hp3 g3 h3=>?_⟩⟩
 have h3':PLift (H3 p3=some (.lst [.str x])):=PLift.up h3
 clear h3
 have w3:=PLift.up (g3 _ _ h12.down)
 walk_at "rz"
 refine cQ ?_
 simp only [Bp]
 walk_at "rz"
 refine⟨_,.inr ⟨w3.down,λp4 H4 hp4 g4 h4=>?_⟩⟩
 have h4':PLift (H4 p4=some (.lst (r.map V.str))):=⟨by rw [h4];simp [cw,HT.sIx,take_of_length_le]⟩
 clear h4
 walk_at "rz"
 have lm:(r.map V.str).length=r.length:=length_map ..
 have lz:(zipWith aF ks r).length=r.length:=by rw [List.length_zipWith];lia
 have g04:=g1.trans (g2.trans (g3.trans g4))
 refine⟨⟨_,(g3.trans g4).tupq sq2⟩,⟨_,SqL.of h4'.down⟩,uK (xs:=ks.map V.str) (λH g=>((g3.trans g4).trans g).tupq sq2) h4'.down (by rw [length_map,lm,kl]) (by rw [lm];lia) (λD i zs σ1 H'=>σ1.length=2/\∃ds,RpL K (cg D H') zs ds/\(zipWith aF ks r).take i=ds.map some) (λD H' _ _ _=>⟨rfl,[],.nil,rfl⟩) ?_ ?_⟩
 ·rintro D' i k' y' zs σ1 H5 p5 H6 hk hy at1 ⟨s2,ds,rz,eu⟩ hp5 g6 h6
  have hi:i<r.length:=by have:=(List.getElem?_eq_some_iff.mp hy).1;rw [lm] at this;exact this
  obtain⟨v,hv⟩:∃v,r[i]? =some v:=⟨_,getElem?_eq_getElem hi⟩
  obtain⟨k,hk'⟩:∃k,ks[i]? =some k:=⟨_,getElem?_eq_getElem (by lia)⟩
  rw [getElem?_map,hk'] at hk
  rw [getElem?_map,hv] at hy
  cases hk
  cases hy
  have vl:=sm v (mem_cons_of_mem _ (mem_of_getElem? hv))
  have ez:(zipWith aF ks r)[i]? =some (aF k v):=by rw [getElem?_zipWith,hk',hv]
  obtain⟨v0,v1',rfl⟩:∃v0 v1',σ1= [v0,v1']:=by
   match σ1,s2 with
   | [v0,v1'],_=>exact⟨v0,v1',rfl⟩
  have g06:Same H H6:=(g04.trans at1.same).trans g6
  walk_at "rz"
  refine⟨k,v,rfl,kk k (mem_of_getElem? hk'),by lia,λd hd r7 H7 g7 rd=>?_,λhn H7 g7=>e (by rw [ku (by rw [<-hn];exact mem_of_getElem? ez)];rfl) H7 (g06.trans g7)⟩
  have hD7:=g7 _ _ (g6 _ _ at1.lst)
  refine at1.put (g6.trans g7) λH8 mu=>⟨rfl,ds++[d],RpL.app (.cons ((vg hD7 hd rd).mono λa u e=>?_) .nil) (rz.mono λa u e=>?_),?_⟩
  ·obtain⟨n,e⟩:=cF e
   exact bI n (mu.old e n)
  ·obtain⟨n,e⟩:=cF e
   exact bI n (mu.old (g7 _ _ (g6 _ _ e)) n)
  ·obtain⟨ez1,ez2⟩:=List.getElem?_eq_some_iff.mp ez
   rw [<-List.take_append_getElem ez1,eu,map_append,ez2,hd]
   rfl
 ·rintro D' zs σ1 H5 hC g5 hy hle ⟨_,ds,rz,eu⟩
  rw [lm,<-lz,take_of_length_le (le_refl _)] at eu
  rw [lm] at hle
  refine⟨D',rfl,_,_,g5 _ _ (g4 _ _ h3'.down),hy,by simp;lia,λp6 H6 hp6 g6 h6=>?_⟩
  refine q x ds (by rw [eu,vf];rfl) p6 H6 zs (g04.free (g5.free hp6)) (g04.trans (g5.trans g6)) h6 (rz.mono λa u e=>?_)
  obtain⟨n,e⟩:=cF e
  exact bI (λz=>by rw [z,hp6] at e;cases e) (g6 _ _ e)
end
theorem jR{k:Nat}(h:k<=1000):((k:Nat):Int).natAbs.log2<1920:=by
 rw [Int.natAbs_natCast]
 exact Nat.lt_of_le_of_lt (Nat.log2_le_self k) (by lia)
def dZ(w:Str)(hE bE:Bool)(kd:Str):Bool:=if w= "tool"\/w= "store"\/w= "row" then hE else if w= "hand" then bE else if w= "else" then (!bE&&decide (kd= "if")) else !bE
section
variable{P:Program}{w:World}{K:PySem.W.Frag}{mg:Str->Option Value}{base:Heap}
def PlS(σ0:St)(H0:Hp)(b:Bool)(σ:St)(H':Hp):Prop:=σ=σ0++[some (.bl b)]/\Same H0 H'
def BB(C:Addr):Sp:=λvs H Q E=>∃(k:Nat) (x:Str) (p b tl sl rl hl:Addr) (hs bs:List V) (kd:Str),vs= [.int (k:Nat),.str x,.ref p,.ref b]/\k<=1000/\x.length<=100000/\H p=some (.tup [.ref tl,.ref sl,.ref rl,.ref hl])/\H hl=some (.lst hs)/\hs.length<=1000/\H b=some (.lst bs)/\bs.length<=1000/\(bs≠[]->∃f r,atI bs (-1)=some (.ref f)/\H f=some (.tup (.str kd::r)))/\
 (dZ x hs.isEmpty bs.isEmpty kd=true->∀H',Same H H'->Q .non H')/\(dZ x hs.isEmpty bs.isEmpty kd=false->∀H',Same H H'->E (.ref C) none H')
theorem wK{C:Addr}(D:DefAt K mg "check_place" gI ["k","word","program","bodies"])(hlen:mg "len" =none)(O_NoPlace:cB K mg "NoPlace" C):OkR P w K mg base 1 "check_place" ["k","word","program","bodies"] (BB C):=by
 refine D.okR sc_check_place (λvs H Q E h=>?_) (λf cdv A outer s H vs Q E hr h=>?_)
 ·obtain⟨_,_,_,_,_,_,_,_,_,_,_,rfl,_⟩:=h;rfl
 obtain⟨k,x,p,b,tl,sl,rl,hl,hs,bs,kd,rfl,hk,hx,hp,hh,lh,hb,lb,hf,q,e⟩:=h
 have big:2000000<=sizeLine:=by unfold sizeLine;decide
 refine⟨_,(af (ai (i:=4) sc_check_place.nd rfl (Or.inl rfl) (ao av (pv 2) ae (λ_ _=>rfl)))
 (af (cL (aB (aj dR (pv 1) (az (aa ac (aa ac (aa ac ad)))) (by with_unfolding_all rfl))
 (ah (ai (i:=5) sc_check_place.nd rfl (Or.inl rfl) (rF (pv 4))))
 (ah (cL (aB (aj aJ (pv 1) ac (ap _))
 (ah (ai (i:=5) sc_check_place.nd rfl (Or.inl rfl) (rF (pv 3))))
 (ah (cL (aB (aj aJ (pv 1) ac (ap _))
 (ah (ai (i:=5) sc_check_place.nd rfl (Or.inl rfl) (jg (bZ jF (aN aQ rfl hlen PySem.boot_len (aa (pv 3) ad)) ae (ap _)) (jZ (bZ aJ (ao av (ao av (pv 3) (gu eT ae) (λ_ _=>rfl)) ae (λ_ _=>rfl)) ac (ap _))))))
 (ah (ai (i:=5) sc_check_place.nd rfl (Or.inl rfl) (bZ jF (aN aQ rfl hlen PySem.boot_len (aa (pv 3) ad)) ae (ap _))))))))))))
 (ah (aB (oK (hV (pv 5)))
 (ah (bS bx rfl O_NoPlace rfl (aa (eM (bb ac (bb (dU (pv 0)) (bb ac (bb (dU (pv 1)) (bb ac fA)))))) ad)))
 ay)))),?_⟩
 walk_at "rz"
 have sy:∀a b:Str,decide (a=b)=decide (b=a):=λa b=>by by_cases z:a=b<;>simp [z,eq_comm]
 have hb':=PLift.up hb
 have hp':=PLift.up hp
 obtain⟨B,eB⟩:∃B,dZ x hs.isEmpty bs.isEmpty kd=B:=⟨_,rfl⟩
 rw [eB] at q e
 have eB:=PLift.up eB
 refine⟨PlS [some (.int k),some (.str x),some (.ref p),some (.ref b),some (.ref hl)] H B,λp1 H1 hp1 g1 h1=>?_,?_⟩
 ·have ei:inV (.str x) [.str "tool",.str "store",.str "row"]=decide (x=Str.ofString "tool"\/x=Str.ofString "store"\/x=Str.ofString "row"):=by
   rw [bR,bR,bR,eK,dj,dj,dj,Bool.or_false,sy "tool" x,sy "store" x,sy "row" x,decide_or,decide_or]
  have w1:=PLift.up h1
  have hh1:=g1 _ _ hh
  have hb1:=g1 _ _ hb
  clear h1 hp hh hb
  walk_at "rz"
  refine⟨_,.inl w1.down,rfl,rfl,decide (x=Str.ofString "tool"\/x=Str.ofString "store"\/x=Str.ofString "row"),congrArg V.bl (by rw [if_neg (by decide)];exact ei),?_⟩
  clear w1
  by_cases c1:x=Str.ofString "tool"\/x=Str.ofString "store"\/x=Str.ofString "row"
  ·rw [decide_eq_true c1]
   refine cX ?_
   have ep:=PLift.up (eB.down.symm.trans (if_pos c1))
   walk_at "rz"
   exact⟨by rw [ep.down];rfl,g1⟩
  ·rw [decide_eq_false c1]
   refine cK ?_
   walk_at "rz"
   refine⟨PlS [some (.int k),some (.str x),some (.ref p),some (.ref b),some (.ref hl)] H B,?_,λσ' H' z=>z⟩
   refine aY (λc2=>?_) λc2=>?_
   ·have ep:=PLift.up (eB.down.symm.trans ((if_neg c1).trans (if_pos c2)))
    clear c2
    walk_at "rz"
    exact⟨by rw [ep.down];rfl,g1⟩
   ·walk_at "rz"
    refine⟨PlS [some (.int k),some (.str x),some (.ref p),some (.ref b),some (.ref hl)] H B,?_,λσ' H' z=>z⟩
    refine aY (λc3=>?_) λc3=>?_
    ·have ep:=PLift.up (eB.down.symm.trans ((if_neg c1).trans ((if_neg c2).trans (if_pos c3))))
     clear c3
     cases bs with
     | nil=>
      walk_at "rz"
      exact⟨by rw [ep.down];rfl,g1⟩
     | cons b0 bs=>
      obtain⟨fa,r,ef,hf⟩:=hf (cons_ne_nil _ _)
      have hf1:=g1 _ _ hf
      clear hf
      walk_at "rz"
      rw [if_pos (by lia)]
      walk_at "rz"
      exact⟨by rw [ep.down];rfl,g1⟩
    ·have ep:=PLift.up (eB.down.symm.trans ((if_neg c1).trans ((if_neg c2).trans (if_neg c3))))
     walk_at "rz"
     exact⟨by rw [ep.down,show decide ((0:Int)<(bs.length:Int))= !bs.isEmpty by cases bs<;>simp];rfl,g1⟩
 ·rintro σ' H' ⟨rfl,g2⟩
  simp only [cons_append,nil_append]
  clear eB
  cases B with
  | true=>walk_at "rz"
  | false=>
   have l1:(Str.ofString "row ").length=4:=by decide +kernel
   have l2:(Str.ofString ": ").length=2:=by decide +kernel
   have l3:(Str.ofString " may not stand here").length=19:=by decide +kernel
   walk_at "rz"
   have l4:=(cZ (k:=k) (by lia)).2
   repeat (refine⟨by first | lia | (simp only [cD,cE,l1,l2,l3];lia) | with_reducible exact jR hk,?_⟩;try walk_at "rz")
end
def oG(x:Str)(n:Nat):Bool:=decide ((x= "if"\/x= "while")/\n=6)
section
variable{P:Program}{w:World}{K:PySem.W.Frag}{mg:Str->Option Value}{base:Heap}
def BC(C:Addr):Sp:=λvs H Q E=>∃(k:Nat) (x:Str) (b:Addr) (bs:List V),vs= [.int (k:Nat),.str x,.ref b]/\k<=1000/\H b=some (.lst bs)/\bs.length<=1000/\
 (oG x bs.length=false->∀H',Same H H'->Q .non H')/\(oG x bs.length=true->∀H',Same H H'->E (.ref C) none H')
theorem wL{C:Addr}{t1:Tok}(D:DefAt K mg "check_depth" gJ ["k","word","bodies"])(hlen:mg "len" =none)(hMD:mg "MOST_DEEP" =some (.int 6 t1))(O_TooDeep:cB K mg "TooDeep" C):OkR P w K mg base 1 "check_depth" ["k","word","bodies"] (BC C):=by
 refine D.okR mR (λvs H Q E h=>?_) (λf cdv A outer s H vs Q E hr h=>?_)
 ·obtain⟨_,_,_,_,rfl,_⟩:=h;rfl
 obtain⟨k,x,b,bs,rfl,hk,hb,lb,q,e⟩:=h
 have big:2000000<=sizeLine:=by unfold sizeLine;decide
 have sy:∀a b:Str,decide (a=b)=decide (b=a):=λa b=>by by_cases z:a=b<;>simp [z,eq_comm]
 have ei:inV (.str x) [.str "if",.str "while"]=decide (x=Str.ofString "if"\/x=Str.ofString "while"):=by
  rw [bR,bR,eK,dj,dj,Bool.or_false,sy "if" x,sy "while" x,decide_or]
 have l1:(Str.ofString "row ").length=4:=by decide +kernel
 have l2:(Str.ofString ": a body too deep").length=17:=by decide +kernel
 have l4:=(cZ (k:=k) (by lia)).2
 refine⟨_,(ah (aB (PW.pt (dJ (aj dR (pv 1) (az (aa ac (aa ac ad))) (by with_unfolding_all rfl)) (cY (aj aJ (aN aQ rfl hlen PySem.boot_len (aa (pv 2) ad)) (aU (v:=.int 6) rfl hMD ⟨_,rfl⟩) (ap _)))))
 (ah (bS bx rfl O_TooDeep rfl (aa (eM (bb ac (bb (dU (pv 0)) (bb ac fA)))) ad)))
 ay)),?_⟩
 walk_at "rz"
 intro p1 H1 hp1 g1 h1
 have w1:=PLift.up h1
 have hb1:=g1 _ _ hb
 clear h1 hb
 walk_at "rz"
 refine⟨_,.inl w1.down,rfl,rfl,decide (x=Str.ofString "if"\/x=Str.ofString "while"),congrArg V.bl (by rw [if_neg (by decide)];exact ei),?_⟩
 clear w1
 by_cases c1:x=Str.ofString "if"\/x=Str.ofString "while"
 ·rw [decide_eq_true c1]
  refine cX ?_
  walk_at "rz"
  refine aY (λc2=>?_) λc2=>?_
  ·have e:=e (decide_eq_true ⟨c1,by lia⟩) _ g1
   clear c1 q
   walk_at "rz"
   repeat (refine⟨by first | lia | (simp only [cD,cE,l1,l2];lia) | with_reducible exact jR hk,?_⟩;try walk_at "rz")
  ·have q:=q (decide_eq_false λz=>c2 (by lia)) _ g1
   clear e
   walk_at "rz"
 ·rw [decide_eq_false c1]
  refine cK ?_
  have q:=q (decide_eq_false λz=>c1 z.1) _ g1
  clear e
  walk_at "rz"
end
inductive MsS:Str->List V->Bool->Prop
 | tool {x:Str} {v:V} {n:Int}:x= "tool"->MsS x [v,.int n] (decide (1<=n)&&decide (n<=9))
 | store {x:Str} {v:V} {a b:Int}:x= "store"->MsS x [v,.int a,.int b] (decide (a<=b)&&(decide (1<=b)&&decide (b<=999)))
 | row {x:Str} {v:V} {ns:List Int}:x= "row"->ns≠[]->MsS x (v::ns.map V.int) (decide (∀n∈ns,n<=999))
 | other {x:Str} {ys:List V}:x≠"tool"->x≠"store"->x≠"row"->MsS x ys true
section
variable{P:Program}{w:World}{K:PySem.W.Frag}{mg:Str->Option Value}{base:Heap}
def MsZ(k:Nat)(p:Addr)(x:Str)(B:Bool)(H:Hp)(σ:St)(H':Hp):Prop:=σ= [some (.int (k:Nat)),some (.ref p),some (.str x),some (.bl B)]/\Same H H'
def BD(C:Addr):Sp:=λvs H Q E=>∃(k:Nat) (x:Str) (p:Addr) (ys:List V) (B:Bool),vs= [.int (k:Nat),.ref p]/\k<=1000/\H p=some (.lst (.str x::ys))/\MsS x ys B/\
 (B=true->∀H',Same H H'->Q .non H')/\(B=false->∀H',Same H H'->E (.ref C) none H')
theorem yK{C:Addr}{t1 t2 t3:Tok}(D:DefAt K mg "check_measure" fG ["k","parts"])(hmax:mg "max" =none)(hMP:mg "MOST_PIECES" =some (.int 9 t1))(hMLv:mg "MOST_LEVEL" =some (.int 999 t2))(hMDr:mg "MOST_DRAWN" =some (.int 999 t3))(O_NoMeasure:cB K mg "NoMeasure" C):OkR P w K mg base 1 "check_measure" ["k","parts"] (BD C):=by
 refine D.okR sc_check_measure (λvs H Q E h=>?_) (λf cdv A outer s H vs Q E hr h=>?_)
 ·obtain⟨_,_,_,_,_,rfl,_⟩:=h;rfl
 obtain⟨k,x,p,ys,B,rfl,hk,hp,ms,q,e⟩:=h
 have big:2000000<=sizeLine:=by unfold sizeLine;decide
 have l1:(Str.ofString "row ").length=4:=by decide +kernel
 have l2:(Str.ofString ": a number out of its bounds").length=28:=by decide +kernel
 have l4:=(cZ (k:=k) (by lia)).2
 refine⟨_,(af (ai (i:=2) sc_check_measure.nd rfl (Or.inl rfl) (ao av (pv 1) ae (λ_ _=>rfl)))
 (af (ai (i:=3) sc_check_measure.nd rfl (Or.inl rfl) CH)
 (af (cL (aB (aj aJ (pv 2) ac (ap _))
 (ah (ai (i:=3) sc_check_measure.nd rfl (Or.inl rfl) (jG eJ eJ ae (ao av (pv 1) ae (λ_ _=>rfl)) (aU (v:=.int 9) rfl hMP ⟨_,rfl⟩))))
 (ah (cL (aB (aj aJ (pv 2) ac (ap _))
 (ah (ai (i:=3) sc_check_measure.nd rfl (Or.inl rfl) (jg (bZ eJ (ao av (pv 1) ae (λ_ _=>rfl)) (ao av (pv 1) ae (λ_ _=>rfl)) (ap _)) (jZ (jG eJ eJ ae (ao av (pv 1) ae (λ_ _=>rfl)) (aU (v:=.int 999) rfl hMLv ⟨_,rfl⟩))))))
 (ah (cL (aB (aj aJ (pv 2) ac (ap _))
 (ah (ai (i:=3) sc_check_measure.nd rfl (Or.inl rfl) (bZ eJ (aN (uV rfl) rfl hmax (by decide +kernel) (aa (bg fQ (pv 1) (bA ae) bz) ad)) (aU (v:=.int 999) rfl hMDr ⟨_,rfl⟩) (ap _))))
 ay))))))))
 (ah (aB (oK (hV (pv 3)))
 (ah (bS bx rfl O_NoMeasure rfl (aa (eM (bb ac (bb (dU (pv 0)) (bb ac fA)))) ad)))
 ay))))),?_⟩
 walk_at "rz"
 refine⟨MsZ k p x B H,?_,?_⟩
 ·cases ms with
  | tool hx=>
   subst hx
   walk_at "rz"
   refine aY (λc=>?_) λc=>?_
   ·have c':=PLift.up c
    clear c
    walk_at "rz"
    exact⟨by rw [decide_eq_true c'.down];rfl,Same.refl _⟩
   ·have c':=PLift.up c
    clear c
    walk_at "rz"
    exact⟨by rw [decide_eq_false c'.down];rfl,Same.refl _⟩
  | store hx=>
   subst hx
   rename_i v a b
   walk_at "rz"
   refine⟨MsZ k p (Str.ofString "store") (decide (a<=b)&&(decide (1<=b)&&decide (b<=999))) H,?_,λ_ _ z=>z⟩
   refine aY (λc=>?_) λc=>?_
   ·have c':=PLift.up c
    clear c
    walk_at "rz"
    refine aY (λd=>?_) λd=>?_
    ·have d':=PLift.up d
     clear d
     walk_at "rz"
     exact⟨by rw [decide_eq_true c'.down,decide_eq_true d'.down];rfl,Same.refl _⟩
    ·have d':=PLift.up d
     clear d
     walk_at "rz"
     exact⟨by rw [decide_eq_true c'.down,decide_eq_false d'.down];rfl,Same.refl _⟩
   ·have c':=PLift.up c
    clear c
    walk_at "rz"
    exact⟨by rw [decide_eq_false c'.down];rfl,Same.refl _⟩
  | row hx hn=>
   subst hx
   rename_i v ns
   walk_at "rz"
   refine⟨MsZ k p (Str.ofString "row") (decide (∀n∈ns,n<=999)) H,⟨MsZ k p (Str.ofString "row") (decide (∀n∈ns,n<=999)) H,λp2 H2 hp2 g2 h2=>?_,λ_ _ z=>z⟩,λ_ _ z=>z⟩
   have h2':PLift (H2 p2=some (.lst (ns.map V.int))):=⟨by rw [h2];simp [cw,HT.sIx,take_of_length_le]⟩
   clear h2 hp
   walk_at "rz"
   refine⟨ns,h2'.down,List.length_pos_iff.mpr hn,λM mM mx=>?_⟩
   walk_at "rz"
   refine⟨?_,g2⟩
   rw [show decide (∀n∈ns,n<=999)=decide (M<=999) by
    by_cases c:M<=999
    ·rw [decide_eq_true c,decide_eq_true λn hn=>Int.le_trans (mx n hn) c]
    ·rw [decide_eq_false c,decide_eq_false λz=>c (z M mM)]]
  | other h1 h2 h3=>
   walk_at "rz"
   exact⟨MsZ k p x true H,⟨MsZ k p x true H,⟨rfl,Same.refl _⟩,λ_ _ z=>z⟩,λ_ _ z=>z⟩
 ·rintro σ' H' ⟨rfl,g2⟩
  cases B with
  | true=>
   have q:=q rfl _ g2
   clear e
   walk_at "rz"
  | false=>
   have e:=e rfl _ g2
   clear q
   walk_at "rz"
   repeat (refine⟨by first | lia | (simp only [cD,cE,l1,l2];lia) | with_reducible exact jR hk,?_⟩;try walk_at "rz")
end
inductive Ns (H:Hp):List V->List Str->Prop
 | nil:Ns H [] []
 | cons {p:Addr} {s:Str} {r vs:List V} {l:List Str}:H p=some (.tup (.str s::r))->Ns H vs l->Ns H (.ref p::vs) (s::l)
theorem Ns.mono{H H':Hp}(g:∀c xs,H c=some (.tup xs)->H' c=some (.tup xs)){vs:List V}{l:List Str}(t:Ns H vs l):Ns H' vs l:=by
 induction t with
 | nil=>exact .nil
 | cons h _ ih=>exact .cons (g _ _ h) ih
theorem Ns.length{H:Hp}{vs:List V}{l:List Str}(t:Ns H vs l):vs.length=l.length:=by
 induction t with
 | nil=>rfl
 | cons _ _ ih=>rw [length_cons,length_cons,ih]
theorem Ns.get{H:Hp}{vs:List V}{l:List Str}(t:Ns H vs l):∀{i:Nat} {v:V},vs[i]? =some v->∃p s r,v= .ref p/\l[i]? =some s/\H p=some (.tup (.str s::r)):=by
 induction t with
 | nil=>intro i v e;simp at e
 | cons h _ ih=>
  intro i v e
  cases i with
  | zero=>simp at e;exact⟨_,_,_,e.symm,rfl,h⟩
  | succ i=>simpa using ih (i:=i) (v:=v) (by simpa using e)
theorem du{α:Type}{xs:List α}{i:Nat}{x:α}(h:xs[i]? =some x):xs.take (i+1)=xs.take i++[x]:=by
 rw [List.take_succ,h];rfl
inductive TwS (nt nr nh:List Str):Str->List V->Bool->Prop
 | good {x nm:Str} {r:List V}:x= "tool"\/x= "store"->TwS nt nr nh x (.str nm::r) (decide (nm∈nt))
 | row {x nm:Str} {r:List V}:x= "row"->TwS nt nr nh x (.str nm::r) (decide (nm∈nr))
 | hand {x nm:Str} {ns:List Str}:x= "hand"->ns.length<=1000->TwS nt nr nh x (.str nm::ns.map V.str) (decide (nm∈nh) || !decide ns.Nodup)
 | other {x:Str} {ys:List V}:x≠"tool"->x≠"store"->x≠"row"->x≠"hand"->TwS nt nr nh x ys false
section
variable{P:Program}{w:World}{K:PySem.W.Frag}{mg:Str->Option Value}{base:Heap}
def AgP(l:List Str)(nm:Str)(vp:Option V)(i:Nat)(ys:List V)(σ1:St)(H':Hp):Prop:=(ys.isEmpty= !decide (nm∈l.take i))/\∃v0,σ1= [v0,vp]
theorem jS{H:Hp}{o pp:Addr}{ys pr:List V}{l:List Str}{x nm:Str}{Q:VK}(ho:H o=some (.lst ys))(ns:Ns H ys l)(hl:l.length<=1000)(hp:l≠[]->H pp=some (.lst (.str x::.str nm::pr)))(q:∀D H' zs,H D=none->Same H H'->H' D=some (.lst zs)->zs.isEmpty= !decide (nm∈l)->Q (.ref D) H'):gw (Itl K o) (gr 0) (iI (tOp rEq (tOp ii (cJ 0) (tC (V.int 0))) (tOp ii (cJ 1) (tC (V.int 1))))) (cJ 0) [none,some (.ref pp)] H Q:=by
 have big:100000<=sizeLine:=by unfold sizeLine;decide
 refine fC ho (by have:=ns.length;lia) (AgP l nm (some (.ref pp))) (λH' _=>⟨by simp,_,rfl⟩) ?_ ?_
 ·rintro D i v ys' σ1 H1 hx at1 ⟨ey,v0,rfl⟩
  obtain⟨p,t,r,rfl,et,hpp⟩:=ns.get hx
  have hp1:=at1.same _ _ hpp
  have hq1:=at1.same _ _ (hp λz=>by rw [z] at et;cases et)
  have ey':=PLift.up ey
  clear ho ey
  walk_at "rz"
  refine aY (λc=>?_) λc=>?_
  ·have c':=PLift.up c
   clear c
   walk_at "rz"
   refine at1.put (Same.refl _) λH5 mu=>⟨?_,_,rfl⟩
   rw [du et,c'.down]
   simp
  ·refine at1.skip (Same.refl _) ⟨?_,_,rfl⟩
   rw [du et,ey'.down]
   have:¬nm=t:=λz=>c z.symm
   simp [this]
 ·rintro D ys' σ1 H1 hD g1 hy hle ⟨ey,_⟩
  rw [take_of_length_le (by have:=ns.length;lia)] at ey
  exact q D H1 ys' hD g1 hy ey
def BE(C:Addr):Sp:=λvs H Q E=>∃(k:Nat) (x:Str) (pp p tl sl rl hl:Addr) (ys ta sa ra ha:List V) (nt ns nr nh:List Str) (B:Bool),vs= [.int (k:Nat),.ref pp,.ref p]/\k<=1000/\H pp=some (.lst (.str x::ys))/\H p=some (.tup [.ref tl,.ref sl,.ref rl,.ref hl])/\(H tl=some (.lst ta)/\Ns H ta nt/\nt.length<=400)/\(H sl=some (.lst sa)/\Ns H sa ns/\ns.length<=400)/\(H rl=some (.lst ra)/\Ns H ra nr/\nr.length<=400)/\(H hl=some (.lst ha)/\Ns H ha nh/\nh.length<=400)/\TwS (nt++ns) nr nh x ys B/\
 (B=false->∀H',Same H H'->Q .non H')/\(B=true->∀H',Same H H'->E (.ref C) none H')
def ahL(nt nr nh:List Str)(x:Str):List Str:=if x= "tool"\/x= "store" then nt else if x= "row" then nr else if x= "hand" then nh else []
def TwZ(H:Hp)(l:List Str)(σ0:St)(σ:St)(H':Hp):Prop:=∃o ys,Same H H'/\H' o=some (.lst ys)/\Ns H' ys l/\σ=σ0++[some (.ref o),none]
theorem Ns.app{H:Hp}{vs ws:List V}{l m:List Str}(a:Ns H vs l)(b:Ns H ws m):Ns H (vs++ws) (l++m):=by
 induction a with
 | nil=>exact b
 | cons h _ ih=>exact .cons h ih
theorem Ns.up{H H':Hp}(g:Same H H'){vs:List V}{l:List Str}(t:Ns H vs l):Ns H' vs l:=t.mono λc xs h=>g c _ h
theorem tL(l:List Str):fD (λi=>l.getD i "") l.length=l.length↔l.Nodup:=by
 rw [yB]
 unfold List.Nodup
 rw [List.pairwise_iff_getElem]
 constructor
 ·intro h i j hi hj lt
  have:=h j hj i lt
  simpa [getD_eq_getElem?_getD,getElem?_eq_getElem,hi,hj] using this
 ·intro h i hi j lt
  have:=h j i (by lia) hi lt
  simpa [getD_eq_getElem?_getD,getElem?_eq_getElem,hi,show j<l.length by lia] using this
theorem wM{C:Addr}(D:DefAt K mg "check_twice" gL ["k","parts","program"])(hlen:mg "len" =none)(hset:mg "set" =none)(O_Twice:cB K mg "Twice" C):OkR P w K mg base 1 "check_twice" ["k","parts","program"] (BE C):=by
 refine D.okR sc_check_twice (λvs H Q E h=>?_) (λf cdv A outer s H vs Q E hr h=>?_)
 ·obtain⟨_,_,_,_,_,_,_,_,_,_,_,_,_,_,_,_,_,_,rfl,_⟩:=h;rfl
 obtain⟨k,x,pp,p,tl,sl,rl,hl,ys,ta,sa,ra,ha,nt,ns,nr,nh,B,rfl,hk,hpp,hp,⟨ht,nst,lt⟩,⟨hs,nss,ls⟩,⟨hrr,nsr,lr⟩,⟨hh,nsh,lh⟩,tw,q,e⟩:=h
 have big:2000000<=sizeLine:=by unfold sizeLine;decide
 have l1:(Str.ofString "row ").length=4:=by decide +kernel
 have l2:(Str.ofString ": a name that stands twice").length=26:=by decide +kernel
 have l4:=(cZ (k:=k) (by lia)).2
 have sy:∀a b:Str,decide (a=b)=decide (b=a):=λa b=>by by_cases z:a=b<;>simp [z,eq_comm]
 have ei:inV (.str x) [.str "tool",.str "store"]=decide (x=Str.ofString "tool"\/x=Str.ofString "store"):=by
  rw [bR,bR,eK,dj,dj,Bool.or_false,sy "tool" x,sy "store" x,decide_or]
 refine⟨_,(af (bQ (pv 2) (dO 4 rfl (aD (aw (i:=3) sc_check_twice.nd rfl (Or.inl rfl)) (aD (aw (i:=4) sc_check_twice.nd rfl (Or.inl rfl)) (aD (aw (i:=5) sc_check_twice.nd rfl (Or.inl rfl)) (aD (aw (i:=6) sc_check_twice.nd rfl (Or.inl rfl)) bO))))))
 (af (ai (i:=7) sc_check_twice.nd rfl (Or.inl rfl) (ak ad))
 (af (cL (aB (aj dR (ao av (pv 1) ae (λ_ _=>rfl)) (az (aa ac (aa ac ad))) (by with_unfolding_all rfl))
 (ah (ai (i:=7) sc_check_twice.nd rfl (Or.inl rfl) (ag aV (pv 3) (pv 4))))
 (ah (cL (aB (aj aJ (ao av (pv 1) ae (λ_ _=>rfl)) ac (ap _))
 (ah (ai (i:=7) sc_check_twice.nd rfl (Or.inl rfl) (pv 5)))
 (ah (cL (aB (aj aJ (ao av (pv 1) ae (λ_ _=>rfl)) ac (ap _))
 (ah (ai (i:=7) sc_check_twice.nd rfl (Or.inl rfl) (pv 6)))
 ay))))))))
 (af (lj (i:=8) sc_check_twice.nd rfl (Or.inl rfl) (bL 1 (N:=["one","parts"]) (cap:=[1]) rfl rfl rfl rfl (by decide +kernel) rfl rfl rfl) rfl (fk (pv 7)) (λ_ _ _ _=>(aw (i:=0) (show List.Nodup (α:=Str) ["one","parts"] by decide +kernel) rfl (Or.inl (lookup_relabel_local rfl)) (Or.inr (lookup_relabel_local rfl)))) (λ_ _ _ _=>(mK (aj aJ (ao av (pv 0) ae (λ_ _=>rfl)) (ao av (pv 1) ae (λ_ _=>rfl)) (ap _)))) (λ_ _ _ _=>(pv 0)))
 (ah (aB (PW.pt (iG (oS (pv 8) (λ_=>rfl)) (hW (PW.pt (dJ (aj aJ (ao av (pv 1) ae (λ_ _=>rfl)) ac (ap _)) (cY (aj gR (uU rfl rfl hlen rfl hset (aa (bg fQ (pv 1) (bA ae) bz) ad)) (aN aQ rfl hlen PySem.boot_len (aa (bg fQ (pv 1) (bA ae) bz) ad)) (ap _))))))))
 (ah (bS bx rfl O_Twice rfl (aa (eM (bb ac (bb (dU (pv 0)) (bb ac fA)))) ad)))
 ay)))))),?_⟩
 walk_at "rz"
 intro p1 H1 hp1 g1 h1
 have hpp1:=g1 _ _ hpp
 have hpp:=PLift.up hpp
 have ht1:=g1 _ _ ht
 have hs1:=g1 _ _ hs
 clear hp
 walk_at "rz"
 have hpq:=PLift.up hpp1
 refine⟨TwZ H (ahL (nt++ns) nr nh x) [some (.int k),some (.ref pp),some (.ref p),some (.ref tl),some (.ref sl),some (.ref rl),some (.ref hl)],λp2 H2 hp2 g2 h2=>?_,?_⟩
 ·have w1:=PLift.up h2
  have ht2:=g2 _ _ ht1
  have hs2:=g2 _ _ hs1
  have hpp2:=g2 _ _ hpp1
  have g12:=g1.trans g2
  have h12:=g2 _ _ h1
  have la:=nst.length
  have lb:=nss.length
  have hrr':=PLift.up hrr
  have hh':=PLift.up hh
  clear h2 ht1 hs1 hpp1 h1 ht hs hrr hh
  walk_at "rz"
  refine⟨_,.inl w1.down,rfl,rfl,decide (x=Str.ofString "tool"\/x=Str.ofString "store"),congrArg V.bl (by rw [if_neg (by decide)];exact ei),?_⟩
  clear w1
  by_cases c1:x=Str.ofString "tool"\/x=Str.ofString "store"
  ·rw [decide_eq_true c1]
   refine cX ?_
   walk_at "rz"
   refine⟨by lia,λp3 H3 hp3 g3 h3=>⟨p3,_,g12.trans g3,h3,?_,rfl⟩⟩
   rw [show ahL (nt++ns) nr nh x=nt++ns from if_pos c1]
   exact(nst.up (g12.trans g3)).app (nss.up (g12.trans g3))
  ·rw [decide_eq_false c1]
   refine cK ?_
   walk_at "rz"
   refine⟨TwZ H (ahL (nt++ns) nr nh x) [some (.int k),some (.ref pp),some (.ref p),some (.ref tl),some (.ref sl),some (.ref rl),some (.ref hl)],?_,λ_ _ z=>z⟩
   refine aY (λc2=>?_) λc2=>?_
   ·have ea:PLift (ahL (nt++ns) nr nh x=nr):=⟨(if_neg c1).trans (if_pos c2)⟩
    clear c2
    walk_at "rz"
    exact⟨rl,ra,g12,g12 _ _ hrr'.down,by rw [ea.down];exact nsr.up g12,rfl⟩
   ·walk_at "rz"
    refine⟨TwZ H (ahL (nt++ns) nr nh x) [some (.int k),some (.ref pp),some (.ref p),some (.ref tl),some (.ref sl),some (.ref rl),some (.ref hl)],?_,λ_ _ z=>z⟩
    refine aY (λc3=>?_) λc3=>?_
    ·have ea:PLift (ahL (nt++ns) nr nh x=nh):=⟨(if_neg c1).trans ((if_neg c2).trans (if_pos c3))⟩
     clear c3
     walk_at "rz"
     exact⟨hl,ha,g12,g12 _ _ hh'.down,by rw [ea.down];exact nsh.up g12,rfl⟩
    ·have ea:PLift (ahL (nt++ns) nr nh x= []):=⟨(if_neg c1).trans ((if_neg c2).trans (if_neg c3))⟩
     walk_at "rz"
     exact⟨p1,[],g12,h12,by rw [ea.down];exact .nil,rfl⟩
 ·rintro σ' H' ⟨o,zs,g2,ho,nz,rfl⟩
  simp only [cons_append,nil_append]
  clear hpp1 ht1 hs1 h1
  walk_at "rz"
  refine cQ ?_
  simp only [gQ]
  walk_at "rz"
  have hq2:=PLift.up (g2 _ _ hpp.down)
  have la:(ahL (nt++ns) nr nh x).length<=1000:=by
   unfold ahL
   split
   ·rw [length_append];lia
   ·split
    ·lia
    ·split
     ·lia
     ·exact zero_le _
  cases tw with
  | other n1 n2 n3 n4=>
   have ea:ahL (nt++ns) nr nh x= []:=(if_neg (λz=>z.elim n1 n2)).trans ((if_neg n3).trans (if_neg n4))
   rw [ea] at nz
   refine⟨⟨_,SqL.of ho⟩,jS (x:=x) (nm:=x) (pr:=[]) ho nz (zero_le _) (λz=>absurd rfl z) λD5 H5 zs hD g5 h5 ez=>?_⟩
   refine⟨!zs.isEmpty,.inl ⟨zs,SqL.of h5,rfl⟩,?_⟩
   rw [show zs.isEmpty=true by rw [ez];rfl]
   refine cK ?_
   have hq5:=g5 _ _ hq2.down
   have q:=q rfl _ (g2.trans g5)
   clear e ho h5
   walk_at "rz"
  | good hx=>
   rename_i nm r hpp0
   clear hpp0
   have ea:ahL (nt++ns) nr nh x=nt++ns:=if_pos hx
   rw [ea] at nz la
   refine⟨⟨_,SqL.of ho⟩,jS ho nz la (λ_=>hq2.down) λD5 H5 zs hD g5 h5 ez=>?_⟩
   refine⟨!zs.isEmpty,.inl ⟨zs,SqL.of h5,rfl⟩,?_⟩
   rw [ez,not_not]
   have nh':x≠Str.ofString "hand":=by rcases hx with rfl | rfl<;>decide +kernel
   have hq5:=g5 _ _ hq2.down
   cases cb:decide (nm∈nt++ns) with
   | true=>
    have e:=e cb _ (g2.trans g5)
    refine cX ?_
    clear q ho h5 ez cb
    walk_at "rz"
    repeat (refine⟨by first | lia | (simp only [cD,cE,l1,l2];lia) | with_reducible exact jR hk,?_⟩;try walk_at "rz")
   | false=>
    have q:=q cb _ (g2.trans g5)
    refine cK ?_
    clear e ho h5 ez cb hx ei
    walk_at "rz"
  | row hx=>
   rename_i nm r hpp0
   clear hpp0
   have n1:¬(x=Str.ofString "tool"\/x=Str.ofString "store"):=by rw [hx];decide +kernel
   have ea:ahL (nt++ns) nr nh x=nr:=(if_neg n1).trans (if_pos hx)
   rw [ea] at nz la
   refine⟨⟨_,SqL.of ho⟩,jS ho nz la (λ_=>hq2.down) λD5 H5 zs hD g5 h5 ez=>?_⟩
   refine⟨!zs.isEmpty,.inl ⟨zs,SqL.of h5,rfl⟩,?_⟩
   rw [ez,not_not]
   have nh':x≠Str.ofString "hand":=by rw [hx];decide +kernel
   have hq5:=g5 _ _ hq2.down
   cases cb:decide (nm∈nr) with
   | true=>
    have e:=e cb _ (g2.trans g5)
    refine cX ?_
    clear q ho h5 ez cb
    walk_at "rz"
    repeat (refine⟨by first | lia | (simp only [cD,cE,l1,l2];lia) | with_reducible exact jR hk,?_⟩;try walk_at "rz")
   | false=>
    have q:=q cb _ (g2.trans g5)
    refine cK ?_
    clear e ho h5 ez cb hx ei
    walk_at "rz"
  | hand hx ln=>
   rename_i nm ns' hpp0
   clear hpp0
   have n1:¬(x=Str.ofString "tool"\/x=Str.ofString "store"):=by rw [hx];decide +kernel
   have n2:¬x=Str.ofString "row":=by rw [hx];decide +kernel
   have ea:ahL (nt++ns) nr nh x=nh:=(if_neg n1).trans ((if_neg n2).trans (if_pos hx))
   rw [ea] at nz la
   refine⟨⟨_,SqL.of ho⟩,jS ho nz la (λ_=>hq2.down) λD5 H5 zs hD g5 h5 ez=>?_⟩
   refine⟨!zs.isEmpty,.inl ⟨zs,SqL.of h5,rfl⟩,?_⟩
   rw [ez,not_not]
   have hq5:=g5 _ _ hq2.down
   cases cb:decide (nm∈nh) with
   | true=>
    have e:=e (by rw [cb];rfl) _ (g2.trans g5)
    refine cX ?_
    clear q ho h5 ez cb ei n1 n2 ea
    walk_at "rz"
    repeat (refine⟨by first | lia | (simp only [cD,cE,l1,l2];lia) | with_reducible exact jR hk,?_⟩;try walk_at "rz")
   | false=>
    rw [cb,Bool.false_or] at q e
    refine cK ?_
    subst hx
    clear ho h5 ez cb ei n1 n2 ea
    walk_at "rz"
    intro p6 H6 hp6 g6 h6
    have h6':PLift (H6 p6=some (.lst (ns'.map V.str))):=⟨by rw [h6];simp [cw,HT.sIx,take_of_length_le]⟩
    have hq6:=g6 _ _ hq5
    clear h6 hq5
    walk_at "rz"
    refine⟨ns',h6'.down,ln,?_⟩
    walk_at "rz"
    intro p7 H7 hp7 g7 h7
    have h7':H7 p7=some (.lst (ns'.map V.str)):=by rw [h7];simp [cw,HT.sIx,take_of_length_le]
    clear h7 hq6
    walk_at "rz"
    have nl:=kF (λi=>ns'.getD i (Str.ofString "")) ns'.length
    have nd:=tL ns'
    have g57:=g2.trans (g5.trans (g6.trans g7))
    have lm:(ns'.map V.str).length=ns'.length:=length_map ..
    refine aY (λc=>?_) λc=>?_
    ·have e:=e (by rw [decide_eq_false (λz=>by have:=nd.mpr z;rw [lm] at c;lia)];rfl) _ g57
     clear q h7' c nd
     walk_at "rz"
     repeat (refine⟨by first | lia | (simp only [cD,cE,l1,l2];lia) | with_reducible exact jR hk,?_⟩;try walk_at "rz")
    ·have q:=q (by rw [decide_eq_true (nd.mp (by rw [lm] at c;lia))];rfl) _ g57
     clear e h7' c nd
     walk_at "rz"
end
section
variable{P:Program}{w:World}{K:PySem.W.Frag}{mg:Str->Option Value}{base:Heap}
def BF(K:PySem.W.Frag):Sp:=λvs H Q _=>∃(k:Nat) (x:Str) (pp:Addr) (ys:List V),vs= [.int (k:Nat),.ref pp]/\H pp=some (.lst (.str x::ys))/\ys.length<=1000/\
 ((x = "start" ∧ ∃ v es, ys = v :: es ∧ ∀ p l H', H p = none → H l = none → Same H H' → H' l = some (.lst es) → H' p = some (.tup [.str x, .int (k : Nat), v, .ref l]) → Q (.ref p) H') ∨
  (x= "if"/\∃a sg b,ys= [a,sg,b]/\∀p u v H',H p=none->H u=none->H v=none->u≠v->Same H H'->H' u=some (.lst [])->H' v=some (.lst [])->H' p=some (.tup [.str x,.int (k:Nat),sg,a,b,.ref u,.ref v])->Q (.ref p) H')\/
  (x= "while"/\∃a sg b,ys= [a,sg,b]/\∀p u H',H p=none->H u=none->Same H H'->H' u=some (.lst [])->H' p=some (.tup [.str x,.int (k:Nat),sg,a,b,.ref u])->Q (.ref p) H')\/
  (x≠"start"/\x≠"if"/\x≠"while"/\∀p H',H p=none->Same H H'->H' p=some (.tup (.str x::.int (k:Nat)::ys))->Q (.ref p) H'))
theorem yL(D:DefAt K mg "statement_of" fR ["k","parts"])(htuple:mg "tuple" =none):OkD P w K mg base 1 "statement_of" ["k","parts"] (BF K):=by
 refine D.ok sc_statement_of (λvs H Q E h=>?_) (λf cdv A outer s H vs Q E hr h=>?_)
 ·obtain⟨_,_,_,_,rfl,_⟩:=h;rfl
 obtain⟨k,x,pp,ys,rfl,hp,ly,cs⟩:=h
 have big:2000000<=sizeLine:=by unfold sizeLine;decide
 refine⟨_,(af (ai (i:=2) sc_statement_of.nd rfl (Or.inl rfl) (ao av (pv 1) ae (λ_ _=>rfl)))
 (af (aB (aj aJ (pv 2) ac (ap _))
 (ah (ax (az (aa (pv 2) (aa (pv 0) (aa (ao av (pv 1) ae (λ_ _=>rfl)) (aa (bg fQ (pv 1) (bA ae) bz) ad)))))))
 ay)
 (af (aB (aj aJ (pv 2) ac (ap _))
 (ah (ax (az (aa (pv 2) (aa (pv 0) (aa (ao av (pv 1) ae (λ_ _=>rfl)) (aa (ao av (pv 1) ae (λ_ _=>rfl)) (aa (ao av (pv 1) ae (λ_ _=>rfl)) (aa (ak ad) (aa (ak ad) ad))))))))))
 ay)
 (af (aB (aj aJ (pv 2) ac (ap _))
 (ah (ax (az (aa (pv 2) (aa (pv 0) (aa (ao av (pv 1) ae (λ_ _=>rfl)) (aa (ao av (pv 1) ae (λ_ _=>rfl)) (aa (ao av (pv 1) ae (λ_ _=>rfl)) (aa (ak ad) ad)))))))))
 ay)
 (ah (ax (ag mF (az (aa (pv 2) (aa (pv 0) ad))) (dL uJ rfl htuple (by decide +kernel) (aa (bg fQ (pv 1) (bA ae) bz) ad))))))))),?_⟩
 rcases cs with ⟨rfl,v,es,rfl,q⟩ | ⟨rfl,a,sg,b,rfl,q⟩ | ⟨rfl,a,sg,b,rfl,q⟩ | ⟨n1,n2,n3,q⟩
 ·walk_at "rz"
  intro l H1 hl g1 h1
  have h1':PLift (H1 l=some (.lst es)):=⟨by rw [h1];simp [cw,HT.sIx,take_of_length_le]⟩
  clear h1 hp
  walk_at "rz"
  intro p2 H2 hp2 g2 h2
  exact q p2 l H2 (g1.free hp2) hl (g1.trans g2) (g2 _ _ h1'.down) h2
 ·walk_at "rz"
  intro u H1 hu g1 h1
  walk_at "rz"
  intro v H2 hv g2 h2
  have n:u≠v:=λz=>by rw [<-z,h1] at hv;cases hv
  have h12:=PLift.up (g2 _ _ h1)
  have h2':=PLift.up h2
  clear h1 h2 hp
  walk_at "rz"
  refine⟨by lia,λp3 H3 hp3 g3 h3=>?_⟩
  exact q p3 u v H3 (g1.free (g2.free hp3)) hu (g1.free hv) n (g1.trans (g2.trans g3)) (g3 _ _ h12.down) (g3 _ _ h2'.down) h3
 ·walk_at "rz"
  intro u H1 hu g1 h1
  have h1':=PLift.up h1
  clear h1 hp
  walk_at "rz"
  intro p3 H3 hp3 g3 h3
  exact q p3 u H3 (g1.free hp3) hu (g1.trans g3) (g3 _ _ h1'.down) h3
 ·walk_at "rz"
  intro p1 H1 hp1 g1 h1
  have h1':=PLift.up h1
  have hq1:=g1 _ _ hp
  clear h1 hp
  walk_at "rz"
  intro p2 H2 hp2 g2 h2
  have h2':H2 p2=some (.lst ys):=by rw [h2];simp [cw,HT.sIx,take_of_length_le]
  clear h2 hq1
  walk_at "rz"
  intro p3 H3 hp3 g3 h3
  have h3':=PLift.up h3
  clear h3 h2'
  walk_at "rz"
  have g13:=g2.trans g3
  refine⟨p1,p3,_,_,rfl,rfl,SqT.of (g13 _ _ h1'.down),SqT.of h3'.down,by simp,by simp;lia,λz=>?_,λ_ p4 hp4=>?_⟩
  ·subst z
   exact q p1 H3 hp1 (g1.trans g13) (g13 _ _ h1'.down)
  ·exact q p4 _ (g1.free (g13.free hp4)) (g1.trans (g13.trans (bt hp4 _))) aX
def BG(K:PySem.W.Frag):Sp:=λvs H Q _=>∃(st b f c:Addr) (x:Str) (bs fs cs ts:List V),vs= [.ref st,.ref b]/\H st=some (.tup (.str x::ts))/\H b=some (.lst bs)/\bs.length<=1000/\atI bs (-1)=some (.ref f)/\H f=some (.tup fs)/\atI fs 1=some (.ref c)/\H c=some (.lst cs)/\cs.length<=1000/\c≠b/\
 ((x = "if" ∧ ∃ k sg a d u v, ts = [k, sg, a, d, u, v] ∧ ∀ H1 p H2 H3, Mu H c (.lst (cs ++ [.ref st])) H1 → H1 p = none → Same H1 H2 → H2 p = some (.tup [.str x, u, v]) → Mu H2 b (.lst (bs ++ [.ref p])) H3 → Q .non H3) ∨
  (x= "while"/\∃k sg a d u,ts= [k,sg,a,d,u]/\∀H1 p H2 H3,Mu H c (.lst (cs++[.ref st])) H1->H1 p=none->Same H1 H2->H2 p=some (.tup [.str x,u,.non])->Mu H2 b (.lst (bs++[.ref p])) H3->Q .non H3)\/
  (x≠"if"/\x≠"while"/\∀H1,Mu H c (.lst (cs++[.ref st])) H1->Q .non H1))
theorem BH(D:DefAt K mg "lay_statement" fH ["statement","bodies"]):OkD P w K mg base 1 "lay_statement" ["statement","bodies"] (BG K):=by
 refine D.ok lC (λvs H Q E h=>?_) (λfu cdv A outer s H vs Q E hr h=>?_)
 ·obtain⟨_,_,_,_,_,_,_,_,_,rfl,_⟩:=h;rfl
 obtain⟨st,b,f,c,x,bs,fs,cs,ts,rfl,hst,hb,lb,eb,hf,ef,hc,lc,ne,q⟩:=h
 have big:2000000<=sizeLine:=by unfold sizeLine;decide
 have ns:st≠c:=λz=>by rw [z,hc] at hst;cases hst
 refine⟨_,(af (aS (bp (ao av (ao av (pv 1) (gu eT ae) (λ_ _=>rfl)) ae (λ_ _=>rfl)) (pv 0)))
 (ah (aB (aj aJ (ao av (pv 0) ae (λ_ _=>rfl)) ac (ap _))
 (ah (aS (bp (pv 1) (az (aa ac (aa (ao av (pv 0) ae (λ_ _=>rfl)) (aa (ao av (pv 0) ae (λ_ _=>rfl)) ad)))))))
 (ah (aB (aj aJ (ao av (pv 0) ae (λ_ _=>rfl)) ac (ap _))
 (ah (aS (bp (pv 1) (az (aa ac (aa (ao av (pv 0) ae (λ_ _=>rfl)) (aa lK ad)))))))
 ay))))),?_⟩
 walk_at "rz"
 refine⟨by lia,λH1 mu=>?_⟩
 have hst1:=mu.old hst ns
 have hb1:=mu.old hb (Ne.symm ne)
 clear hst hb hf hc
 rcases q with ⟨rfl,k,sg,a,d,u,v,rfl,q⟩ | ⟨rfl,k,sg,a,d,u,rfl,q⟩ | ⟨n1,n2,q⟩
 ·walk_at "rz"
  refine⟨u,rfl,?_⟩
  walk_at "rz"
  refine⟨v,rfl,?_⟩
  walk_at "rz"
  intro p2 H2 hp2 g2 h2
  have hb2:=g2 _ _ hb1
  have h2':=PLift.up h2
  clear h2 hb1 hst1
  walk_at "rz"
  refine⟨by lia,λH3 mu3=>?_⟩
  exact q H1 p2 H2 H3 mu hp2 g2 h2'.down mu3
 ·walk_at "rz"
  refine⟨u,rfl,?_⟩
  walk_at "rz"
  intro p2 H2 hp2 g2 h2
  have hb2:=g2 _ _ hb1
  have h2':=PLift.up h2
  clear h2 hb1 hst1
  walk_at "rz"
  refine⟨by lia,λH3 mu3=>?_⟩
  exact q H1 p2 H2 H3 mu hp2 g2 h2'.down mu3
 ·have q:=q H1 mu
  walk_at "rz"
end
def Tr.depth:Tr->Nat
 | .bin _ l r=>max l.depth r.depth+1
 | _=>0
def Tr.size:Tr->Nat
 | .bin _ l r=>l.size+r.size+1
 | _=>1
def Tr.lv:Tr->Nat
 | .bin .mul _ _=>1
 | .bin _ _ _=>2
 | _=>0
def nm12:List Str:=["a","m","count","xx","zyx","ends","handsome","rivers","vw","wavemor","nows","ow"]
def Tr.gd:Tr->Prop
 | .name x=>x∈nm12
 | .num n=>0<=n/\n<1000000
 | .bin _ l r=>l.gd/\r.gd
 | _=>True
theorem mr{x:Str}(h:x∈nm12):bc x=some (.name x)/\x≠Str.ofString "("/\PyData.strOk x=true/\x.length<=8:=by
 have:∀x∈nm12,aW x=true/\x≠Str.ofString "now"/\x≠Str.ofString "own"/\x≠Str.ofString "("/\PyData.strOk x=true/\x.length<=8:=by decide +kernel
 obtain⟨h1,h2,h3,h4,h5,h6⟩:=this x h
 refine⟨?_,h4,h5,h6⟩
 unfold bc
 rw [if_neg h2,if_neg h3,if_pos h1]
def Tr.hd:Tr->Str
 | .name _=>"name"
 | .num _=>"number"
 | .now=>"now"
 | .own=>"own"
 | .bin o _ _=>o.sg
structure Wd(lv:Nat)(t:Tr)(n:Nat)(w:Str):Prop where
 pr:∃a d,Pr lv t a d/\w.cps.toList=cT a
 len:w.length<=n
theorem Wd.up{lv lv' n n':Nat}{t:Tr}{w:Str}(h:Wd lv t n w)(hl:lv<=lv')(hm:lv'<=2)(hn:n<=n'):Wd lv' t n' w:=by
 obtain⟨a,d,p,e⟩:=h.pr
 exact⟨⟨a,d,p.up hl hm,e⟩,le_trans h.len hn⟩
theorem aG(a b:Str):(a++b).cps.toList=a.cps.toList++b.cps.toList:=by
 show(a.cps++b.cps).toList=_
 rw [Array.toList_append]
theorem Wd.brk{lv lv' n:Nat}{t:Tr}{w:Str}(h:Wd lv t n w)(hl:lv<=2):Wd lv' t (n+2) (Str.ofString "("++w++Str.ofString ")"):=by
 obtain⟨a,d,p,e⟩:=h.pr
 refine⟨⟨_,_,.brk (p.up hl (le_refl _)),?_⟩,?_⟩
 ·rw [aG,aG,e,bP,dY,bP]
  simp [cT]
 ·have h1:(Str.ofString "(").length=1:=by decide +kernel
  have h2:(Str.ofString ")").length=1:=by decide +kernel
  rw [bC,bC,h1,h2]
  have:=h.len
  lia
theorem vh{o:Op}(h:o≠.mul):bf o.sg=some o:=by
 cases o
 ·show bf (Str.ofString "+")=_
  unfold bf;rw [if_pos rfl]
 ·show bf (Str.ofString "-")=_
  unfold bf;rw [if_neg (by decide +kernel),if_pos rfl]
 ·exact absurd rfl h
def Op.ll:Op->Nat | .mul=>1 | _=>2
def Op.rl:Op->Nat | .mul=>0 | _=>1
def Op.lv:Op->Nat | .mul=>1 | _=>2
theorem Wd.bin{o:Op}{l r:Tr}{n m:Nat}{x y:Str}(hl:Wd o.ll l n x)(hr:Wd o.rl r m y):Wd o.lv (.bin o l r) (n+m+1) (x++o.sg++y):=by
 obtain⟨a,d,p,e⟩:=hl.pr
 obtain⟨b,d',p',e'⟩:=hr.pr
 have h1:o.sg.length=1:=by cases o<;>decide +kernel
 refine⟨⟨a++o.sg::b,max d d',?_,?_⟩,?_⟩
 ·cases o with
  | mul=>exact .mul p p' (le_refl _)
  | add=>exact .sum p p' (vh (by intro z;cases z))
  | sub=>exact .sum p p' (vh (by intro z;cases z))
 ·rw [aG,aG,e,e',dY,bP,append_assoc]
 ·rw [bC,bC,h1]
  have:=hl.len
  have:=hr.len
  lia
theorem BI{t:Tr}:(t.hd=Str.ofString "+"\/t.hd=Str.ofString "-")↔t.lv=2:=by
 cases t with
 | bin o l r=>cases o<;>simp only [Tr.hd,Tr.lv,Op.sg]<;>decide +kernel
 | _=>simp only [Tr.hd,Tr.lv]<;>decide +kernel
theorem hd_mul{t:Tr}:t.hd=Str.ofString "*"↔t.lv=1:=by
 cases t with
 | bin o l r=>cases o<;>simp only [Tr.hd,Tr.lv,Op.sg]<;>decide +kernel
 | _=>simp only [Tr.hd,Tr.lv]<;>decide +kernel
theorem vi:(Str.ofString "(").length=1:=by decide +kernel
theorem vj:(Str.ofString ")").length=1:=by decide +kernel
theorem in_sum{t:Tr}:inV (.str t.hd) [.str (Str.ofString "+"),.str (Str.ofString "-")]=true↔t.lv=2:=by
 rw [<-BI]
 simp only [bR,eK,dj,Bool.or_false,or_eq_true,decide_eq_true_eq]
 exact⟨λh=>h.imp Eq.symm Eq.symm,λh=>h.imp Eq.symm Eq.symm⟩
theorem tN(t:Tr):t.lv<=2:=by
 cases t with
 | bin o l r=>cases o<;>simp [Tr.lv]
 | _=>simp [Tr.lv]
theorem xL{K:PySem.W.Frag}{H:Hp}{v:V}{t:Tr}(h:Rp K H v t.toD):∃a xs,v= .ref a/\H a=some (.tup (.str t.hd::xs)):=by
 cases t with
 | name x=>obtain⟨a,x1,x2,rfl,ha,h1,h2⟩:=Rp.tup2 h;cases h1.str_inv;exact⟨a,_,rfl,ha⟩
 | num n=>obtain⟨a,x1,x2,rfl,ha,h1,h2⟩:=Rp.tup2 h;cases h1.str_inv;exact⟨a,_,rfl,ha⟩
 | now=>obtain⟨a,x1,rfl,ha,h1⟩:=Rp.tup1 h;cases h1.str_inv;exact⟨a,_,rfl,ha⟩
 | own=>obtain⟨a,x1,rfl,ha,h1⟩:=Rp.tup1 h;cases h1.str_inv;exact⟨a,_,rfl,ha⟩
 | bin o l r=>obtain⟨a,x1,x2,x3,rfl,ha,h1,h2,h3⟩:=Rp.tup3 h;cases h1.str_inv;exact⟨a,_,rfl,ha⟩
theorem kK{t:Tr}{x:Str}(h1:x≠Str.ofString "(")(h2:bc x=some t)(h3:x.length<=13*t.size):Wd t.lv t (13*t.size) x:=
 ⟨⟨[x],0,.leaf h1 h2,by unfold cT;simp⟩,h3⟩
def fj(k:Nat):Str:=Str.ofString (toString ((k:Nat):Int))
theorem rR(k:Nat):∀c∈(fj k).cps.toList,isL "0123456789" c=true:=λc hc=>by
 rw [fj,jy] at hc
 obtain⟨d,hd,rfl⟩:=List.mem_map.mp hc
 exact u6 (Nat.isDigit_of_mem_toDigits (by decide) (by decide) hd)
theorem BJ{k:Nat}(h:k<10^6):cV (fj k)=true:=by
 unfold cV
 simp only [and_eq_true,decide_eq_true_eq]
 refine⟨⟨cZ h,?_⟩,List.all_eq_true.mpr (rR k)⟩
 by_cases hk:k=0
 ·subst hk
  decide +kernel
 ·obtain⟨ch,rr,ed,hch⟩:=qk k (by lia)
  have hs:PySem.Txt.startswith (fj k) (Str.ofString "0")=false:=by
   have h1:(Str.ofString "0").length=1:=by decide +kernel
   have z:(Str.ofString "0").cps.toList= [48]:=by decide +kernel
   unfold PySem.Txt.startswith fj
   rw [PySem.StrLaws.subAt_eq,h1,jy,ed,z]
   rw [Bool.eq_false_iff]
   intro q
   simp at q
   exact hch q.2
  rw [hs,Bool.not_false,Bool.or_true]
theorem jT{k:Nat}(h:k<10^6):aF "number" (fj k)=some (.int k):=by
 unfold aF
 rw [if_neg (by decide +kernel),if_pos ⟨rfl,BJ h⟩,fj,PySem.W.KIN.num_reads (by lia) (by lia)]
 rfl
theorem eC{x:Str}(h:aW x=true):aF "name" x=some (.str x):=by
 unfold aF
 rw [if_neg (by decide +kernel),if_neg (λz=>absurd z.1 (by decide +kernel)),if_pos ⟨rfl,h⟩]
def Wb(x:Str):Prop:=(∀c∈x.cps.toList,c≠32/\c≠10)/\x.length<=60
theorem mt{k:Nat}(h:k<10^6):Wb (fj k):=⟨λc hc=>by have:=fW (rR k c hc);lia,by have:=(cZ h).2;unfold fj;lia⟩
theorem fZ{x:Str}(h:aW x=true):Wb x:=by
 unfold aW at h
 simp only [and_eq_true,decide_eq_true_eq] at h
 refine⟨λc hc=>?_,by lia⟩
 have q:=List.all_eq_true.mp h.2 c hc
 have:=jx q
 lia
def aR(ws:List Str):Str:=Str.join ⟨#[32]⟩ ws
theorem tO{x:Str}{r ks:List Str}{ds:List PyData}(h:∀y∈x::r,Wb y)(k:bi (x::r)=some ks)(a:dy (zipWith aF ks r)=some ds):aZ (aR (x::r))=some (x,ds):=by
 unfold aZ aR
 rw [jP 32 (cons_ne_nil _ _) λy hy z=>((h y hy).1 32 z).1 rfl]
 simp only [k,a,Option.map]
theorem tP(c:Nat){n:Nat}:∀l:List (List Nat),(∀x∈l,x.length<=n)->(jn c l).length<=l.length*(n+1)
 | [],_=>by simp [jn]
 | [x],h=>by have:=h x mem_cons_self;simp [jn];lia
 | x::y::r,h=>by
  have i:=tP c (n:=n) (y::r) (λz hz=>h z (mem_cons_of_mem _ hz))
  have:=h x mem_cons_self
  show(x++c::jn c (y::r)).length<=_
  rw [length_append,length_cons,length_cons,Nat.add_mul]
  lia
theorem xM(c:Nat){d:Nat}(hd:d≠c):∀l:List (List Nat),(∀x∈l,d∉x)->d∉jn c l
 | [],_=>by simp [jn]
 | [x],h=>h x mem_cons_self
 | x::y::r,h=>by
  have i:=xM c hd (y::r) (λz hz=>h z (mem_cons_of_mem _ hz))
  show d∉x++c::jn c (y::r)
  simp only [mem_append,mem_cons,not_or]
  exact⟨h x mem_cons_self,hd,i⟩
theorem wds{ws:List Str}(h:∀x∈ws,(x.cps.toList.all λc=>decide (c≠32/\c≠10))&&decide (x.length<=60)):∀x∈ws,Wb x:=λx hx=>by
 have q:=h x hx
 simp only [and_eq_true,all_eq_true,decide_eq_true_eq] at q
 exact⟨q.1,q.2⟩
theorem ql{k:Str}{α:Type}(f:α->Str)(g:α->PyData):∀l:List α,(∀a∈l,aF k (f a)=some (g a))->dy (zipWith aF (replicate l.length k) (l.map f))=some (l.map g)
 | [],_=>rfl
 | a::l,h=>by
  rw [length_cons,replicate_succ,map_cons,zipWith_cons_cons,h a mem_cons_self,map_cons]
  show(dy _).map _=_
  rw [ql f g l λb hb=>h b (mem_cons_of_mem _ hb)]
  rfl
end K07
namespace K07.D
open PySem L2
section
variable{P:Program}{w:World}{K:PySem.W.Frag}{mg:Str->Option Value}{base:Heap}
mutual
inductive Sm:Type
 | pl (w:Str) (k:Int) (r:List PyData):Sm
 | st (k:Int) (x:Str) (es:List PyData):Sm
 | wh (k:Int) (sg a b:PyData) (u:Bd):Sm
 | fi (k:Int) (sg a b:PyData) (u v:Bd):Sm
inductive Bd:Type
 | nil:Bd
 | cons (s:Sm) (r:Bd):Bd
end
mutual
def smD:Sm->PyData
 | .pl w k r=>.tuple (.str w::.int k::r)
 | .st k x es=>.tuple [.str "start",.int k,.str x,.list es]
 | .wh k sg a b u=>.tuple [.str "while",.int k,sg,a,b,.list (bdD u)]
 | .fi k sg a b u v=>.tuple [.str "if",.int k,sg,a,b,.list (bdD u),.list (bdD v)]
def bdD:Bd->List PyData
 | .nil=>[]
 | .cons s r=>smD s::bdD r
end
def plW:List Str:=["wait","let","say","stop","take","give","put","get","draw"]
mutual
def wid:PyData->Nat
 | .list xs=>max xs.length (qm xs)
 | .tuple xs=>max xs.length (qm xs)
 | _=>0
def qm:List PyData->Nat
 | []=>0
 | x::xs=>max (wid x) (qm xs)
end
def DG(n:Nat)(d:PyData):Prop:=d.canLay0=true/\d.depth<=n/\wid d<=1000
def DT(d:PyData):Prop:=DG 5 d/\((∃x,d= .str x)\/∃t:Tr,d=t.toD)
def DX(d:PyData):Prop:=DG 5 d/\∃t:Tr,d=t.toD
mutual
def bw:Sm->Nat->Prop
 | .pl w _ r,_=>w∈plW/\(∀d∈r,DT d)/\r.length<=2
 | .st _ x es,_=>PyData.strOk x=true/\(∀d∈es,DX d)/\es.length<=7
 | .wh _ sg a b u,n=>DT sg/\DT a/\DT b/\∃m,n=m+1/\fK u m
 | .fi _ sg a b u v,n=>DT sg/\DT a/\DT b/\∃m,n=m+1/\fK u m/\fK v m
def fK:Bd->Nat->Prop
 | .nil,_=>True
 | .cons s r,n=>bw s n/\fK r n
end
mutual
def orS:Sm->List Sm
 | .wh k sg a b u=>.wh k sg a b u::orB u
 | .fi k sg a b u v=>.fi k sg a b u v::(orB u++orB v)
 | s=>[s]
def orB:Bd->List Sm
 | .nil=>[]
 | .cons s r=>orS s++orB r
end
def toL:Bd->List Sm
 | .nil=>[]
 | .cons s r=>s::toL r
theorem rS(b:Bd):bdD b=(toL b).map smD:=by
 induction toL_dummy:toL b generalizing b with
 | nil=>cases b with | nil=>rfl | cons s r=>cases toL_dummy
 | cons s l ih=>cases b with | nil=>cases toL_dummy | cons s' r=>cases toL_dummy;show smD s::bdD r=_;rw [ih r rfl];rfl
theorem rT(b:Bd):orB b=(toL b).flatMap orS:=by
 induction toL_dummy:toL b generalizing b with
 | nil=>cases b with | nil=>rfl | cons s r=>cases toL_dummy
 | cons s l ih=>cases b with | nil=>cases toL_dummy | cons s' r=>cases toL_dummy;show orS s++orB r=_;rw [ih r rfl];rfl
theorem BK{n:Nat}(b:Bd):fK b n↔∀s∈toL b,bw s n:=by
 induction toL_dummy:toL b generalizing b with
 | nil=>cases b with | nil=>simp [fK] | cons s r=>cases toL_dummy
 | cons s l ih=>cases b with | nil=>cases toL_dummy | cons s' r=>cases toL_dummy;simp [fK,ih r rfl]
def ofL:List Sm->Bd
 | []=>.nil
 | s::l=>.cons s (ofL l)
theorem mU(l:List Sm):toL (ofL l)=l:=by
 induction l with
 | nil=>rfl
 | cons s l ih=>show s::toL (ofL l)=_;rw [ih]
abbrev Hd:=Str×List Str×Bd
def hdD(h:Hd):PyData:=.tuple [.str h.1,.list (h.2.1.map .str),.list (bdD h.2.2)]
def bM(o:Str×List PyData):PyData:=.tuple (.str o.1::o.2)
structure Pg where
 t:List (Str×List PyData)
 s:List (Str×List PyData)
 r:List (Str×List PyData)
 h:List Hd
def Pg.D(p:Pg):PyData:=.tuple [.list (p.t.map bM),.list (p.s.map bM),.list (p.r.map bM),.list (p.h.map hdD)]
theorem dgl{n:Nat}{l:List PyData}(h:∀d∈l,DG n d):PyData.canLayAll0 l=true/\PyData.depthAll l<=n/\qm l<=1000:=by
 induction l with
 | nil=>exact⟨rfl,zero_le _,zero_le _⟩
 | cons d l ih=>
  obtain⟨a,b,c⟩:=h d (mem_cons_self ..)
  obtain⟨a',b',c'⟩:=ih λd hd=>h d (mem_cons_of_mem _ hd)
  exact⟨by rw [PyData.canLayAll0,a,a'];rfl,by rw [PyData.depthAll];exact Nat.max_le.mpr ⟨b,b'⟩,by rw [qm];exact Nat.max_le.mpr ⟨c,c'⟩⟩
theorem eE{n:Nat}{l:List PyData}(h:∀d∈l,DG n d)(hl:l.length<=1000):DG (n+1) (.list l):=by
 obtain⟨a,b,c⟩:=dgl h
 exact⟨by rw [PyData.canLay0];exact a,by rw [PyData.depth];exact Nat.succ_le_succ b,by rw [wid];exact Nat.max_le.mpr ⟨hl,c⟩⟩
theorem dg_tup{n:Nat}{l:List PyData}(h:∀d∈l,DG n d)(hl:l.length<=1000):DG (n+1) (.tuple l):=by
 obtain⟨a,b,c⟩:=dgl h
 exact⟨by rw [PyData.canLay0];exact a,by rw [PyData.depth];exact Nat.succ_le_succ b,by rw [wid];exact Nat.max_le.mpr ⟨hl,c⟩⟩
theorem dg_mono{n m:Nat}{d:PyData}(h:DG n d)(l:n<=m):DG m d:=⟨h.1,le_trans h.2.1 l,h.2.2⟩
theorem dg_str{n:Nat}{x:Str}(h:PyData.strOk x=true):DG n (.str x):=⟨by rw [PyData.canLay0];exact h,zero_le _,zero_le _⟩
theorem dg_int{n:Nat}{x:Int}:DG n (.int x):=⟨rfl,zero_le _,zero_le _⟩
theorem oH{x:Str}(h:x∈plW++([Str.ofString "start",Str.ofString "if",Str.ofString "while"]:List Str)):PyData.strOk x=true:=by
 have:∀x∈plW++([Str.ofString "start",Str.ofString "if",Str.ofString "while"]:List Str),PyData.strOk x=true:=by decide +kernel
 exact this x h
theorem yM(s:Sm):1<=(orS s).length:=by
 cases s<;>simp [orS]
theorem rV(l:List Sm):l.length<=(l.flatMap orS).length:=by
 induction l with
 | nil=>exact le_refl _
 | cons s l ih=>have:=yM s;rw [flatMap_cons,length_append,length_cons];lia
theorem kL(b:Bd):(bdD b).length<=(orB b).length:=by rw [rS,length_map,rT];exact rV _
theorem all_cons{p:PyData->Prop}{a:PyData}{l:List PyData}(h:p a)(t:∀d∈l,p d):∀d∈a::l,p d:=λd m=>by
 rcases List.mem_cons.mp m with rfl | m
 ·exact h
 ·exact t d m
theorem all_nil{p:PyData->Prop}:∀d∈([]:List PyData),p d:=λd m=>absurd m not_mem_nil
theorem dg5{l:List PyData}(h:∀d∈l,DG 5 d)(m:Nat):∀d∈l,DG (m+7) d:=λd hd=>dg_mono (h d hd) (by lia)
mutual
theorem Dg:∀(s:Sm) (n:Nat),bw s n->(orS s).length<=1000->DG (2*n+8) (smD s)
 | .pl w k r,n,ok,_=>by
  simp only [bw] at ok
  unfold smD
  exact dg_tup (all_cons (dg_str (oH (by simp [ok.1]))) (all_cons dg_int (dg5 (λd hd=>(ok.2.1 d hd).1) _))) (by simp;lia)
 | .st k x es,n,ok,_=>by
  simp only [bw] at ok
  unfold smD
  exact dg_tup (all_cons (dg_str (oH (by simp))) (all_cons dg_int (all_cons (dg_str ok.1) (all_cons (dg_mono (eE (λd hd=>(ok.2.1 d hd).1) (by lia)) (by lia)) all_nil)))) (by simp)
 | .wh k sg a b u,n,ok,hl=>by
  simp only [bw] at ok
  obtain⟨h1,h2,h3,m,rfl,o⟩:=ok
  have hl':(orB u).length+1<=1000:=hl
  unfold smD
  exact dg_mono (dg_tup (n:=2*m+9) (all_cons (dg_str (oH (by simp))) (all_cons dg_int (all_cons (dg_mono h1.1 (by lia)) (all_cons (dg_mono h2.1 (by lia)) (all_cons (dg_mono h3.1 (by lia)) (all_cons (eE (mw u m o (by lia)) (le_trans (kL u) (by lia))) all_nil)))))) (by simp)) (by lia)
 | .fi k sg a b u v,n,ok,hl=>by
  simp only [bw] at ok
  obtain⟨h1,h2,h3,m,rfl,o,o'⟩:=ok
  have hl':(orB u++orB v).length+1<=1000:=hl
  rw [length_append] at hl'
  unfold smD
  exact dg_mono (dg_tup (n:=2*m+9) (all_cons (dg_str (oH (by simp))) (all_cons dg_int (all_cons (dg_mono h1.1 (by lia)) (all_cons (dg_mono h2.1 (by lia)) (all_cons (dg_mono h3.1 (by lia)) (all_cons (eE (mw u m o (by lia)) (le_trans (kL u) (by lia))) (all_cons (eE (mw v m o' (by lia)) (le_trans (kL v) (by lia))) all_nil))))))) (by simp)) (by lia)
theorem mw:∀(b:Bd) (n:Nat),fK b n->(orB b).length<=1000->∀d∈bdD b,DG (2*n+8) d
 | .nil,_,_,_=>by unfold bdD;exact all_nil
 | .cons s r,n,ok,hl=>by
  simp only [fK] at ok
  have hl':(orS s++orB r).length<=1000:=hl
  rw [length_append] at hl'
  unfold bdD
  exact all_cons (Dg s n ok.1 (by lia)) (mw r n ok.2 (by lia))
end
theorem jA{x:Str}(h:PyData.strOk x=true):DT (.str x):=⟨dg_str h,.inl ⟨x,rfl⟩⟩
theorem jU{t:Tr}(h:DG 5 t.toD):DT t.toD:=⟨h,.inr ⟨t,rfl⟩⟩
theorem _root_.L2.RpL.at{K:PySem.W.Frag}{F:Hp}{vs:List V}{ds:List PyData}(r:RpL K F vs ds){v:V}{d:PyData}(i:Nat)(hv:vs[i]? =some v)(hd:ds[i]? =some d):Rp K F v d:=by
 obtain⟨d',e,q⟩:=r.get hv
 rw [hd] at e;cases e;exact q
theorem jB{α:Type}{f:α->PyData}{l:List α}{n:Nat}(h:∀x∈l,DG n (f x)):∀d∈l.map f,DG n d:=λd hd=>by
 obtain⟨x,hx,rfl⟩:=List.mem_map.mp hd
 exact h x hx
def kp(H0 H H':Hp):Hp:=λa=>match H0 a with | some _=>H' a | none=>nw H H' a
def em:Hp:=λ_=>none
theorem cG{H0 H H':Hp}{a:Addr}{u:HO}(e:kp H0 H H' a=some u):((∃o,H0 a=some o)\/H a=none)/\H' a=some u:=by
 unfold kp at e
 cases h:H0 a with
 | some o=>rw [h] at e;exact⟨.inl ⟨_,rfl⟩,e⟩
 | none=>rw [h] at e;exact⟨.inr (uI e).1,(uI e).2⟩
theorem qo{H0 H H':Hp}{a:Addr}{u o:HO}(h:H0 a=some o)(h':H' a=some u):kp H0 H H' a=some u:=by
 unfold kp;rw [h];exact h'
theorem aT{H0 H H':Hp}{a:Addr}{u:HO}(h:H a=none)(h':H' a=some u):kp H0 H H' a=some u:=by
 unfold kp
 cases H0 a with
 | some o=>exact h'
 | none=>exact C5 h h'
theorem tQ{H0 H H':Hp}:Same (kp H0 H H') H':=λa u e=>(cG e).2
theorem eP{H0 H H1 H' H'':Hp}(g:Same H H1)(g':Same H' H''):Same (kp H0 H1 H') (kp H0 H H''):=λa u e=>by
 obtain⟨h | h,h2⟩:=cG e
 ·exact qo h.choose_spec (g' _ _ h2)
 ·exact aT (g.free h) (g' _ _ h2)
theorem BL{H0 H H' H'' H5:Hp}{D:Addr}{o:HO}(g:Same H' H'')(mu:Mu H'' D o H5):Same (cg D (kp H0 H H')) (cg D (kp H0 H H5)):=λa u e=>by
 obtain⟨n,e⟩:=cF e
 obtain⟨h,h2⟩:=cG e
 refine bI n ?_
 have h5:=mu.old (g _ _ h2) n
 rcases h with ⟨_,h⟩ | h
 ·exact qo h h5
 ·exact aT h h5
theorem yN{H0 H H' H'' H5:Hp}{D:Addr}{o o':HO}(g0:Same H H')(h0:H0 D=none)(hD:H' D=some o')(mu:Mu H'' D o H5):Same (kp H0 H' H'') (cg D (kp H0 H H5)):=λa u e=>by
 obtain⟨h,h2⟩:=cG e
 have n:a≠D:=λz=>by
  rcases h with ⟨_,h⟩ | h
  ·rw [z,h0] at h;cases h
  ·rw [z,hD] at h;cases h
 refine bI n ?_
 have h5:=mu.old h2 n
 rcases h with ⟨_,h⟩ | h
 ·exact qo h h5
 ·exact aT (g0.free h) h5
theorem qp{K:PySem.W.Frag}{H:Hp}{l:List Str}:∀{vs:List V},RpL K H vs (l.map .str)->vs=l.map V.str:=by
 induction l with
 | nil=>intro vs t;cases t;rfl
 | cons x l ih=>intro vs t;cases t with | cons h r=>cases h;rw [ih r];rfl
theorem my{t u:TS}{D:L2.Ends}{σ:St}{H:Hp}(Z:St->Hp->Prop)(h1:∀D':L2.Ends,D'.nx=Z->t D' σ H)(h2:∀σ' H',Z σ' H'->u D σ' H'):oN (tMs t) u D σ H:=⟨Z,h1 _ rfl,h2⟩
theorem Dh{i:Nat}{v:V}{σ σ0:St}{H:Hp}{Q:St->Hp->Prop}(e:σ.set i (some v)=σ0)(h:Q σ0 H):gr i v σ H Q:=by subst e;exact h
def bY(c k:Int):Int:=if 1000000000000000000<=c then (c-1000000000000000000)/2^(28*k).toNat%268435456 else
 ((c+1013*k+1)*16807%2147483647)*((c+1013*k+1)*16807%2147483647)%2147483629*39373%2147483587/8
theorem qq(c k:Int):0<=bY c k:=by
 unfold bY
 split
 ·exact emod_nonneg _ (by decide)
 ·lia
def dC:Sp:=λvs H Q _=>∃c k:Int,vs= [.int c,.int k]/\0<=k/\k<=1200/\∀m:Int,m=bY c k->0<=m->m<2^28->Q (.int m) H
theorem yO(D:DefAt K mg "_law_stir" iX ["cell","k"]):OkD P w K mg base 1 "_law_stir" ["cell","k"] dC:=by
 refine D.ok sc__law_stir (λvs H Q E h=>?_) (λf cdv A outer s H vs Q E hr h=>?_)
 ·obtain⟨c,k,rfl,_⟩:=h;rfl
 obtain⟨c,k,rfl,h0,h1,q⟩:=h
 refine⟨_,(af (aB (aj CJ (pv 0) (ag oQ ae ae) (ap _))
 (ah (ax (ag aI (ag zJ (ag gE (pv 0) (ag oQ ae ae)) (ag dh ae (pv 1))) (ag oQ ae ae))))
 ay)
 (af (ai (i:=2) sc__law_stir.nd rfl (Or.inl rfl) (ag aI (ag dh (ag aM (ag aM (pv 0) (ag dh ae (pv 1))) ae) ae) ae))
 (af (ai (i:=2) sc__law_stir.nd rfl (Or.inl rfl) (ag aI (ag dh (pv 2) (pv 2)) ae))
 (ah (ax (ag bG (ag aI (ag dh (pv 2) ae) ae) ae)))))),?_⟩
 walk_at "r2"
 split
 ·rename_i hc
  walk_at "r2"
  refine⟨by lia,?_⟩
  walk_at "r2"
  exact q _ (by unfold bY;rw [if_pos hc]) (emod_nonneg _ (by decide)) (emod_lt_of_pos _ (by decide))
 ·rename_i hc
  walk_at "r2"
  refine⟨.inl ⟨by lia,by lia⟩,?_⟩
  walk_at "r2"
  exact q _ (by unfold bY;rw [if_neg hc]) (by lia) (by lia)
def out(M:List Addr)(H:Hp):Hp:=λa=>if a∈M then none else H a
theorem aL{M:List Addr}{H:Hp}{a:Addr}{u:HO}(n:a∉M)(h:H a=some u):out M H a=some u:=by unfold out;rw [if_neg n];exact h
theorem bK{M:List Addr}{H:Hp}{a:Addr}{u:HO}(h:out M H a=some u):a∉M/\H a=some u:=by
 unfold out at h
 by_cases e:a∈M
 ·rw [if_pos e] at h;cases h
 ·rw [if_neg e] at h;exact⟨e,h⟩
theorem cI{M:List Addr}{H:Hp}:Same (out M H) H:=λa u h=>(bK h).2
theorem eF{M:List Addr}{H H':Hp}(g:Same H H'):Same (out M H) (out M H'):=λa u h=>aL (bK h).1 (g _ _ (bK h).2)
theorem fL{M:List Addr}{H H':Hp}{m:Addr}{o:HO}(hm:m∈M)(mu:Mu H m o H'):Same (out M H) (out M H'):=λa u h=>by
 obtain⟨n,h⟩:=bK h
 exact aL n (mu.old h λz=>n (z▸hm))
theorem BM{M:List Addr}{H H':Hp}(hM:∀m∈M,∃o,H m=some o):Same (kp em H H') (out M H'):=λa u h=>by
 obtain⟨h,h2⟩:=cG h
 refine aL (λz=>?_) h2
 obtain⟨o,ho⟩:=hM a z
 rcases h with ⟨_,h⟩ | h
 ·cases h
 ·rw [ho] at h;cases h
theorem lG{M M':List Addr}{H:Hp}(h:∀m∈M',m∈M):Same (out M H) (out M' H):=λa u e=>aL (λz=>(bK e).1 (h a z)) (bK e).2
end
end K07.D
namespace K07
open PySem L2
theorem xN{t:Tr}(h:t.gd):D.DG (t.depth+1) t.toD:=by
 induction t with
 | name x=>exact D.dg_tup (n:=0) (D.all_cons (D.dg_str (by decide +kernel)) (D.all_cons (D.dg_str (mr h).2.2.1) D.all_nil)) (by simp)
 | num n=>exact D.dg_tup (n:=0) (D.all_cons (D.dg_str (by decide +kernel)) (D.all_cons D.dg_int D.all_nil)) (by simp)
 | now=>exact D.dg_tup (n:=0) (D.all_cons (D.dg_str (by decide +kernel)) D.all_nil) (by simp)
 | own=>exact D.dg_tup (n:=0) (D.all_cons (D.dg_str (by decide +kernel)) D.all_nil) (by simp)
 | bin o l r ih1 ih2=>exact D.dg_tup (n:=max l.depth r.depth+1) (D.all_cons (D.dg_str (by cases o<;>decide +kernel)) (D.all_cons (D.dg_mono (ih1 h.1) (by lia)) (D.all_cons (D.dg_mono (ih2 h.2) (by lia)) D.all_nil))) (by simp)
end K07
namespace K07.D
open PySem L2
section
variable{P:Program}{w:World}{K:PySem.W.Frag}{mg:Str->Option Value}{base:Heap}
def wN:Sp:=λvs H Q _=>∃m:Int,vs= [.int m]/\∀x H',x∈nm12->Same H H'->Q (.str x) H'
theorem Di(D:DefAt K mg "_law_name" iY ["number"]):OkD P w K mg base 1 "_law_name" ["number"] wN:=by
 refine D.ok sc__law_name (λvs H Q E h=>?_) (λf cdv A outer s H vs Q E hr h=>?_)
 ·obtain⟨n,rfl,_⟩:=h;rfl
 obtain⟨m,rfl,q⟩:=h
 refine⟨_,(af (ai (i:=1) sc__law_name.nd rfl (Or.inl rfl) (ak (aa ac (aa ac (aa ac (aa ac (aa ac (aa ac (aa ac (aa ac (aa ac (aa ac (aa ac (aa ac ad))))))))))))))
 (ah (ax (ao av (pv 1) (ag aI (pv 0) ae) (λ_ _=>rfl))))),?_⟩
 walk_at "r2"
 refine⟨by decide,λp H1 hp g1 h1=>?_⟩
 obtain⟨v,hv,hm,_⟩:=eU (xs:=nm12.map V.str) (i:=m%12) (by lia) (by show m%12<12;lia)
 obtain⟨x,hx,rfl⟩:=List.mem_map.mp hm
 walk_at "r2"
 exact⟨_,hv,q x H1 hx g1⟩
def wO(K:PySem.W.Frag):Sp:=λvs H Q _=>∃m:Int,vs= [.int m]/\0<=m/\∀r H' t,Same H H'->Rp K (kp em H H') r (Tr.toD t)->t.gd->t.depth=0->t.size=1->Q r H'
theorem Dj(D:DefAt K mg "_law_leaf" iZ ["number"])(G__law_name:OkD P w K mg base 1 "_law_name" ["number"] wN):OkD P w K mg base 2 "_law_leaf" ["number"] (wO K):=by
 refine D.ok sc__law_leaf (λvs H Q E h=>?_) (λf cdv A outer s H vs Q E hr h=>?_)
 ·obtain⟨n,rfl,_⟩:=h;rfl
 obtain⟨m,rfl,h0,q⟩:=h
 refine⟨_,(af (ai (i:=1) sc__law_leaf.nd rfl (Or.inl rfl) (ag aI (pv 0) ae))
 (af (aB (aj gR (pv 1) ae (ap _))
 (ah (ax (az (aa ac (aa (aA G__law_name hr rfl (aa (ag bG (pv 0) ae) ad)) ad)))))
 ay)
 (af (aB (aj gR (pv 1) ae (ap _))
 (ah (ax (az (aa ac (aa (ag aI (ag bG (pv 0) ae) (ao av (ak (aa ae (aa ae ad))) (ag aI (ag bG (pv 0) ae) ae) (λ_ _=>rfl))) ad)))))
 ay)
 (ah (ax (ao av (ak (aa (az (aa ac ad)) (aa (az (aa ac ad)) ad))) (ag gE (pv 1) ae) (λ_ _=>rfl))))))),?_⟩
 walk_at "r2"
 refine aY (λc=>?_) (λc=>?_)
 ·walk_at "r2"
  refine⟨_,rfl,λx H1 hx g1=>?_⟩
  walk_at "r2"
  intro p H2 hp g2 h2
  exact q _ _ (.name x) (g1.trans g2) (.tup (aT (g1.free hp) h2) (.cons (.str _) (.cons (.str _) .nil))) hx rfl rfl
 walk_at "r2"
 refine aY (λc=>?_) (λc=>?_)
 ·walk_at "r2"
  intro p H1 hp g1 h1
  obtain⟨x,hx,hm,_⟩:=eU (xs:=[V.int 10,V.int 1000000]) (i:=m/80%2) (by lia) (by simp only [length_cons,length_nil];lia)
  obtain⟨n,rfl,hn,hn2⟩:∃n:Int,x=V.int n/\0<n/\n<=1000000:=by
   simp only [mem_cons,not_mem_nil,or_false] at hm
   rcases hm with rfl | rfl
   ·exact⟨_,rfl,by decide,by decide⟩
   ·exact⟨_,rfl,by decide,by decide⟩
  walk_at "r2"
  intro r H2 hr g2 h2
  have e1:=emod_nonneg (m/8) (Int.ne_of_gt hn)
  have e2:=emod_lt_of_pos (m/8) hn
  exact q _ _ (.num (m/8%n)) (g1.trans g2) (.tup (aT (g1.free hr) h2) (.cons (.str _) (.cons (.int _) .nil))) ⟨e1,Int.lt_of_lt_of_le e2 hn2⟩ rfl rfl
 ·walk_at "r2"
  intro p H1 hp g1 h1
  walk_at "r2"
  intro r H2 hr g2 h2
  walk_at "r2"
  intro l H3 hl g3 h3
  have i01:m%8-6=0\/m%8-6=1:=by lia
  rcases i01 with e | e<;>walk_at "r2"
  ·exact q _ _ .now ((g1.trans g2).trans g3) (.tup (aT hp (g3 _ _ (g2 _ _ h1))) (.cons (.str _) .nil)) True.intro rfl rfl
  ·exact q _ _ .own ((g1.trans g2).trans g3) (.tup (aT (g1.free hr) (g3 _ _ h2)) (.cons (.str _) .nil)) True.intro rfl rfl
theorem Dk:(Str.ofString "+-*").cps.toList= [43,45,42]:=by decide +kernel
theorem wQ:(Str.ofString "+-*").length<=sizeLine:=le_of_lt (nH (by decide +kernel))
def B:Nat->Int | 0=>2402 | n+1=>(B n-2)/2
theorem Ee(n:Nat):B n<=2402:=by
 induction n with
 | zero=>exact Int.le_refl _
 | succ n ih=>show(B n-2)/2<=2402;lia
theorem Dl{x:Nat}(h:x∈[43,45,42]):∃o:Op,(⟨#[x]⟩:Str)=o.sg:=by
 simp only [mem_cons,not_mem_nil,or_false] at h
 rcases h with rfl | rfl | rfl
 ·exact⟨.add,by decide +kernel⟩
 ·exact⟨.sub,by decide +kernel⟩
 ·exact⟨.mul,by decide +kernel⟩
def vk(K:PySem.W.Frag)(n:Nat):Sp:=λvs H Q _=>∃c k d:Int,vs= [.int c,.int k,.int d]/\0<=k/\0<=d/\d<n/\k<=B n/\∀r H' t,Same H H'->Rp K (kp em H H') r (Tr.toD t)->t.gd->t.depth<n->t.size<2^n->Q r H'
theorem yP(D:DefAt K mg "_law_tree" ja ["cell","k","deep"])(G__law_stir:OkD P w K mg base 1 "_law_stir" ["cell","k"] dC)(G__law_leaf:OkD P w K mg base 2 "_law_leaf" ["number"] (wO K)):
 ∀n:Nat,OkD P w K mg base (n+2) "_law_tree" ["cell","k","deep"] (vk K n):=by
 intro n
 induction n with
 | zero=>exact D.never _ λvs H Q E h=>by obtain⟨_,_,_,_,_,h1,h2,_⟩:=h;lia
 | succ n G__law_tree=>
  refine D.ok sc__law_tree (λvs H Q E h=>?_) (λf cdv A outer s H vs Q E hr h=>?_)
  ·obtain⟨_,_,_,rfl,_⟩:=h;rfl
  obtain⟨c,k,d,rfl,hk,hd0,hd1,hk2,q⟩:=h
  refine⟨_,(af (ai (i:=3) sc__law_tree.nd rfl (Or.inl rfl) (aA G__law_stir hr rfl (aa (pv 0) (aa (pv 1) ad))))
 (af (aB (PW.pt (iG (aj aJ (pv 2) ae (ap _)) (hW (aj aJ (ag aI (pv 3) ae) ae (ap _)))))
 (ah (ax (aA G__law_leaf hr rfl (aa (ag bG (pv 3) ae) ad))))
 ay)
 (af (ai (i:=4) sc__law_tree.nd rfl (Or.inl rfl) (ao jh ac (ag aI (ag bG (pv 3) ae) ae) (λ_ _=>rfl)))
 (ah (ax (az (aa (pv 4) (aa (aA G__law_tree hr rfl (aa (pv 0) (aa (ag aM (ag dh ae (pv 1)) ae) (aa (ag gE (pv 2) ae) ad)))) (aa (aA G__law_tree hr rfl (aa (pv 0) (aa (ag aM (ag dh ae (pv 1)) ae) (aa (ag gE (pv 2) ae) ad)))) ad))))))))),?_⟩
  have hk2':k<=(B n-2)/2:=hk2
  have hb:=Ee n
  have hp2:(2:Nat)^(n+1)=2^n+2^n:=by rw [Nat.pow_succ];lia
  have hp1:0<(2:Nat)^n:=Nat.pow_pos (by decide)
  have hd1':d<n+1:=by lia
  clear hd1
  walk_at "r2"
  refine⟨c,k,rfl,hk,by lia,λm e0 m0 m1=>?_⟩
  clear e0
  have leaf:wO K [V.int (m/3)] H Q E0:=⟨_,rfl,by lia,λr H' t g e gd dp sz=>q r H' t g e gd (by lia) (by lia)⟩
  walk_at "r2"
  refine aY (λc0=>?_) (λc0=>?_)
  ·walk_at "r2"
  walk_at "r2"
  refine aY (λc1=>?_) (λc1=>?_)
  ·walk_at "r2"
  clear leaf
  obtain⟨x,hx,hm,_⟩:=eU (xs:=[43,45,42]) (i:=m/3%3) (by lia) (by simp only [length_cons,length_nil];lia)
  obtain⟨o,ho⟩:=Dl hm
  have sz:=wQ
  have sg:=Dk
  have ho':=PLift.up ho
  clear ho
  walk_at "r2"
  refine⟨c,2*k+1,d-1,rfl,by lia,by lia,by lia,by lia,λr1 H1 t1 g1 e1 gd1 dp1 sz1=>?_⟩
  refine⟨c,2*k+2,d-1,rfl,by lia,by lia,by lia,by lia,λr2 H2 t2 g2 e2 gd2 dp2 sz2=>?_⟩
  intro p H3 hp g3 h3
  rw [ho'.down] at h3
  exact q _ _ (.bin o t1 t2) ((g1.trans g2).trans g3) (.tup (aT (g1.free (g2.free hp)) h3) (.cons (.str _) (.cons (e1.mono (eP (Same.refl _) (g2.trans g3))) (.cons (e2.mono (eP g1 g3)) .nil)))) ⟨gd1,gd2⟩ (by show max t1.depth t2.depth+1<n+1;lia) (by show t1.size+t2.size+1<_;lia)
end
end K07.D
namespace K07
open PySem L2
theorem Pr.chars{lv:Nat}{t:Tr}{a:List Str}{d:Nat}(h:Pr lv t a d):∀c∈cT a,40<=c:=by
 have leafc:∀x t,bc x=some t->∀c∈x.cps.toList,40<=c:=λx t h=>by
  unfold bc at h
  split at h
  ·rename_i e;rw [e];decide +kernel
  split at h
  ·rename_i e;rw [e];decide +kernel
  split at h
  ·rename_i e
   unfold aW at e
   simp only [and_eq_true,decide_eq_true_eq] at e
   exact λc hc=>by have:=jx (List.all_eq_true.mp e.2 c hc);lia
  split at h
  ·rename_i e
   unfold cV at e
   simp only [and_eq_true,decide_eq_true_eq] at e
   exact λc hc=>by have:=(fW (List.all_eq_true.mp e.2 c hc)).1;lia
  ·cases h
 have opc:∀o:Op,∀c∈o.sg.cps.toList,40<=c:=λo=>by cases o<;>decide +kernel
 induction h with
 | leaf _ h2=>intro c hc;rw [bP] at hc;simp [cT] at hc;exact leafc _ _ h2 c (by simpa using hc)
 | brk _ ih=>
  intro c hc
  rw [bP,dY,bP,u4,u5] at hc
  simp only [mem_append,mem_singleton,cT,flatMap_nil,not_mem_nil,or_false] at hc
  rcases hc with rfl | hc | rfl
  ·decide
  ·exact ih c hc
  ·decide
 | mul _ _ _ ih1 ih2=>
  intro c hc
  rw [dY,bP] at hc
  rcases List.mem_append.mp hc with hc | hc
  ·exact ih1 c hc
  ·rcases List.mem_append.mp hc with hc | hc
   ·exact opc .mul c hc
   ·exact ih2 c hc
 | @sum o _ _ _ _ _ _ _ _ _ ih1 ih2=>
  intro c hc
  rw [dY,bP] at hc
  rcases List.mem_append.mp hc with hc | hc
  ·exact ih1 c hc
  ·rcases List.mem_append.mp hc with hc | hc
   ·exact opc o c hc
   ·exact ih2 c hc
structure Ew(x:Str)(t:Tr):Prop where
 ex:dr x=some t
 wb:Wb x
theorem xO{lv n:Nat}{t:Tr}{x:Str}(h:Wd lv t n x)(hl:lv<=2)(h6:x.length<=60)(h5:jw x<=5):Ew x t:=by
 obtain⟨a,d,p,e⟩:=h.pr
 have p2:=p.up hl (le_refl _)
 refine⟨by rw [(p2.expr rO e).2,if_pos ⟨h6,h5⟩],λc hc=>?_,h6⟩
 rw [e] at hc
 have:=p.chars c hc
 lia
end K07
namespace K07.D
open PySem L2
theorem jC{n:Int}(h0:0<=n)(h1:n<1000000):n.natAbs.log2<1920:=by
 have:n.natAbs<2^1920:=lt_of_lt_of_le (show n.natAbs<2^30 by lia) (Nat.pow_le_pow_right (by decide) (by decide))
 by_cases z:n.natAbs=0
 ·rw [z];decide
 ·exact(Nat.log2_lt z).mpr this
def Tot(H0:Hp)(σ:St)(t:TT)(p:Prop):Prop:=∀H,Same H0 H->∀Q:Bool->Hp->Prop,(∀b H',(b=false->p)->Same H H'->Q b H')->t σ H Q
theorem rW{H0:Hp}{σ:St}{t u:TT}{p q:Prop}(a:Tot H0 σ t p)(b:Tot H0 σ u q):Tot H0 σ (vS t u) (p\/q):=λH g Q h=>a H g _ λc H1 f1 g1=>by
 cases c
 ·exact h false H1 (λ_=>.inl (f1 rfl)) g1
 ·exact b H1 (g.trans g1) Q λd H2 f2 g2=>h d H2 (λe=>.inr (f2 e)) (g1.trans g2)
theorem qr{H0:Hp}{σ:St}{t u:TT}{p q:Prop}(a:Tot H0 σ t p)(b:Tot H0 σ u q):Tot H0 σ (tOr t u) (p/\q):=λH g Q h=>a H g _ λc H1 f1 g1=>by
 cases c
 ·exact b H1 (g.trans g1) Q λd H2 f2 g2=>h d H2 (λe=>⟨f1 rfl,f2 e⟩) (g1.trans g2)
 ·exact h true H1 (λe=>by cases e) g1
theorem vm{tc:TT}{tb u:TS}{D':L2.Ends}{σ:St}{H:Hp}{p:Prop}(htc:Tot H σ tc p)(h1:∀H',Same H H'->tb D' σ H')(h2:p->∀H',Same H H'->u D' σ H'):mD tc tb u D' σ H:=htc H (Same.refl _) _ λb H' f g=>by
 cases b
 ·exact h2 (f rfl) H' g
 ·exact h1 H' g
theorem vn{H0:Hp}{σ:St}{a p:Addr}{xs ys:List V}{j:Int}{x w1 w2:Str}(s0:σ[0]? =some (some (.ref a)))(ha:H0 a=some (.tup xs))(hj:atI xs j=some (.ref p))(hp:H0 p=some (.tup ys))(hx:atI ys 0=some (.str x)):
 Tot H0 σ (iI (tOp (o9 false) (tOp ii (tOp ii (cJ 0) (tC (.int j))) (tC (.int 0))) (oA (gS (tC (.str w1)) (gS (tC (.str w2)) jH))))) (inV (.str x) [.str w1,.str w2]=false):=λH g Q q=>by
 have a1:=g _ _ ha
 have p1:=g _ _ hp
 walk_at "r2"
 intro p3 H3 hp3 g3 h3
 have a2:=g3 _ _ a1
 have p2:=g3 _ _ p1
 have h3':=PLift.up h3
 clear h3
 walk_at "r2"
 exact⟨_,.inr h3'.down,rfl,rfl,inV (.str x) [.str w1,.str w2],rfl,q _ H3 (λe=>by simpa using e) g3⟩
theorem rX{H0:Hp}{σ:St}{a:Addr}{xs:List V}{x w1:Str}(s0:σ[0]? =some (some (.ref a)))(ha:H0 a=some (.tup xs))(hx:atI xs 0=some (.str x)):Tot H0 σ (iI (tOp rEq (tOp ii (cJ 0) (tC (.int 0))) (tC (.str w1)))) (x≠w1):=λH g Q q=>by
 have a1:=g _ _ ha
 walk_at "r2"
 exact q _ H (λe=>by simpa using e) (Same.refl _)
theorem yQ{H0:Hp}{σ:St}{a p:Addr}{xs ys:List V}{j:Int}{x w1:Str}(s0:σ[0]? =some (some (.ref a)))(ha:H0 a=some (.tup xs))(hj:atI xs j=some (.ref p))(hp:H0 p=some (.tup ys))(hx:atI ys 0=some (.str x)):
 Tot H0 σ (iI (tOp rEq (tOp ii (tOp ii (cJ 0) (tC (.int j))) (tC (.int 0))) (tC (.str w1)))) (x≠w1):=λH g Q q=>by
 have a1:=g _ _ ha
 have p1:=g _ _ hp
 walk_at "r2"
 exact q _ H (λe=>by simpa using e) (Same.refl _)
theorem rY{H0:Hp}{σ:St}{m:Int}{k:Int}(hk:0<k)(s1:σ[1]? =some (some (.int m))):Tot H0 σ (iI (tOp rEq (tOp (rI (λx j=>0<j) λi j=>V.int (i%j)) (cJ 1) (tC (.int k))) (tC (.int 1)))) True:=λH g Q q=>by
 walk_at "r2"
 exact q _ H (λ_=>trivial) (Same.refl _)
section
variable{P:Program}{w:World}{K:PySem.W.Frag}{mg:Str->Option Value}{base:Heap}
def BN(K:PySem.W.Frag)(n:Nat):Sp:=λvs H Q _=>∃(v:V) (t:Tr) (m:Int),vs= [v,.int m]/\Rp K H v t.toD/\t.depth<n/\t.gd/\t.size<=100/\∀(w:Str) H',Wd t.lv t (13*t.size) w->Same H H'->Q (.str w) H'
theorem vo(D:DefAt K mg "_law_worded" gN ["tree","more"])(hlen:mg "len" =none)(hstr:mg "str" =none):∀n:Nat,OkD P w K mg base (n+1) "_law_worded" ["tree","more"] (BN K n):=by
 intro n
 induction n with
 | zero=>exact D.never _ λvs H Q E h=>by obtain⟨_,_,_,_,_,h1,_⟩:=h;lia
 | succ n G__law_worded=>
  refine D.ok sc__law_worded (λvs H Q E h=>?_) (λf cdv A outer s H vs Q E hr h=>?_)
  ·obtain⟨_,_,_,rfl,_⟩:=h;rfl
  obtain⟨v,t,m,rfl,rp,dp,gd,sz,q⟩:=h
  refine⟨_,(af (aB (aj aJ (aN aQ rfl hlen PySem.boot_len (aa (pv 0) ad)) ae (ap _))
 (ah (ax (ao av (pv 0) ae (λ_ _=>rfl))))
 ay)
 (af (aB (aj aJ (aN aQ rfl hlen PySem.boot_len (aa (pv 0) ad)) ae (ap _))
 (ah (ax (dL uG rfl hstr (by decide +kernel) (aa (ao av (pv 0) ae (λ_ _=>rfl)) ad))))
 ay)
 (af (ai (i:=2) sc__law_worded.nd rfl (Or.inl rfl) (aA G__law_worded hr rfl (aa (ao av (pv 0) ae (λ_ _=>rfl)) (aa (ag bG (pv 1) ae) ad))))
 (af (ai (i:=3) sc__law_worded.nd rfl (Or.inl rfl) (aA G__law_worded hr rfl (aa (ao av (pv 0) ae (λ_ _=>rfl)) (aa (ag bG (pv 1) ae) ad))))
 (af (cL (aB (PW.pt (iG (PW.pt (dJ (aj aJ (ao av (pv 0) ae (λ_ _=>rfl)) ac (ap _)) (cY (aj dR (ao av (ao av (pv 0) ae (λ_ _=>rfl)) ae (λ_ _=>rfl)) (ak (aa ac (aa ac ad))) (by with_unfolding_all rfl))))) (hW (aj aJ (ag aI (pv 1) ae) ae (ap _)))))
 (ah (ai (i:=2) sc__law_worded.nd rfl (Or.inl rfl) (ag aq (ag aq ac (pv 2)) ac)))
 ay))
 (af (cL (aB (PW.pt (iG (aj dR (ao av (ao av (pv 0) ae (λ_ _=>rfl)) ae (λ_ _=>rfl)) (ak (aa ac (aa ac ad))) (by with_unfolding_all rfl)) (iG (PW.pt (dJ (aj aJ (ao av (pv 0) ae (λ_ _=>rfl)) ac (ap _)) (cY (aj aJ (ao av (ao av (pv 0) ae (λ_ _=>rfl)) ae (λ_ _=>rfl)) ac (ap _))))) (hW (aj aJ (ag aI (pv 1) ae) ae (ap _))))))
 (ah (ai (i:=3) sc__law_worded.nd rfl (Or.inl rfl) (ag aq (ag aq ac (pv 3)) ac)))
 ay))
 (ah (ax (ag aq (ag aq (pv 2) (ao av (pv 0) ae (λ_ _=>rfl))) (pv 3)))))))))),?_⟩
  have big:100000<=sizeLine:=by unfold sizeLine;decide
  cases t with
  | name x=>
   obtain⟨a,x1,x2,rfl,ha,h1,h2⟩:=Rp.tup2 rp
   cases h1.str_inv
   cases h2.str_inv
   obtain⟨l1,l2,l3,l4⟩:=mr gd
   walk_at "r2"
   rw [if_neg (by decide)]
   walk_at "r2"
   rw [if_pos (by decide)]
   walk_at "r2"
   exact q x H (kK l2 l1 (by show x.length<=13*1;lia)) (Same.refl _)
  | num k=>
   obtain⟨a,x1,x2,rfl,ha,h1,h2⟩:=Rp.tup2 rp
   cases h1.str_inv
   cases h2.int_inv
   obtain⟨k0,k1⟩:=gd
   walk_at "r2"
   rw [if_neg (by decide)]
   walk_at "r2"
   rw [if_pos (by decide)]
   walk_at "r2"
   refine⟨jC k0 k1,q _ H ?_ (Same.refl _)⟩
   obtain⟨kk,rfl⟩:=eq_ofNat_of_zero_le k0
   have hk:kk<10^6:=by lia
   refine kK (λe=>?_) (lF hk) (by have:=(cZ hk).2;show _<=13*1;lia)
   have:=(rO _ _ (lF hk)).2 40 (by rw [e];decide +kernel)
   revert this;decide +kernel
  | now=>
   obtain⟨a,x1,rfl,ha,h1⟩:=Rp.tup1 rp
   cases h1.str_inv
   walk_at "r2"
   rw [if_pos (by decide)]
   walk_at "r2"
   exact q _ H (kK (by decide +kernel) (by unfold bc;rw [if_pos rfl]) (by decide +kernel)) (Same.refl _)
  | own=>
   obtain⟨a,x1,rfl,ha,h1⟩:=Rp.tup1 rp
   cases h1.str_inv
   walk_at "r2"
   rw [if_pos (by decide)]
   walk_at "r2"
   exact q _ H (kK (by decide +kernel) (by unfold bc;rw [if_neg (by decide +kernel),if_pos rfl]) (by decide +kernel)) (Same.refl _)
  | bin o l r=>
   obtain⟨a,x1,x2,x3,rfl,ha,h1,h2,h3⟩:=Rp.tup3 rp
   cases h1.str_inv
   have sz':l.size+r.size+1<=100:=sz
   have dp':max l.depth r.depth+1<n+1:=dp
   walk_at "r2"
   rw [if_neg (by decide)]
   walk_at "r2"
   rw [if_neg (by decide)]
   walk_at "r2"
   refine⟨_,l,m/2,rfl,h2,by lia,gd.1,by lia,λwl H1 W1 g1=>?_⟩
   have ha1:=g1 _ _ ha
   clear ha
   walk_at "r2"
   refine⟨_,r,m/3,rfl,h3.mono g1,by lia,gd.2,by lia,λwr H2 W2 g2=>?_⟩
   have ha2:=g2 _ _ ha1
   have g12:=g1.trans g2
   have rl:=h2.mono g12
   have rr:=h3.mono g12
   clear h2 h3 ha1 g1 g2 rp
   obtain⟨pl,xsl,rfl,hl⟩:=xL rl
   obtain⟨pr,xsr,rfl,hr'⟩:=xL rr
   have lo:o.sg.length=1:=by cases o<;>decide +kernel
   have ll:=tN l
   have lr:=tN r
   clear rl rr gd dp sz
   have a0:atI [V.str o.sg,V.ref pl,V.ref pr] 0=some (.str o.sg):=lR
   have a1:atI [V.str o.sg,V.ref pl,V.ref pr] 1=some (.ref pl):=xr
   have a2:atI [V.str o.sg,V.ref pl,V.ref pr] 2=some (.ref pr):=xt
   have w1l:=W1.len
   have w2l:=W2.len
   have nsum:∀{t:Tr},inV (.str t.hd) [.str (Str.ofString "+"),.str (Str.ofString "-")]=false->t.lv≠2:=λh z=>by rw [in_sum.mpr z] at h;cases h
   refine my (σ:=[some (.ref a),some (.int m),some (.str wl),some (.str wr)]) (λσ' H'=>∃L:Str,Wd o.ll l (13*l.size+2) L/\Same H2 H'/\σ'= [some (.ref a),some (.int m),some (.str L),some (.str wr)]) (λD' eD=>vm (qr (rW (rX rfl ha2 a0) (vn rfl ha2 a1 hl lR)) (rY (by decide) rfl)) (λH' g=>?_) λpf H' g=>?_) ?_
   ·clear ha2 hl hr'
    have e1:=vi
    have e2:=vj
    walk_at "r2"
    refine⟨by lia,?_⟩
    walk_at "r2"
    rw [bC,e1]
    refine⟨by lia,?_⟩
    rw [eD]
    exact⟨_,W1.brk ll,g,rfl⟩
   ·rw [kD,eD]
    refine⟨wl,W1.up ?_ (by cases o<;>decide) (by lia),g,rfl⟩
    rcases pf.1 with h | h
    ·have:o.ll=2:=by cases o<;>first | rfl | exact absurd rfl h
     lia
    ·have:=nsum h
     have:1<=o.ll:=by cases o<;>decide
     lia
   ·rintro σ' H3 ⟨L,WL,g3,rfl⟩
    have ha3:=g3 _ _ ha2
    have hr3:=g3 _ _ hr'
    clear ha2 hl hr'
    refine my (λσ' H'=>∃R:Str,Wd o.rl r (13*r.size+2) R/\Same H3 H'/\σ'= [some (.ref a),some (.int m),some (.str L),some (.str R)]) (λD' eD=>vm (qr (vn rfl ha3 a2 hr3 lR) (qr (rW (rX rfl ha3 a0) (yQ rfl ha3 a2 hr3 lR)) (rY (by decide) rfl))) (λH' g=>?_) λpf H' g=>?_) ?_
    ·clear ha3 hr3
     have e1:=vi
     have e2:=vj
     walk_at "r2"
     refine⟨by lia,?_⟩
     walk_at "r2"
     rw [bC,e1]
     refine⟨by lia,?_⟩
     rw [eD]
     exact⟨_,W2.brk lr,g,rfl⟩
    ·rw [kD,eD]
     refine⟨wr,W2.up ?_ (by cases o<;>decide) (by lia),g,rfl⟩
     have n2:=nsum pf.1
     rcases pf.2.1 with h | h
     ·have:o.rl=1:=by cases o<;>first | rfl | exact absurd rfl h
      lia
     ·have n1:r.lv≠1:=λz=>h (hd_mul.mpr z)
      lia
    ·rintro σ' H4 ⟨R,WR,g4,rfl⟩
     have ha4:=g4 _ _ ha3
     have b1:=WL.len
     have b2:=WR.len
     clear ha3 hr3
     walk_at "r2"
     refine⟨by lia,?_⟩
     walk_at "r2"
     rw [bC,lo]
     refine⟨by lia,q _ H4 ?_ (g12.trans (g3.trans g4))⟩
     have:=WL.bin WR
     have e:(Tr.bin o l r).lv=o.lv:=by cases o<;>rfl
     rw [e]
     exact this.up (le_refl _) (by cases o<;>decide) (by show _<=13*(l.size+r.size+1);lia)
theorem vq{c d:Nat}{s:Str}(h:s.cps= #[d]):(⟨#[c]⟩:Str)=s↔c=d:=by
 constructor
 ·intro e
  have e': #[c]=s.cps:=congrArg Str.cps e
  rw [h] at e'
  simpa using e'
 ·rintro rfl
  cases s with | mk a=>rw [show a= #[c] from h]
def BO:Sp:=λvs H Q _=>∃x:Str,vs= [.str x]/\Q (.int (jw x)) H
theorem Dm(D:DefAt K mg "_law_deepest" fU ["word"])(hint:mg "int" =none)(hmax:mg "max" =none):OkD P w K mg base 1 "_law_deepest" ["word"] BO:=by
 refine D.ok sc__law_deepest (λvs H Q E h=>?_) (λf cdv A outer s H vs Q E hr h=>?_)
 ·obtain⟨x,rfl,_⟩:=h;rfl
 obtain⟨x,rfl,q⟩:=h
 refine⟨_,(af (ai (i:=1) sc__law_deepest.nd rfl (Or.inl rfl) ae)
 (af (ai (i:=2) sc__law_deepest.nd rfl (Or.inl rfl) ae)
 (af (hZ PassesOwn.never rfl (lT (pv 0)) (aw (i:=3) sc__law_deepest.nd rfl (Or.inl rfl))
 (af (ai (i:=1) sc__law_deepest.nd rfl (Or.inl rfl) (ag gE (ag aM (pv 1) (dL j3 rfl hint (by decide +kernel) (aa (bZ aJ (pv 3) ac (ap _)) ad))) (dL j3 rfl hint (by decide +kernel) (aa (bZ aJ (pv 3) ac (ap _)) ad))))
 (ah (ai (i:=2) sc__law_deepest.nd rfl (Or.inl rfl) (aN (uk rfl) rfl hmax (by decide +kernel) (aa (pv 2) (aa (pv 1) ad)))))))
 (ah (ax (pv 2)))))),?_⟩
 walk_at "r2"
 refine pz x (λR h=>?_) (λl σ H'=>H'=H/\∃v3,σ= [some (.str x),some (.int (l.foldl dz (0,0)).1),some (.int (l.foldl dz (0,0)).2),v3]) ⟨rfl,_,rfl⟩ ?_ ?_
 ·walk_at "r2"
 ·rintro l ch r σ H1 _ ⟨rfl,v3,rfl⟩
  rw [foldl_append]
  generalize l.foldl dz (0,0)=s
  have e1:(⟨#[ch]⟩:Str)=Str.ofString "("↔ch=40:=vq (by decide +kernel)
  have e2:(⟨#[ch]⟩:Str)=Str.ofString ")"↔ch=41:=vq (by decide +kernel)
  have ed:[ch].foldl dz s=dz s ch:=rfl
  rw [ed]
  unfold dz
  simp only [e1,e2]
  walk_at "r2"
  have e3:((s.fst+if ch=40 then 1 else 0)-if ch=41 then 1 else 0)=if ch=40 then s.fst+1 else if ch=41 then s.fst-1 else s.fst:=by
   by_cases h1:ch=40
   ·rw [if_pos h1,if_neg (by lia),if_pos h1];lia
   ·by_cases h2:ch=41
    ·rw [if_neg h1,if_pos h2,if_neg h1,if_pos h2];lia
    ·rw [if_neg h1,if_neg h2,if_neg h1,if_neg h2];lia
  rw [e3]
  generalize (if ch=40 then s.fst+1 else if ch=41 then s.fst-1 else s.fst)=e
  exact⟨rfl,_,by rw [show(if e>s.snd then e else s.snd)=max s.snd e by split<;>lia]⟩
 ·rintro σ H1 ⟨rfl,v3,rfl⟩
  walk_at "r2"
  exact q
def ExI(H0:Hp)(c k:Int)(r:V)(i:Nat)(σ:St)(H:Hp):Prop:=∃v3 v4,Same H0 H/\σ= [some (.int c),some (.int k),some r,v3,v4]
def wR(K:PySem.W.Frag):Sp:=λvs H Q _=>∃c k:Int,vs= [.int c,.int k]/\0<=k/\k<=100/\∀(p:Addr) (H':Hp) (x:Str) (tv:V) (t:Tr),H p=none->Same H H'->H' p=some (.lst [.str x,tv])->Ew x t->Rp K (kp em H H') tv t.toD->DG 5 t.toD->Q (.ref p) H'
def mm1:Tr:=.bin .sub (.bin .mul (.name "m") (.name "m")) (.num 1)
theorem Dn:Ew "m*m-1" mm1:=by
 have m:Wd 0 (.name "m") 1 "m":=⟨⟨["m"],0,.leaf (by decide +kernel) (mr (by decide +kernel)).1,by decide +kernel⟩,by decide +kernel⟩
 have n:Wd 0 (.num 1) 1 "1":=⟨⟨["1"],0,.leaf (by decide +kernel) (lF (k:=1) (by decide)),by decide +kernel⟩,by decide +kernel⟩
 have w:=Wd.bin (o:=.sub) ((Wd.bin (o:=.mul) (m.up (zero_le _) (by decide) (le_refl _)) m).up (by decide) (by decide) (le_refl _)) (n.up (zero_le _) (by decide) (le_refl _))
 have e:(Str.ofString "m"++Op.mul.sg++Str.ofString "m"++Op.sub.sg++Str.ofString "1")=Str.ofString "m*m-1":=by decide +kernel
 rw [e] at w
 exact xO w (by decide) (by decide +kernel) (by decide +kernel)
theorem Do(D:DefAt K mg "_law_expr" jb ["cell","k"])(hlen:mg "len" =none)(G__law_stir:OkD P w K mg base 1 "_law_stir" ["cell","k"] dC)(G__law_tree:OkD P w K mg base 6 "_law_tree" ["cell","k","deep"] (vk K 4))(G__law_worded:OkD P w K mg base 5 "_law_worded" ["tree","more"] (BN K 4))(G__law_deepest:OkD P w K mg base 1 "_law_deepest" ["word"] BO):OkD P w K mg base 7 "_law_expr" ["cell","k"] (wR K):=by
 refine D.ok sc__law_expr (λvs H Q E h=>?_) (λf cdv A outer s H vs Q E hr h=>?_)
 ·obtain⟨_,_,rfl,_⟩:=h;rfl
 obtain⟨c,k,rfl,k0,k1,q⟩:=h
 refine⟨_,(af (ai (i:=2) sc__law_expr.nd rfl (Or.inl rfl) (aA G__law_tree hr rfl (aa (pv 0) (aa (pv 1) (aa (ag aI (aA G__law_stir hr rfl (aa (pv 0) (aa (ag aM (pv 1) ae) ad))) ae) ad)))))
 (af (hZ PassesOwn.never rfl (fk (ak (aa (aA G__law_stir hr rfl (aa (pv 0) (aa (ag aM (pv 1) ae) ad))) (aa ae ad)))) (aw (i:=3) sc__law_expr.nd rfl (Or.inl rfl))
 (af (ai (i:=4) sc__law_expr.nd rfl (Or.inl rfl) (aA G__law_worded hr rfl (aa (pv 2) (aa (pv 3) ad))))
 (ah (aB (PW.pt (dJ (aj eJ (aN dQ rfl hlen PySem.boot_len (aa (pv 4) ad)) ae (ap _)) (cY (aj gR (aA G__law_deepest hr rfl (aa (pv 4) ad)) ae (ap _)))))
 (ah (ax (ak (aa (pv 4) (aa (pv 2) ad)))))
 ay))))
 (ah (ax (ak (aa ac (aa (az (aa ac (aa (az (aa ac (aa (az (aa ac (aa ac ad))) (aa (az (aa ac (aa ac ad))) ad)))) (aa (az (aa ac (aa ae ad))) ad)))) ad))))))),?_⟩
 have big:100000<=sizeLine:=by unfold sizeLine;decide
 have b4:(100:Int)<=B 4:=by decide
 walk_at "r2"
 refine⟨_,_,rfl,by lia,by lia,λm e0 m0 m1=>?_⟩
 clear e0
 walk_at "r2"
 refine⟨c,k,m%4,rfl,k0,by lia,by lia,by lia,λr H1 t g1 rt gd dp sz=>?_⟩
 walk_at "r2"
 refine jm ?_
 simp only [gQ]
 walk_at "r2"
 refine⟨_,_,rfl,by lia,by lia,λm' e0 m0' m1'=>?_⟩
 clear e0
 walk_at "r2"
 intro lp H2 hlp g2 h2
 have g12:=g1.trans g2
 refine⟨_,rfl,⟨_,SqL.of h2⟩,oP (xs:=[V.int m',V.int 0]) (ExI H2 c k r) ⟨_,_,Same.refl _,rfl⟩ (λi σ H3 _ z=>?_) (λi x σ H3 hx z=>?_) λσ H3 z=>?_⟩
 ·obtain⟨_,_,z,_⟩:=z
  exact SqL.of (z _ _ h2)
 ·obtain⟨v3,v4,g3,rfl⟩:=z
  obtain⟨mm,rfl⟩:∃mm:Int,x= .int mm:=by
   rcases i with _ | _ | i
   ·cases hx;exact⟨_,rfl⟩
   ·cases hx;exact⟨_,rfl⟩
   ·simp at hx
  have r3:=(rt.mono tQ).mono (g2.trans g3)
  walk_at "r2"
  refine⟨_,t,mm,rfl,r3,dp,gd,by lia,λwd H4 lw g4=>?_⟩
  have lwl:=lw.len
  walk_at "r2"
  refine⟨by lia,?_⟩
  walk_at "r2"
  refine aY (λc1=>?_) λc1=>?_
  ·walk_at "r2"
   refine⟨_,rfl,?_⟩
   walk_at "r2"
   refine aY (λc2=>?_) λc2=>?_
   ·walk_at "r2"
    intro p5 H5 hp5 g5 h5
    exact q p5 H5 wd r t (g12.free (g3.free (g4.free hp5))) (g12.trans (g3.trans (g4.trans g5))) h5 (xO lw (tN t) (by lia) (by lia)) (rt.mono (eP (Same.refl _) (g2.trans (g3.trans (g4.trans g5))))) (dg_mono (xN gd) (by lia))
   ·exact⟨_,_,g3.trans g4,rfl⟩
  ·exact⟨_,_,g3.trans g4,rfl⟩
 ·obtain⟨v3,v4,g3,rfl⟩:=z
  walk_at "r2"
  intro p4 H4 hp4 g4 h4
  walk_at "r2"
  intro p5 H5 hp5 g5 h5
  walk_at "r2"
  intro p6 H6 hp6 g6 h6
  walk_at "r2"
  intro p7 H7 hp7 g7 h7
  walk_at "r2"
  intro p8 H8 hp8 g8 h8
  walk_at "r2"
  intro p9 H9 hp9 g9 h9
  have gg:=g12.trans g3
  have n4:=gg.free hp4
  have n5:=gg.free (g4.free hp5)
  have n6:=gg.free (g4.free (g5.free hp6))
  have n7:=gg.free (g4.free (g5.free (g6.free hp7)))
  have n8:=gg.free (g4.free (g5.free (g6.free (g7.free hp8))))
  refine q p9 H9 _ (.ref p8) mm1 (gg.free (g4.free (g5.free (g6.free (g7.free (g8.free hp9)))))) (gg.trans (g4.trans (g5.trans (g6.trans (g7.trans (g8.trans g9)))))) h9 Dn ?_ (dg_mono (xN (t:=mm1) ⟨⟨by show _∈nm12;decide +kernel,by show _∈nm12;decide +kernel⟩,by decide,by decide⟩) (by decide))
  exact .tup (aT n8 (g9 _ _ h8)) (.cons (.str _) (.cons (.tup (aT n6 (g9 _ _ (g8 _ _ (g7 _ _ h6)))) (.cons (.str _) (.cons (.tup (aT n4 (g9 _ _ (g8 _ _ (g7 _ _ (g6 _ _ (g5 _ _ h4)))))) (.cons (.str _) (.cons (.str _) .nil))) (.cons (.tup (aT n5 (g9 _ _ (g8 _ _ (g7 _ _ (g6 _ _ h5))))) (.cons (.str _) (.cons (.str _) .nil))) .nil)))) (.cons (.tup (aT n7 (g9 _ _ (g8 _ _ h7))) (.cons (.str _) (.cons (.int _) .nil))) .nil)))
end
theorem jV(l:List Str):(l.map V.str).all di=true:=by
 induction l with
 | nil=>rfl
 | cons x l ih=>rw [map_cons,List.all_cons,ih];rfl
theorem iB{x:Str}(l:List Str):inV (.str x) (l.map V.str)=decide (x∈l):=by
 induction l with
 | nil=>simp [eK]
 | cons y l ih=>
  rw [map_cons,bR,dj,ih]
  by_cases c:y=x
  ·simp [c]
  ·simp [c,Ne.symm c]
def noN:List Str:=["tool","store","row","hand","end","wait","take","give","put","get","let","draw","say","start","if","else","while","stop","now","own"]
theorem BP{tc:TT}{tb u:TS}{D':L2.Ends}{σ:St}{H:Hp}(b:Bool)(htc:∀Q:Bool->Hp->Prop,(∀H',Same H H'->Q b H')->tc σ H Q)(h1:b=true->∀H',Same H H'->tb D' σ H')(h2:b=false->∀H',Same H H'->u D' σ H'):mD tc tb u D' σ H:=htc _ λH' g=>by
 cases b
 ·exact h2 rfl H' g
 ·exact h1 rfl H' g
section
variable{P:Program}{w:World}{K:PySem.W.Frag}{mg:Str->Option Value}{base:Heap}
def xP:Sp:=λvs H Q _=>vs= []/\∀p H',Same H H'->H' p=some (.lst (noN.map V.str))->Q (.ref p) H'
theorem vt(D:DefAt K mg "_law_barred" gM []):OkD P w K mg base 1 "_law_barred" [] xP:=by
 refine D.ok sc__law_barred (λvs H Q E h=>?_) (λf cdv A outer s H vs Q E hr h=>?_)
 ·rw [h.1];rfl
 obtain⟨rfl,q⟩:=h
 refine⟨_,(af (ai (i:=0) sc__law_barred.nd rfl (Or.inl rfl) (ak (aa ac (aa ac (aa ac (aa ac (aa ac (aa ac (aa ac (aa ac (aa ac (aa ac (aa ac (aa ac (aa ac (aa ac ad))))))))))))))))
 (ah (ax (ag aV (pv 0) (ak (aa ac (aa ac (aa ac (aa ac (aa ac (aa ac ad))))))))))),?_⟩
 walk_at "r2"
 refine⟨by decide +kernel,?_⟩
 intro p H1 hp g1 h1
 walk_at "r2"
 intro p2 H2 hp2 g2 h2
 have h12:=g2 _ _ h1
 clear h1
 walk_at "r2"
 exact⟨by unfold sizeLine;decide,λp3 H3 hp3 g3 h3=>q p3 H3 (g1.trans (g2.trans g3)) h3⟩
def wH:Str:="abcdefghijklmnopqrstuvwxyz"
def ltr(i:Int):Str:=⟨#[97+i.toNat]⟩
theorem yR:∀i:Fin 26,(Str.ofString "abcdefghijklmnopqrstuvwxyz").cps.toList[i.val]? =some (97+i.val):=by decide +kernel
theorem qt{i:Int}(h0:0<=i)(h1:i<26):atI (Str.ofString "abcdefghijklmnopqrstuvwxyz").cps.toList i=some (97+i.toNat):=by
 have:=yR ⟨i.toNat,by lia⟩
 have e:=bU (xs:=(Str.ofString "abcdefghijklmnopqrstuvwxyz").cps.toList) (j:=i.toNat) this
 rw [Int.toNat_of_nonneg h0] at e
 exact e
theorem vw(a:Str)(lo hi:Option Int):(PySem.Txt.slice a lo hi).length<=a.length:=by
 unfold PySem.Txt.slice
 split
 ·exact le_refl _
 ·show(List.toArray _).size<=_
  rw [size_toArray]
  exact le_trans (List.length_filterMap_le ..) (PyProof.Rows.indices_len_le _ _ _)
def szF(hd k:Int):Nat:=(1+bY hd k%8).toNat
def stL(hd k:Int)(n:Nat):List Str:=(List.range n).map λj:Nat=>ltr (bY hd (k+1+(j:Int))%26)
theorem Dp(hd k:Int)(n:Nat)(h:n<=8):((stL hd k n).map (·.length)).sum+(stL hd k n).length<=1048576:=by
 have l:(stL hd k n).length=n:=by unfold stL;rw [length_map,length_range]
 have s:((stL hd k n).map (·.length)).sum=n:=by
  unfold stL
  rw [map_map]
  induction n with
  | zero=>rfl
  | succ n ih=>rw [range_succ,map_append,List.sum_append,ih (by lia) (by unfold stL;rw [length_map,length_range])];rfl
 lia
theorem vx(hd k:Int):szF hd k<=8:=by unfold szF;lia
def gC(hd k:Int):Str:=Txt.join (Str.ofString "") (stL hd k (szF hd k))
theorem vy(hd k:Int):(gC hd k).length<=8:=by
 unfold gC
 rw [PySem.W.KT.join_ones _ (λa h=>by unfold stL at h;obtain⟨j,_,rfl⟩:=List.mem_map.mp h;rfl)]
 unfold stL
 rw [length_map,length_range]
 exact vx hd k
def StP(hd k:Int)(i:Nat)(ys:List V)(σ1:St)(H':Hp):Prop:=ys=(stL hd k i).map V.str/\∃v0,σ1= [v0,some (.int hd),some (.int k),some (.str "abcdefghijklmnopqrstuvwxyz")]
def w0F(stem:Str)(sz:Nat)(m:Int):Str:=Txt.slice stem none (some (m%(sz:Int)))++ltr (m/8%26)++Txt.slice stem (some (m%(sz:Int)+1)) none
def w1F(stem:Str)(sz:Nat)(m:Int):Str:=if m/208%4=0 then Txt.slice stem none (some (m%(sz:Int)+1)) else w0F stem sz m
def zz9:List Str:=(List.range 9).map λn:Nat=>Str.ofString "zz"++ltr (n:Int)
def tR(l zs:List Str):List Str:=zs.filter λx=>!decide (x∈l)
def zzF(l:List Str):List Str:=zz9.filter λx=>!decide (x∈l)
def w2F(l:List Str)(x:Str)(m:Int):Str:=if x∈l\/x∈noN then (zzF l).getD (m/832%2).toNat x else x
theorem Dq:∀x,zz9.count x<=1:=List.nodup_iff_count.mp (by decide +kernel)
theorem BQ(x:Str)(l zs:List Str):zs.countP (λz=>decide (z∈x::l))<=zs.count x+zs.countP (λz=>decide (z∈l)):=by
 induction zs with
 | nil=>exact le_refl _
 | cons z zs ih=>
  rw [List.countP_cons,List.countP_cons,count_cons]
  by_cases c1:z=x
  ·simp [c1];simp at ih;lia
  ·by_cases c2:z∈l
   ·simp [c1,c2];simp at ih;lia
   ·simp [c1,c2];simp at ih;lia
theorem BR(l:List Str):zz9.countP (λz=>decide (z∈l))<=l.length:=by
 induction l with
 | nil=>simp
 | cons x l ih=>have:=BQ x l zz9;have:=Dq x;rw [length_cons];lia
theorem vz{l:List Str}(h:l.length<=7):2<=(zzF l).length:=by
 have a:=BR l
 have b:=List.length_eq_countP_add_countP (λz=>decide (z∈l)) (l:=zz9)
 have c:zz9.length=9:=by decide +kernel
 unfold zzF
 rw [<-List.countP_eq_length_filter]
 have d:zz9.countP (λx=>!decide (x∈l))=zz9.countP (λa=>decide ¬(decide (a∈l))=true):=by congr 1;funext a;simp
 rw [d]
 lia
def aP(hd k:Int):Nat->List Str
 | 0=>[]
 | j+1=>aP hd k j++[w2F (aP hd k j) (w1F (gC hd k) (szF hd k) (bY hd (k+9+(j:Int)))) (bY hd (k+9+(j:Int)))]
theorem dG(hd k:Int)(n:Nat):(aP hd k n).length=n:=by
 induction n with
 | zero=>rfl
 | succ n ih=>show(_++[_]).length=_;rw [length_append,ih];rfl
def NsI(nf:Nat->List Str)(H0:Hp)(fp:Addr)(σ0:St)(i:Nat)(σ:St)(H:Hp):Prop:=∃v7 v8 v9 v10,Same H0 H/\H fp=some (.lst ((nf i).map V.str))/\σ=σ0++[v7,v8,v9,v10]
def ZzP(i:Nat)(ys:List V)(σ1:St)(H':Hp):Prop:=ys=(zz9.take i).map V.str/\∃v0,σ1= [v0,some (.str "abcdefghijklmnopqrstuvwxyz")]
def ZfP(l:List Str)(fp:Addr)(i:Nat)(ys:List V)(σ1:St)(H':Hp):Prop:=ys=(tR l (zz9.take i)).map V.str/\∃v0,σ1= [v0,some (.ref fp)]
def wS(f:Int->Int->Nat->List Str):Sp:=λvs H Q _=>∃(hd k:Int) (n:Nat),vs= [.int hd,.int k,.int n]/\0<=k/\k<=900/\n<=8/\∀(p:Addr) (H':Hp),H p=none->Same H H'->H' p=some (.lst ((f hd k n).map V.str))->Q (.ref p) H'
theorem Dr(D:DefAt K mg "_law_names" iu ["head","k","many"])(hrange:mg "range" =none)(G__law_stir:OkD P w K mg base 1 "_law_stir" ["cell","k"] dC)(G__law_barred:OkD P w K mg base 1 "_law_barred" [] xP):OkD P w K mg base 2 "_law_names" ["head","k","many"] (wS aP):=by
 refine D.ok sc__law_names (λvs H Q E h=>?_) (λf cdv A outer s H vs Q E hr h=>?_)
 ·obtain⟨_,_,_,rfl,_⟩:=h;rfl
 obtain⟨hd,k,n,rfl,k0,k1,n8,q⟩:=h
 refine⟨_,(af (ai (i:=3) sc__law_names.nd rfl (Or.inr rfl) ac)
 (af (ai (i:=4) sc__law_names.nd rfl (Or.inl rfl) (ag aM ae (ag aI (aA G__law_stir hr rfl (aa (pv 0) (aa (pv 1) ad))) ae)))
 (af (ai (i:=5) sc__law_names.nd rfl (Or.inl rfl) (gY ac (eZ (bL 1 (N:=["j","head","k","letters"]) (cap:=[0,1,3]) rfl rfl rfl rfl (by decide +kernel) rfl rfl rfl) rfl (dP rfl hrange (aa (pv 4) ad)) (λ_ _ _ _=>(aw (i:=0) (show List.Nodup (α:=Str) ["j","head","k","letters"] by decide +kernel) rfl (Or.inl (lookup_relabel_local rfl)) (Or.inr (lookup_relabel_local rfl)))) (λ_ _ _ _=>dB) (λ_ _ _ _=>(ao jh (pv 3) (ag aI (aA G__law_stir hr rfl (aa (pv 1) (aa (ag aM (ag aM (pv 2) ae) (pv 0)) ad))) ae) (λ_ _=>rfl))))))
 (af (ai (i:=6) sc__law_names.nd rfl (Or.inr rfl) (ak ad))
 (af (hZ PassesOwn.never rfl (dP rfl hrange (aa (pv 2) ad)) (aw (i:=7) sc__law_names.nd rfl (Or.inl rfl))
 (af (ai (i:=8) sc__law_names.nd rfl (Or.inl rfl) (aA G__law_stir hr rfl (aa (pv 0) (aa (ag aM (ag aM (pv 1) ae) (pv 7)) ad))))
 (af (ai (i:=9) sc__law_names.nd rfl (Or.inl rfl) (ag aI (pv 8) (pv 4)))
 (af (ai (i:=10) sc__law_names.nd rfl (Or.inl rfl) (ag aq (ag aq (bg ka (pv 5) bz (bA (pv 9))) (ao jh (pv 3) (ag aI (ag bG (pv 8) ae) ae) (λ_ _=>rfl))) (bg ka (pv 5) (bA (ag aM (pv 9) ae)) bz)))
 (af (cL (aB (aj aJ (ag aI (ag bG (pv 8) ae) ae) ae (ap _))
 (ah (ai (i:=10) sc__law_names.nd rfl (Or.inl rfl) (bg ka (pv 5) bz (bA (ag aM (pv 9) ae)))))
 ay))
 (af (cL (aB (PW.pt (iG (aj dR (pv 10) (pv 6) (by with_unfolding_all rfl)) (hW (aj dR (pv 10) (yj G__law_barred hr rfl) (by with_unfolding_all rfl)))))
 (ah (ai (i:=10) sc__law_names.nd rfl (Or.inl rfl) (ao av (eZ (bL 1 (N:=["one","found"]) (cap:=[6]) rfl rfl rfl rfl (by decide +kernel) rfl rfl rfl) rfl (fk (eZ (bL 1 (N:=["n","letters"]) (cap:=[3]) rfl rfl rfl rfl (by decide +kernel) rfl rfl rfl) rfl (dP rfl hrange (aa ae ad)) (λ_ _ _ _=>(aw (i:=0) (show List.Nodup (α:=Str) ["n","letters"] by decide +kernel) rfl (Or.inl (lookup_relabel_local rfl)) (Or.inr (lookup_relabel_local rfl)))) (λ_ _ _ _=>dB) (λ_ _ _ _=>(ag aq ac (ao jh (pv 1) (pv 0) (λ_ _=>rfl)))))) (λ_ _ _ _=>(aw (i:=0) (show List.Nodup (α:=Str) ["one","found"] by decide +kernel) rfl (Or.inl (lookup_relabel_local rfl)) (Or.inr (lookup_relabel_local rfl)))) (λ_ _ _ _=>(mK (aj uw (pv 0) (pv 1) (by with_unfolding_all rfl)))) (λ_ _ _ _=>(pv 0))) (ag aI (ag bG (pv 8) ae) ae) (λ_ _=>rfl))))
 ay))
 (ah (aS (bp (pv 6) (pv 10))))))))))
 (ah (ax (pv 6)))))))),?_⟩
 have big:100000<=sizeLine:=by unfold sizeLine;decide
 walk_at "r2"
 refine⟨_,_,rfl,by lia,by lia,λm e0 m0 m1=>?_⟩
 obtain⟨sz,esz,hsz1,hsz8⟩:∃sz:Nat,1+m%8=(sz:Int)/\1<=sz/\sz<=8:=⟨(1+m%8).toNat,by lia,by lia,by lia⟩
 have eS:szF hd k=sz:=by unfold szF;rw [<-e0,esz];rfl
 clear e0
 walk_at "r2"
 refine cQ ?_
 simp only [iH]
 walk_at "r2"
 refine⟨by lia,by lia,gy (by lia) (StP hd k) (λH' _=>⟨rfl,_,rfl⟩) ?_ ?_⟩
 ·rintro D i ys σ1 H1 hi at1 ⟨rfl,v0,rfl⟩
  walk_at "r2"
  refine⟨_,_,rfl,by lia,by lia,λm e0 m0 m1=>?_⟩
  have hl:=qt (i:=m%26) (by lia) (by lia)
  have e1:ltr (bY hd (k+1+i)%26)=ltr (m%26):=by rw [<-e0]
  clear e0
  walk_at "r2"
  refine⟨by unfold sizeLine;decide +kernel,_,hl,?_⟩
  refine at1.put (Same.refl _) λH5 mu=>⟨?_,_,rfl⟩
  unfold stL
  rw [range_succ,map_append,map_append]
  show _=_++[V.str (ltr (bY hd (k+1+(i:Int))%26))]
  rw [e1]
  rfl
 ·rintro D ys σ1 H1 hD g1 hy hle ⟨rfl,_⟩
  walk_at "r2"
  refine⟨stL hd k sz,rfl,PyProof.Rows.joinOk_of_weight (Dp hd k sz hsz8) (by decide +kernel),?_⟩
  obtain⟨stem,est⟩:∃stem,gC hd k=stem:=⟨_,rfl⟩
  have e':Txt.join (Str.ofString "") (stL hd k sz)=stem:=by rw [<-est];unfold gC;rw [eS]
  rw [e']
  clear e'
  have ls:=vy hd k
  rw [est] at ls
  clear hy
  walk_at "r2"
  intro fp H2 hfp g2 h2
  have n2:=g1.free hfp
  have g12:=g1.trans g2
  walk_at "r2"
  refine jm ?_
  simp only [iH]
  walk_at "r2"
  refine⟨by lia,by lia,nv (NsI (aP hd k) H fp [some (V.int hd),some (V.int k),some (V.int n),some (V.str (Str.ofString "abcdefghijklmnopqrstuvwxyz")),some (V.int sz),some (V.str stem),some (V.ref fp)]) ⟨_,_,_,_,g12,h2,rfl⟩ ?_ ?_⟩
  ·intro i σ H3 hi z
   obtain⟨v7,v8,v9,v10,g3,h3,rfl⟩:=z
   simp only [cons_append,nil_append]
   clear h2
   walk_at "r2"
   refine⟨_,_,rfl,by lia,by lia,λm2 e2 m20 m21=>?_⟩
   clear m0 m1
   have e2':=e2.symm
   clear e2
   walk_at "r2"
   refine⟨by lia,?_⟩
   have hlt:=qt (i:=m2/8%26) (by lia) (by lia)
   have ls1:stem.length<=sizeLine:=by lia
   have ll1:(Str.ofString "abcdefghijklmnopqrstuvwxyz").length<=sizeLine:=by unfold sizeLine;decide +kernel
   walk_at "r2"
   have l1:=vw stem none (some (m2%(sz:Int)))
   have l2:=vw stem (some (m2%(sz:Int)+1)) none
   refine⟨by show _+1<=sizeLine;lia,?_⟩
   walk_at "r2"
   rw [bC]
   refine⟨by show _+1+_<=sizeLine;lia,?_⟩
   have enf:aP hd k (i+1)=aP hd k i++[w2F (aP hd k i) (w1F stem sz m2) m2]:=by
    show _++[_]=_
    rw [est,eS,show k+9+(i:Int)=k+9+(0+(i:Int)) by lia,e2']
   refine my (σ:=[some (V.int hd),some (V.int k),some (V.int n),some (V.str (Str.ofString "abcdefghijklmnopqrstuvwxyz")),some (V.int sz),some (V.str stem),some (V.ref fp),some (V.int (0+(i:Int))),some (V.int m2),some (V.int (m2%(sz:Int))),some (V.str (w0F stem sz m2))]) (λσ' H'=>H'=H3/\σ'= [some (V.int hd),some (V.int k),some (V.int n),some (V.str (Str.ofString "abcdefghijklmnopqrstuvwxyz")),some (V.int sz),some (V.str stem),some (V.ref fp),some (V.int (0+(i:Int))),some (V.int m2),some (V.int (m2%(sz:Int))),some (V.str (w1F stem sz m2))]) (λD' eD=>?_) ?_
   ·unfold w1F at eD
    generalize w0F stem sz m2=w0 at eD
    walk_at "r2"
    refine aY (λc=>?_) λc=>?_
    ·rw [if_pos c] at eD
     walk_at "r2"
    ·rw [if_neg c] at eD
     rw [kD,eD]
     exact⟨rfl,rfl⟩
   rintro σ' H4 ⟨rfl,rfl⟩
   generalize w1F stem sz m2=w1 at enf
   have ln:(aP hd k i).length<=7:=by rw [dG];lia
   generalize aP hd k i=l at enf h3 ln
   refine my (λσ' H'=>Same H4 H'/\σ'= [some (V.int hd),some (V.int k),some (V.int n),some (V.str (Str.ofString "abcdefghijklmnopqrstuvwxyz")),some (V.int sz),some (V.str stem),some (V.ref fp),some (V.int (0+(i:Int))),some (V.int m2),some (V.int (m2%(sz:Int))),some (V.str (w2F l w1 m2))]) (λD' eD=>?_) ?_
   ·refine BP (decide (w1∈l) || decide (w1∈noN)) (λQ q=>?_) (λc H5 g5=>?_) λc H5 g5=>?_
    ·walk_at "r2"
     refine⟨jV l,decide (w1∈l),congrArg V.bl (iB l),?_⟩
     by_cases c:w1∈l
     ·rw [decide_eq_true c] at q⊢
      exact q H4 (Same.refl _)
     ·rw [decide_eq_false c] at q⊢
      refine cK ?_
      walk_at "r2"
      refine⟨rfl,λpb H5 g5 h5=>?_⟩
      walk_at "r2"
      rw [Bool.false_or] at q
      exact⟨jV noN,_,by rw [if_neg (by decide),iB],q H5 g5⟩
    ·have c':w1∈l\/w1∈noN:=by simpa using c
     unfold w2F at eD
     rw [if_pos c'] at eD
     have h35:=g5 _ _ h3
     clear h3
     walk_at "r2"
     refine cQ ?_
     simp only [gQ]
     refine cQ ?_
     simp only [iH]
     walk_at "r2"
     refine gy (by decide) ZzP (λH' _=>⟨rfl,_,rfl⟩) ?_ ?_
     ·rintro D j ys σ1 H6 hj at1 ⟨rfl,v0,rfl⟩
      have hlj:=qt (i:=(j:Int)) (by lia) (by lia)
      walk_at "r2"
      refine⟨by unfold sizeLine;show(Str.ofString "zz").length+1<=_;decide +kernel,?_⟩
      refine at1.put (Same.refl _) λH7 mu=>⟨?_,_,rfl⟩
      have e9:zz9[j]? =some (Str.ofString "zz"++ltr (j:Int)):=by unfold zz9;rw [getElem?_map,getElem?_range hj];rfl
      rw [du e9,map_append]
      rfl
     ·rintro D ys σ1 H6 hD g6 hy hle ⟨rfl,_⟩
      have h36:=g6 _ _ h35
      clear h35
      refine⟨_,rfl,⟨_,SqL.of hy⟩,fC hy (by unfold sizeLine;decide +kernel) (ZfP l fp) (λH' _=>⟨rfl,_,rfl⟩) ?_ ?_⟩
      ·rintro D j v ys σ1 H7 hx at1 ⟨rfl,v0,rfl⟩
       rw [getElem?_map] at hx
       obtain⟨z,hz,rfl⟩:=Option.map_eq_some_iff.mp hx
       have h37:=at1.same _ _ h36
       clear h36 hy
       walk_at "r2"
       have hz':zz9[j]? =some z:=hz
       refine⟨jV l,!decide (z∈l),by rw [if_pos rfl,iB],?_⟩
       by_cases cz:z∈l
       ·rw [decide_eq_true cz]
        refine cK ?_
        refine at1.skip (Same.refl _) ⟨?_,_,rfl⟩
        unfold tR
        rw [du hz',filter_append,List.filter_cons_of_neg (by simpa using cz)];simp
       ·rw [decide_eq_false cz]
        refine cX ?_
        walk_at "r2"
        refine at1.put (Same.refl _) λH8 mu=>⟨?_,_,rfl⟩
        unfold tR
        rw [du hz',filter_append,map_append,List.filter_cons_of_pos (by simpa using cz)];rfl
      ·rintro D ys σ1 H7 hD7 g7 hy7 hle7 ⟨rfl,_⟩
       walk_at "r2"
       have zl:=vz ln
       have ez:tR l (List.take (List.map V.str (List.take 9 zz9)).length zz9)=zzF l:=rfl
       rw [ez]
       obtain⟨zv,hzv,_,hzn⟩:=eU (xs:=(zzF l).map V.str) (i:=m2/832%2) (by lia) (by rw [length_map];lia)
       rw [getElem?_map] at hzn
       obtain⟨z,hz,rfl⟩:=Option.map_eq_some_iff.mp hzn
       refine⟨_,hzv,?_⟩
       have eg:(zzF l).getD (m2/832%2).toNat w1=z:=by rw [getD_eq_getElem?_getD,hz];rfl
       rw [eg] at eD
       rw [eD]
       exact⟨g5.trans (g6.trans g7),rfl⟩
    ·have c':¬(w1∈l\/w1∈noN):=by simpa using c
     rw [kD,eD]
     unfold w2F
     rw [if_neg c']
     exact⟨g5,rfl⟩
   rintro σ' H5 ⟨g5,rfl⟩
   have h5:=g5 _ _ h3
   clear h3
   walk_at "r2"
   refine⟨by rw [length_map];lia,λH6 mu=>?_⟩
   refine⟨_,_,_,_,mu.same (g3.trans g5) n2,?_,rfl⟩
   show H6 fp=some (.lst ((aP hd k (i+1)).map V.str))
   rw [enf,map_append]
   exact mu.at_
  ·intro σ H3 z
   obtain⟨v7,v8,v9,v10,g3,h3,rfl⟩:=z
   simp only [cons_append,nil_append]
   clear h2
   walk_at "r2"
   exact q fp H3 n2 g3 h3
end
structure Nok(x:Str):Prop where
 ok:PyData.strOk x=true
 len:x.length<=20
 nm:aW x=true
def LtC(x:Str):Prop:=∀c∈x.cps.toList,97<=c/\c<=122
theorem mz{a b:Str}(ha:LtC a)(hb:LtC b):LtC (a++b):=λc hc=>by
 rw [aG] at hc
 rcases List.mem_append.mp hc with h | h
 ·exact ha c h
 ·exact hb c h
theorem vA{i:Int}(h:i<26):LtC (ltr i):=λc hc=>by
 have:c∈[97+i.toNat]:=hc
 rw [List.mem_singleton.mp this]
 lia
theorem yS{s:Str}(hs:LtC s){l:List Str}(h:∀x∈l,LtC x):LtC (Str.join s l):=by
 induction l with
 | nil=>intro c hc;have:c∈([]:List Nat):=hc;cases this
 | cons x l ih=>
  have hx:=h x (mem_cons_self ..)
  cases l with
  | nil=>exact hx
  | cons y l=>exact mz (mz hx hs) (ih λz hz=>h z (mem_cons_of_mem _ hz))
theorem yT(hd k:Int):LtC (gC hd k):=by
 unfold gC
 show LtC (Builtin.Str.glued (PySem.Str.ofString "") _)
 rw [StrLaws.glued_eq_join]
 have al:∀x∈stL hd k (szF hd k),LtC x:=λx h=>by
  unfold stL at h
  obtain⟨j,_,rfl⟩:=List.mem_map.mp h
  exact vA (by lia)
 have e0:LtC (Str.ofString ""):=λc hc=>by
  have:(Str.ofString "").cps.toList= []:=by decide +kernel
  rw [this] at hc;cases hc
 exact yS e0 al
theorem yU(hd k:Int):(gC hd k).length=szF hd k:=by
 unfold gC
 rw [PySem.W.KT.join_ones _ (λa h=>by unfold stL at h;obtain⟨j,_,rfl⟩:=List.mem_map.mp h;rfl)]
 unfold stL
 rw [length_map,length_range]
theorem BS(hd k:Int):1<=szF hd k:=by unfold szF;have:=qq hd k;lia
theorem oI{x:Str}{j:Int}(h:0<=j)(h1:j<=x.length):(PySem.Txt.slice x none (some j)).length=j.toNat/\∀c∈(PySem.Txt.slice x none (some j)).cps.toList,c∈x.cps.toList:=by
 have e:PySem.Txt.slice x none (some j)=⟨((x.cps.toList.drop 0).take (j-0).toNat).toArray⟩:=PySem.StrLaws.sliceText_to ⟨h,by rw [bW];exact h1⟩
 rw [e]
 refine⟨?_,λc hc=>?_⟩
 ·show(List.toArray _).size=_
  rw [size_toArray,length_take,drop_zero,bW];lia
 ·have hc:c∈(x.cps.toList.drop 0).take (j-0).toNat:=by simpa using hc
  have:=mem_of_mem_take hc
  simpa using this
theorem mV{x:Str}{j:Int}(h:0<=j)(h1:j<=x.length):(PySem.Txt.slice x (some j) none).length=x.length-j.toNat/\∀c∈(PySem.Txt.slice x (some j) none).cps.toList,c∈x.cps.toList:=by
 have e:=PySem.StrLaws.sliceText_from (x:=x) (i:=j) ⟨h,by rw [bW];exact h1⟩
 have e:PySem.Txt.slice x (some j) none=_:=e
 rw [e]
 refine⟨?_,λc hc=>?_⟩
 ·show(List.toArray _).size=_
  rw [size_toArray,length_take,length_drop,bW];lia
 ·have hc:=List.mem_toArray.mp (Array.mem_toList_iff.mp hc)
  exact List.mem_of_mem_drop (mem_of_mem_take hc)
theorem Du{stem:Str}{sz:Nat}{m:Int}(h:LtC stem)(hl:stem.length=sz)(h1:1<=sz)(h8:sz<=8):LtC (w1F stem sz m)/\1<=(w1F stem sz m).length/\(w1F stem sz m).length<=8:=by
 have a0:=emod_nonneg m (show(sz:Int)≠0 by lia)
 have a1:=emod_lt_of_pos m (show(0:Int)<sz by lia)
 unfold w1F
 split
 ·obtain⟨b1,b2⟩:=oI (x:=stem) (j:=m%(sz:Int)+1) (by lia) (by lia)
  exact⟨λc hc=>h c (b2 c hc),by lia,by lia⟩
 ·obtain⟨b1,b2⟩:=oI (x:=stem) (j:=m%(sz:Int)) (by lia) (by lia)
  obtain⟨c1,c2⟩:=mV (x:=stem) (j:=m%(sz:Int)+1) (by lia) (by lia)
  unfold w0F
  refine⟨mz (mz (λc hc=>h c (b2 c hc)) (vA (by lia))) (λc hc=>h c (c2 c hc)),?_,?_⟩
  ·rw [bC,bC,b1,c1];show 1<=_+1+_;lia
  ·rw [bC,bC,b1,c1];show _+1+_<=8;lia
theorem BU:K07.noN=noN.map V.str:=rfl
theorem BV{x:Str}(h:LtC x)(h1:1<=x.length)(h8:x.length<=8)(hn:x∉noN):Nok x:=by
 refine⟨?_,by lia,?_⟩
 ·unfold PyData.strOk
  rw [<-Array.all_toList,all_eq_true]
  intro c hc
  have:=h c hc
  exact decide_eq_true (by lia)
 ·unfold aW
  rw [BU,iB,decide_eq_false hn,decide_eq_true h1,decide_eq_true h8]
  refine Bool.and_eq_true_iff.mpr ⟨rfl,List.all_eq_true.mpr λc hc=>?_⟩
  have q:=h c hc
  rw [ju,decide_eq_true_eq]
  show c∈(Str.ofString "abcdefghijklmnopqrstuvwxyz").cps.toList
  rw [K07.wH,mem_range'_1]
  lia
theorem tS:∀x∈zz9,PyData.strOk x=true/\x.length<=20/\aW x=true:=by decide +kernel
theorem Dv{l:List Str}{x:Str}{m:Int}(ln:l.length<=7)(h:LtC x)(h1:1<=x.length)(h8:x.length<=8):Nok (w2F l x m)/\w2F l x m∉l:=by
 unfold w2F
 split
 ·have zl:=vz ln
  have hi:(m/832%2).toNat<(zzF l).length:=by lia
  have e:(zzF l).getD (m/832%2).toNat x=(zzF l)[(m/832%2).toNat]'hi:=by rw [getD_eq_getElem?_getD,getElem?_eq_getElem hi];rfl
  rw [e]
  have mm:=getElem_mem hi
  obtain⟨a,b⟩:=List.mem_filter.mp mm
  exact⟨⟨(tS _ a).1,(tS _ a).2.1,(tS _ a).2.2⟩,by simpa using b⟩
 ·rename_i c
  exact⟨BV h h1 h8 λz=>c (.inr z),λz=>c (.inl z)⟩
theorem iC(hd k:Int)(n:Nat)(h:n<=8):(∀x∈aP hd k n,Nok x)/\(aP hd k n).Nodup:=by
 induction n with
 | zero=>exact⟨λx h=>absurd h not_mem_nil,List.nodup_nil⟩
 | succ n ih=>
  obtain⟨a,b⟩:=ih (by lia)
  obtain⟨l1,l2,l3⟩:=Du (stem:=gC hd k) (sz:=szF hd k) (m:=bY hd (k+9+(n:Int))) (yT hd k) (yU hd k) (BS hd k) (vx hd k)
  obtain⟨c,d⟩:=Dv (l:=aP hd k n) (m:=bY hd (k+9+(n:Int))) (by rw [dG];lia) l1 l2 l3
  refine⟨λx hx=>?_,?_⟩
  ·rcases List.mem_append.mp hx with hx | hx
   ·exact a x hx
   ·rw [List.mem_singleton.mp hx];exact c
  ·show(_++[_]).Nodup
   rw [List.nodup_append]
   exact⟨b,by simp,λx hx y hy=>by rw [List.mem_singleton.mp hy];exact λz=>d (z▸hx)⟩
def kM(t:Str):Prop:=t.length<=2000/\10∉t.cps.toList
theorem BW{ws:List Str}(h:∀y∈ws,Wb y)(l:ws.length<=30):kM (aR ws):=by
 unfold kM aR
 rw [<-bW,bJ]
 refine⟨?_,xM 32 (by decide) _ λx hx z=>?_⟩
 ·have:=tP 32 (n:=60) (ws.map λt=>t.cps.toList) λx hx=>by obtain⟨t,ht,rfl⟩:=List.mem_map.mp hx;rw [bW];exact(h t ht).2
  rw [length_map] at this
  lia
 ·obtain⟨t,ht,rfl⟩:=List.mem_map.mp hx
  exact((h t ht).1 10 z).2 rfl
theorem dc{a b:Str}(h:a.cps.toList=b.cps.toList):a=b:=PySem.Str.ext' (Array.toList_inj.mp h)
theorem mB:(Str.ofString " ").cps.toList= [32]:=by decide +kernel
theorem lH(l:List Str):Txt.join (Str.ofString " ") l=aR l:=by
 show Builtin.Str.glued (Str.ofString " ") l=_
 rw [StrLaws.glued_eq_join]
 unfold aR
 rw [show Str.ofString " " =⟨#[32]⟩ by decide +kernel]
theorem Dw{p x a:Str}(h:p.cps.toList=x.cps.toList++[32]):p++a=aR [x,a]:=dc (by unfold aR;rw [aG,bJ,h];simp [jn])
theorem tT{p x a b:Str}(h:p.cps.toList=x.cps.toList++[32]):p++a++Str.ofString " "++b=aR [x,a,b]:=dc (by unfold aR;rw [aG,aG,aG,bJ,h,mB];simp [jn])
theorem BX{x a b:Str}:x++Str.ofString " "++a++Str.ofString " "++b=aR [x,a,b]:=dc (by unfold aR;rw [aG,aG,aG,aG,bJ,mB];simp [jn])
theorem tU{p x a b c:Str}(h:p.cps.toList=x.cps.toList++[32]):p++a++Str.ofString " "++b++Str.ofString " "++c=aR [x,a,b,c]:=dc (by unfold aR;rw [aG,aG,aG,aG,aG,bJ,h,mB];simp [jn])
theorem gH{x:Str}{t:Tr}(h:Ew x t):aF "expression" x=some t.toD:=by unfold aF;rw [if_pos rfl,h.ex];rfl
theorem eG{x:Str}{r l:List Str}(h:fixL.lookup x=some l)(t:bD x=(Str.ofString "",0,0))(hl:r.length=l.length):bi (x::r)=some l:=by
 rw [fJ h,t,if_pos ⟨by show l.length+0<=_;lia,by show _<=l.length+0;lia⟩,hl,sub_self]
 simp
theorem wb1{x:Str}(h:((x.cps.toList.all λc=>decide (c≠32/\c≠10))&&decide (x.length<=60))=true):Wb x:=wds (ws:=[x]) (λy hy=>by rw [List.mem_singleton.mp hy];exact h) x (List.mem_singleton.mpr rfl)
structure Rw(row:Str)(x:Str)(ds:List PyData):Prop where
 p:aZ row=some (x,ds)
 ok:kM row
theorem iP{x:Str}{r ks:List Str}{ds:List PyData}(h:∀y∈x::r,Wb y)(l:r.length<=29)(k:bi (x::r)=some ks)(a:dy (zipWith aF ks r)=some ds):Rw (aR (x::r)) x ds:=⟨tO h k a,BW h (by rw [length_cons];lia)⟩
theorem qu{p:Str->Prop}{a b c:Str}(h1:p a)(h2:p b)(h3:p c):∀y∈[a,b,c],p y:=λy hy=>by
 simp only [mem_cons,not_mem_nil,or_false] at hy
 rcases hy with rfl | rfl | rfl
 ·exact h1
 ·exact h2
 ·exact h3
theorem wT{nm:Str}{n:Nat}(h:aW nm=true)(hn:n<10^6):Rw (aR ["tool",nm,fj n]) "tool" [.str nm,.int n]:=
 iP (qu (wb1 (by decide +kernel)) (fZ h) (mt hn)) (by simp) (eG (l:=["name","number"]) (by decide +kernel) (by decide +kernel) rfl) (by simp only [zipWith_cons_cons,zipWith_nil_left,eC h,jT hn,dy,Option.map])
theorem vB{nm:Str}{n m:Nat}(h:aW nm=true)(hn:n<10^6)(hm:m<10^6):Rw (aR ["store",nm,fj n,fj m]) "store" [.str nm,.int n,.int m]:=
 iP (λy hy=>by
  rcases List.mem_cons.mp hy with rfl | hy
  ·exact wb1 (by decide +kernel)
  ·exact qu (fZ h) (mt hn) (mt hm) y hy) (by simp) (eG (l:=["name","number","number"]) (by decide +kernel) (by decide +kernel) rfl) (by simp only [zipWith_cons_cons,zipWith_nil_left,eC h,jT hn,jT hm,dy,Option.map])
theorem lI{α:Type}{x k nm:Str}{lo hi:Nat}{f:α->Str}{g:α->PyData}{l:List α}(h:aW nm=true)(hx:Wb x)(lk:fixL.lookup x=some [Str.ofString "name"])(tl:bD x=(k,lo,hi))(h1:lo<=l.length)(h2:l.length<=hi)(h3:l.length<=20)(hw:∀a∈l,Wb (f a))(hp:∀a∈l,aF k (f a)=some (g a)):Rw (aR (x::nm::l.map f)) x (.str nm::l.map g):=by
 refine iP (ks:=Str.ofString "name"::replicate l.length k) (λy hy=>?_) (by simp;lia) ?_ ?_
 ·simp only [mem_cons] at hy
  rcases hy with rfl | rfl | hy
  ·exact hx
  ·exact fZ h
  ·obtain⟨n,m,rfl⟩:=List.mem_map.mp hy
   exact hw n m
 ·rw [fJ lk,tl,if_pos (by simp;lia)]
  simp
 ·rw [zipWith_cons_cons,eC h]
  show(dy _).map _=_
  rw [ql f g l hp]
  rfl
theorem yV{nm:Str}{ns:List Nat}(h:aW nm=true)(h1:1<=ns.length)(h2:ns.length<=20)(hn:∀n∈ns,n<10^6):Rw (aR ("row"::nm::ns.map fj)) "row" (.str nm::ns.map λn:Nat=>PyData.int (n:Int)):=
 lI h (wb1 (by decide +kernel)) (by decide +kernel) (k:="number") (lo:=1) (hi:=20) (by decide +kernel) h1 h2 h2 (λa ha=>mt (hn a ha)) λa ha=>jT (hn a ha)
theorem wU{nm:Str}{ns:List Str}(h:aW nm=true)(h2:ns.length<=3)(hn:∀n∈ns,aW n=true):Rw (aR ("hand"::nm::ns)) "hand" (.str nm::ns.map .str):=by
 have:=lI (f:=λx:Str=>x) (g:=PyData.str) (l:=ns) h (x:="hand") (wb1 (by decide +kernel)) (by decide +kernel) (k:="name") (lo:=0) (hi:=3) (by decide +kernel) (zero_le _) h2 (by lia) (λa ha=>fZ (hn a ha)) λa ha=>eC (hn a ha)
 rwa [List.map_id'] at this
theorem vC{nm:Str}{es:List (Str×Tr)}(h:aW nm=true)(h2:es.length<=3)(hn:∀e∈es,Ew e.1 e.2):Rw (aR ("start"::nm::es.map (·.1))) "start" (.str nm::es.map λe=>e.2.toD):=
 lI h (wb1 (by decide +kernel)) (by decide +kernel) (k:="expression") (lo:=0) (hi:=3) (by decide +kernel) (zero_le _) h2 (by lia) (λa ha=>(hn a ha).wb) λa ha=>gH (hn a ha)
def neW:List Str:=["take","give","put","get","let","say"]
theorem vD{x nm e:Str}{t:Tr}(hx:x∈neW)(h:aW nm=true)(he:Ew e t):Rw (aR [x,nm,e]) x [.str nm,t.toD]:=by
 have q:∀x∈neW,fixL.lookup x=some [Str.ofString "name",Str.ofString "expression"]/\bD x=(Str.ofString "",0,0)/\((x.cps.toList.all λc=>decide (c≠32/\c≠10))&&decide (x.length<=60))=true:=by decide +kernel
 obtain⟨q1,q2,q3⟩:=q x hx
 exact iP (qu (wb1 q3) (fZ h) he.wb) (by simp) (eG q1 q2 rfl) (by simp only [zipWith_cons_cons,zipWith_nil_left,eC h,gH he,dy,Option.map])
theorem wV{e:Str}{t:Tr}(he:Ew e t):Rw (aR ["wait",e]) "wait" [t.toD]:=
 iP (λy hy=>by
  simp only [mem_cons,not_mem_nil,or_false] at hy
  rcases hy with rfl | rfl
  ·exact wb1 (by decide +kernel)
  ·exact he.wb) (by simp) (eG (l:=["expression"]) (by decide +kernel) (by decide +kernel) rfl) (by simp only [zipWith_cons_cons,zipWith_nil_left,gH he,dy,Option.map])
theorem wX{a b:Str}(ha:aW a=true)(hb:aW b=true):Rw (aR ["draw",a,b]) "draw" [.str a,.str b]:=
 iP (qu (wb1 (by decide +kernel)) (fZ ha) (fZ hb)) (by simp) (eG (l:=["name","name"]) (by decide +kernel) (by decide +kernel) rfl) (by simp only [zipWith_cons_cons,zipWith_nil_left,eC ha,eC hb,dy,Option.map])
theorem hJ{x:Str}(h:x∈(["stop","else","end"]:List Str)):Rw x x []:=by
 have q:∀x∈(["stop","else","end"]:List Str),fixL.lookup x=some []/\bD x=(Str.ofString "",0,0)/\((x.cps.toList.all λc=>decide (c≠32/\c≠10))&&decide (x.length<=60))=true:=by decide +kernel
 obtain⟨q1,q2,q3⟩:=q x h
 exact iP (x:=x) (r:=[]) (λy hy=>by rw [List.mem_singleton.mp hy];exact wb1 q3) (by simp) (eG q1 q2 rfl) rfl
theorem qv{x e1 sg e2:Str}{t1 t2:Tr}(hx:x∈(["if","while"]:List Str))(hs:sg∈(["<","="]:List Str))(h1:Ew e1 t1)(h2:Ew e2 t2):Rw (aR [x,e1,sg,e2]) x [t1.toD,.str sg,t2.toD]:=by
 have q:∀x∈(["if","while"]:List Str),fixL.lookup x=some [Str.ofString "expression",Str.ofString "sign",Str.ofString "expression"]/\bD x=(Str.ofString "",0,0)/\((x.cps.toList.all λc=>decide (c≠32/\c≠10))&&decide (x.length<=60))=true:=by decide +kernel
 have s:∀x∈(["<","="]:List Str),aF "sign" x=some (.str x)/\((x.cps.toList.all λc=>decide (c≠32/\c≠10))&&decide (x.length<=60))=true:=λx hx=>by
  simp only [mem_cons,not_mem_nil,or_false] at hx
  rcases hx with rfl | rfl
  ·exact⟨by unfold aF;rw [if_neg (by decide +kernel),if_neg (λz=>absurd z.1 (by decide +kernel)),if_neg (λz=>absurd z.1 (by decide +kernel)),if_pos ⟨rfl,.inl rfl⟩],by decide +kernel⟩
  ·exact⟨by unfold aF;rw [if_neg (by decide +kernel),if_neg (λz=>absurd z.1 (by decide +kernel)),if_neg (λz=>absurd z.1 (by decide +kernel)),if_pos ⟨rfl,.inr rfl⟩],by decide +kernel⟩
 obtain⟨q1,q2,q3⟩:=q x hx
 obtain⟨s1,s2⟩:=s sg hs
 refine iP (λy hy=>?_) (by simp) (eG q1 q2 rfl) (by simp only [zipWith_cons_cons,zipWith_nil_left,gH h1,gH h2,s1,dy,Option.map])
 rcases List.mem_cons.mp hy with rfl | hy
 ·exact wb1 q3
 ·exact qu h1.wb (wb1 s2) h2.wb y hy
inductive PH
 | ha (x:Str) (ns:List Str)
 | wh (k:Int) (sg a b:PyData)
 | th (k:Int) (sg a b:PyData)
 | el (k:Int) (sg a b:PyData) (ds:List Sm)
structure PF where
 dn:List Sm
 h:PH
structure PS where
 t:List (Str×List PyData)
 s:List (Str×List PyData)
 r:List (Str×List PyData)
 hd:List Hd
 fs:List PF
def mkP:PH->List Sm->Sm
 | .wh k sg a b,l=>.wh k sg a b (ofL l)
 | .th k sg a b,l=>.fi k sg a b (ofL l) .nil
 | .el k sg a b ds,l=>.fi k sg a b (ofL ds) (ofL l)
 | .ha _ _,l=>.wh 0 (.int 0) (.int 0) (.int 0) (ofL l)
structure mW(x:Str)(ns:List Str):Prop where
 ok:Nok x
 al:∀y∈ns,PyData.strOk y=true
 len:ns.length<=3
inductive RowE (k:Nat) (row:Str):PS->PS->Prop
 | tool {t s r:List (Str×List PyData)} {nm:Str} {n:Int}:Rw row "tool" [.str nm,.int n]->1<=n->n<=9->nm∉t.map (·.1)++s.map (·.1)->Nok nm->RowE k row ⟨t,s,r,[],[]⟩ ⟨t++[(nm,[.int n])],s,r,[],[]⟩
 | store {t s r:List (Str×List PyData)} {nm:Str} {a b:Int}:Rw row "store" [.str nm,.int a,.int b]->a<=b->1<=b->b<=999->nm∉t.map (·.1)++s.map (·.1)->Nok nm->RowE k row ⟨t,s,r,[],[]⟩ ⟨t,s++[(nm,[.int a,.int b])],r,[],[]⟩
 | row {t s r:List (Str×List PyData)} {nm:Str} {ns:List Int}:Rw row "row" (.str nm::ns.map .int)->ns≠[]->ns.length<=20->(∀n∈ns,n<=999)->nm∉r.map (·.1)->Nok nm->RowE k row ⟨t,s,r,[],[]⟩ ⟨t,s,r++[(nm,[.list (ns.map .int)])],[],[]⟩
 | hand {t s r:List (Str×List PyData)} {hd:List Hd} {nm:Str} {ns:List Str}:Rw row "hand" (.str nm::ns.map .str)->ns.Nodup->nm∉hd.map (·.1)->mW nm ns->hd.length<=7->RowE k row ⟨t,s,r,hd,[]⟩ ⟨t,s,r,hd,[⟨[],.ha nm ns⟩]⟩
 | els {t s r:List (Str×List PyData)} {hd:List Hd} {k0:Int} {sg a b:PyData} {dn:List Sm} {fs:List PF}:Rw row "else" []->RowE k row ⟨t,s,r,hd,⟨dn,.th k0 sg a b⟩::fs⟩ ⟨t,s,r,hd,⟨[],.el k0 sg a b dn⟩::fs⟩
 | fin {t s r:List (Str×List PyData)} {hd:List Hd} {f g:PF} {fs:List PF}:Rw row "end" []->RowE k row ⟨t,s,r,hd,f::g::fs⟩ ⟨t,s,r,hd,⟨g.dn++[mkP f.h f.dn],g.h⟩::fs⟩
 | finH {t s r:List (Str×List PyData)} {hd:List Hd} {dn:List Sm} {x:Str} {ns:List Str}:Rw row "end" []->RowE k row ⟨t,s,r,hd,[⟨dn,.ha x ns⟩]⟩ ⟨t,s,r,hd++[(x,ns,ofL dn)],[]⟩
 | whl {t s r:List (Str×List PyData)} {hd:List Hd} {f:PF} {fs:List PF} {sg a b:PyData}:Rw row "while" [a,sg,b]->fs.length+1<6->DT sg->DT a->DT b->RowE k row ⟨t,s,r,hd,f::fs⟩ ⟨t,s,r,hd,⟨[],.wh k sg a b⟩::f::fs⟩
 | iff {t s r:List (Str×List PyData)} {hd:List Hd} {f:PF} {fs:List PF} {sg a b:PyData}:Rw row "if" [a,sg,b]->fs.length+1<6->DT sg->DT a->DT b->RowE k row ⟨t,s,r,hd,f::fs⟩ ⟨t,s,r,hd,⟨[],.th k sg a b⟩::f::fs⟩
 | start {t s r:List (Str×List PyData)} {hd:List Hd} {f:PF} {fs:List PF} {nm:Str} {es:List PyData}:Rw row "start" (.str nm::es)->bw (.st k nm es) 0->RowE k row ⟨t,s,r,hd,f::fs⟩ ⟨t,s,r,hd,⟨f.dn++[.st k nm es],f.h⟩::fs⟩
 | plain {t s r:List (Str×List PyData)} {hd:List Hd} {f:PF} {fs:List PF} {x:Str} {ds:List PyData}:Rw row x ds->bw (.pl x k ds) 0->RowE k row ⟨t,s,r,hd,f::fs⟩ ⟨t,s,r,hd,⟨f.dn++[.pl x k ds],f.h⟩::fs⟩
def ps0:PS:=⟨[],[],[],[],[]⟩
inductive Reach:List Str->PS->Prop
 | nil:Reach [] ps0
 | snoc {rows:List Str} {row:Str} {st st':PS}:Reach rows st->RowE (rows.length+1) row st st'->Reach (rows++[row]) st'
theorem RowE.ok{k:Nat}{row:Str}{s s':PS}(h:RowE k row s s'):kM row:=by
 cases h with
 | tool h=>exact h.ok
 | store h=>exact h.ok
 | row h=>exact h.ok
 | hand h=>exact h.ok
 | els h=>exact h.ok
 | fin h=>exact h.ok
 | finH h=>exact h.ok
 | whl h=>exact h.ok
 | iff h=>exact h.ok
 | start h=>exact h.ok
 | plain h=>exact h.ok
theorem Reach.get{rows:List Str}{st:PS}(h:Reach rows st):∃f:Nat->PS,f 0=ps0/\f rows.length=st/\∀i row,rows[i]? =some row->RowE (i+1) row (f i) (f (i+1)):=by
 induction h with
 | nil=>exact⟨λ_=>ps0,rfl,rfl,λi row e=>by simp at e⟩
 | @snoc rows row st st' _ e ih=>
  obtain⟨f,f0,fn,fi⟩:=ih
  refine⟨λi=>if i<=rows.length then f i else st',by simp [f0],by simp only;rw [length_append,length_singleton,if_neg (by lia)],λi x hx=>?_⟩
  by_cases c:i<rows.length
  ·rw [List.getElem?_append_left c] at hx
   simp only
   rw [if_pos (by lia),if_pos (by lia)]
   exact fi i x hx
  ·have ei:i=rows.length:=by
    have:=(List.getElem?_eq_some_iff.mp hx).1
    simp at this;lia
   subst ei
   rw [getElem?_append_right (le_refl _),sub_self] at hx
   cases hx
   simp only
   rw [if_pos (le_refl _),if_neg (by lia),fn]
   exact e
section
variable{P:Program}{w:World}{K:PySem.W.Frag}{mg:Str->Option Value}{base:Heap}
theorem mX{H Ha Hb H5:Hp}{u:Addr}(g:Same H Ha)(g':Same Hb H5)(hu:Hb u=none):Same (kp em Ha Hb) (cg u (kp em H H5)):=λa x e=>bI (λz=>by have:=(cG e).2;rw [z,hu] at this;cases this) (eP g g' _ _ e)
theorem qw{H Ha Hb H5:Hp}{u v:Addr}(g:Same H Ha)(g':Same Hb H5)(hu:Hb u=none)(hv:Hb v=none):Same (kp em Ha Hb) (cg u (cg v (kp em H H5))):=λa x e=>bI (λz=>by have:=(cG e).2;rw [z,hu] at this;cases this) (mX g g' hv _ _ e)
structure Three(K:PySem.W.Frag)(F:Hp)(vs va vb:V)(sg a b:PyData):Prop where
 rs:Rp K F vs sg
 ra:Rp K F va a
 rb:Rp K F vb b
 gs:DT sg
 ga:DT a
 gb:DT b
def BY(K:PySem.W.Frag):Sp:=λvs H Q _=>∃(c:Int) (k:Nat),vs= [.int c,.int (k:Nat)]/\∀(p t:Addr) (H':Hp) (x:Str) (wd:Str) (sg a b:V) (bs:List V) (dg da db:PyData),Same H H'->H' p=some (.lst [.str x,.ref t])->H p=none->H t=none->H' t=some (.tup (.str wd::.int (k:Nat)::sg::a::b::bs))->Rw x wd [da,dg,db]->
 ((wd=Str.ofString "while"/\∃u,bs= [.ref u]/\H u=none/\H' u=some (.lst [])/\Three K (cg u (kp em H H')) sg a b dg da db)\/(wd=Str.ofString "if"/\∃u v,bs= [.ref u,.ref v]/\u≠v/\H u=none/\H v=none/\H' u=some (.lst [])/\H' v=some (.lst [])/\Three K (cg u (cg v (kp em H H'))) sg a b dg da db))->Q (.ref p) H'
theorem Dx(D:DefAt K mg "_law_opener" gO ["cell","k"])(G__law_stir:OkD P w K mg base 1 "_law_stir" ["cell","k"] dC)(G__law_expr:OkD P w K mg base 7 "_law_expr" ["cell","k"] (wR K)):OkD P w K mg base 8 "_law_opener" ["cell","k"] (BY K):=by
 refine D.ok sc__law_opener (λvs H Q E h=>?_) (λf cdv A outer s H vs Q E hr h=>?_)
 ·obtain⟨_,_,rfl,_⟩:=h;rfl
 obtain⟨c,k,rfl,q⟩:=h
 have big:100000<=sizeLine:=by unfold sizeLine;decide
 refine⟨_,(af (ai (i:=2) sc__law_opener.nd rfl (Or.inl rfl) (aA G__law_expr hr rfl (aa (pv 0) (aa ae ad))))
 (af (ai (i:=3) sc__law_opener.nd rfl (Or.inl rfl) (aA G__law_expr hr rfl (aa (pv 0) (aa ae ad))))
 (af (ai (i:=4) sc__law_opener.nd rfl (Or.inl rfl) (ao jh ac (ag aI (aA G__law_stir hr rfl (aa (pv 0) (aa ae ad))) ae) (λ_ _=>rfl)))
 (af (aB (aj aJ (ag aI (ag bG (aA G__law_stir hr rfl (aa (pv 0) (aa ae ad))) ae) ae) ae (ap _))
 (ah (ax (ak (aa (ag aq (ag aq (ag aq (ag aq (ag aq ac (ao av (pv 2) ae (λ_ _=>rfl))) ac) (pv 4)) ac) (ao av (pv 3) ae (λ_ _=>rfl))) (aa (az (aa ac (aa (pv 1) (aa (pv 4) (aa (ao av (pv 2) ae (λ_ _=>rfl)) (aa (ao av (pv 3) ae (λ_ _=>rfl)) (aa (ak ad) ad))))))) ad)))))
 ay)
 (ah (ax (ak (aa (ag aq (ag aq (ag aq (ag aq (ag aq ac (ao av (pv 2) ae (λ_ _=>rfl))) ac) (pv 4)) ac) (ao av (pv 3) ae (λ_ _=>rfl))) (aa (az (aa ac (aa (pv 1) (aa (pv 4) (aa (ao av (pv 2) ae (λ_ _=>rfl)) (aa (ao av (pv 3) ae (λ_ _=>rfl)) (aa (ak ad) (aa (ak ad) ad)))))))) ad))))))))),?_⟩
 walk_at "r2"
 refine⟨c,3,rfl,by decide,by decide,λp1 H1 x1 v1 t1 hp1 g1 h1 w1 r1 d1=>?_⟩
 walk_at "r2"
 refine⟨c,30,rfl,by decide,by decide,λp2 H2 x2 v2 t2 hp2 g2 h2 w2 r2 d2=>?_⟩
 have h12:=g2 _ _ h1
 clear h1
 walk_at "r2"
 refine⟨c,2,rfl,by decide,by decide,λm e0 m0 m1=>?_⟩
 clear e0
 have l2:(Str.ofString "<=").cps.toList.length=2:=by decide +kernel
 obtain⟨sg,hsg,msg,_⟩:=eU (xs:=(Str.ofString "<=").cps.toList) (i:=m%2) (by lia) (by lia)
 have lsz:(Str.ofString "<=").length<=sizeLine:=by unfold sizeLine;decide +kernel
 have sgo:PyData.strOk ⟨#[sg]⟩=true:=by
  have:∀s∈(Str.ofString "<=").cps.toList,PyData.strOk ⟨#[s]⟩=true:=by decide +kernel
  exact this sg msg
 have sgm:(⟨#[sg]⟩:Str)∈(["<","="]:List Str):=by
  have:∀s∈(Str.ofString "<=").cps.toList,(⟨#[s]⟩:Str)∈(["<","="]:List Str):=by decide +kernel
  exact this sg msg
 have l1:=w1.wb.2
 have l2':=w2.wb.2
 have q1:(Str.ofString "while ").length=6:=by decide +kernel
 have q2:(Str.ofString " ").length=1:=by decide +kernel
 have q3:(Str.ofString "if ").length=3:=by decide +kernel
 have sl:=bC
 have q4:∀s:Nat,(⟨#[s]⟩:Str).length=1:=λ_=>rfl
 clear l2
 walk_at "r2"
 refine⟨c,2,rfl,by decide,by decide,λm' e0 m0' m1'=>?_⟩
 clear e0
 walk_at "r2"
 refine aY (λc1=>?_) λc1=>?_
 ·walk_at "r2"
  refine⟨by lia,?_⟩
  walk_at "r2"
  refine⟨by lia,?_⟩
  walk_at "r2"
  refine⟨by lia,?_⟩
  walk_at "r2"
  refine⟨by lia,?_⟩
  walk_at "r2"
  refine⟨by lia,?_⟩
  walk_at "r2"
  intro u H3 hu g3 h3
  walk_at "r2"
  intro t H4 ht g4 h4
  walk_at "r2"
  intro p5 H5 hp5 g5 h5
  have g25:=g3.trans (g4.trans g5)
  have g15:=g2.trans g25
  have g12:=g1.trans g2
  exact q p5 t H5 _ _ _ _ _ _ _ _ _ (g1.trans g15) h5 (g12.free (g3.free (g4.free hp5))) (g12.free (g3.free ht)) (g5 _ _ h4) (by rw [tU (x:="while") (by decide +kernel)];exact qv (by simp) sgm w1 w2) (.inl ⟨rfl,u,rfl,g12.free hu,g5 _ _ (g4 _ _ h3),⟨.str _,r1.mono (mX (Same.refl _) g15 (g2.free hu)),r2.mono (mX g1 g25 hu),jA sgo,jU d1,jU d2⟩⟩)
 ·walk_at "r2"
  refine⟨by lia,?_⟩
  walk_at "r2"
  refine⟨by lia,?_⟩
  walk_at "r2"
  refine⟨by lia,?_⟩
  walk_at "r2"
  refine⟨by lia,?_⟩
  walk_at "r2"
  refine⟨by lia,?_⟩
  walk_at "r2"
  intro u H3 hu g3 h3
  walk_at "r2"
  intro v H3' hv g3' h3'
  walk_at "r2"
  refine⟨by lia,λt H4 ht g4 h4=>?_⟩
  walk_at "r2"
  intro p5 H5 hp5 g5 h5
  have g25:=g3.trans (g3'.trans (g4.trans g5))
  have g15:=g2.trans g25
  have g12:=g1.trans g2
  have nuv:u≠v:=λz=>by rw [z] at h3;rw [h3] at hv;cases hv
  exact q p5 t H5 _ _ _ _ _ _ _ _ _ (g1.trans g15) h5 (g12.free (g3.free (g3'.free (g4.free hp5)))) (g12.free (g3.free (g3'.free ht))) (g5 _ _ h4) (by rw [tU (x:="if") (by decide +kernel)];exact qv (by simp) sgm w1 w2) (.inr ⟨rfl,u,v,rfl,nuv,g12.free hu,g12.free (g3.free hv),g5 _ _ (g4 _ _ (g3' _ _ h3)),g5 _ _ (g4 _ _ h3'),⟨.str _,r1.mono (qw (Same.refl _) g15 (g2.free hu) (g2.free (g3.free hv))),r2.mono (qw g1 g25 hu (g3.free hv)),jA sgo,jU d1,jU d2⟩⟩)
end
section
variable{P:Program}{w:World}{K:PySem.W.Frag}{mg:Str->Option Value}{base:Heap}
def exD(e:Str×Tr):PyData:=.list [.str e.1,e.2.toD]
def SoP(K:PySem.W.Frag)(H:Hp)(c:Int)(D:Addr)(i:Nat)(ys:List V)(σ1:St)(H':Hp):Prop:=∃es:List (Str×Tr),RpL K (cg D (kp em H H')) ys (es.map exD)/\(∀e∈es,Ew e.1 e.2/\DG 5 e.2.toD)/\es.length=i/\∃v0,σ1= [v0,some (.int c)]
theorem xQ{H:Hp}{v:V}{e:Str×Tr}(r:Rp K H v (exD e)):∃p tv,v= .ref p/\H p=some (.lst [.str e.1,tv])/\Rp K H tv e.2.toD:=by
 unfold exD at r
 cases r with | lst a b=>cases b with | cons b1 b=>cases b with | cons b2 b=>cases b;cases b1;exact⟨_,_,rfl,a,b2⟩
def L0P(es:List (Str×Tr))(i:Nat)(ys:List V)(σ1:St)(H':Hp):Prop:=ys=((es.take i).map (·.1)).map V.str/\∃v0,σ1= [v0]
theorem wY{H:Hp}{o:Addr}{ys:List V}{es:List (Str×Tr)}{Q:VK}(ho:H o=some (.lst ys))(r:RpL K H ys (es.map exD))(hl:es.length<=1000)(q:∀D H',H D=none->Same H H'->H' D=some (.lst ((es.map (·.1)).map V.str))->Q (.ref D) H'):gw (Itl K o) (gr 0) pi (tOp ii (cJ 0) (tC (V.int 0))) [none] H Q:=by
 have big:100000<=sizeLine:=by unfold sizeLine;decide
 have ll:=r.len
 rw [length_map] at ll
 refine fC ho (by lia) (L0P es) (λH' _=>⟨rfl,_,rfl⟩) ?_ ?_
 ·rintro D i x ys' σ1 H1 hx at1 ⟨rfl,v0,rfl⟩
  obtain⟨d,hd,rd⟩:=r.get hx
  rw [getElem?_map] at hd
  obtain⟨e,he,rfl⟩:=Option.map_eq_some_iff.mp hd
  obtain⟨p,tv,rfl,hp,_⟩:=xQ rd
  have hp1:=at1.same _ _ hp
  clear ho ll
  walk_at "r2"
  refine at1.put (Same.refl _) λH5 mu=>⟨?_,_,rfl⟩
  rw [du he,map_append,map_append];rfl
 ·rintro D ys' σ1 H1 hD k1 hy hle ⟨rfl,_⟩
  rw [take_of_length_le (by lia)] at hy
  exact q D H1 hD k1 hy
def L1P(K:PySem.W.Frag)(H:Hp)(es:List (Str×Tr))(i:Nat)(ys:List V)(σ1:St)(H':Hp):Prop:=RpL K H ys ((es.take i).map λe=>e.2.toD)/\∃v0,σ1= [v0]
theorem wZ{H HB:Hp}{o:Addr}{ys:List V}{es:List (Str×Tr)}{Q:VK}(g:Same HB H)(ho:H o=some (.lst ys))(r:RpL K HB ys (es.map exD))(hl:es.length<=1000)(q:∀D H' vs,H D=none->Same H H'->H' D=some (.lst vs)->RpL K HB vs (es.map λe=>e.2.toD)->Q (.ref D) H'):gw (Itl K o) (gr 0) pi (tOp ii (cJ 0) (tC (V.int 1))) [none] H Q:=by
 have big:100000<=sizeLine:=by unfold sizeLine;decide
 have ll:=r.len
 rw [length_map] at ll
 refine fC ho (by lia) (L1P K HB es) (λH' _=>⟨.nil,_,rfl⟩) ?_ ?_
 ·rintro D i x ys' σ1 H1 hx at1 ⟨ry,v0,rfl⟩
  obtain⟨d,hd,rd⟩:=r.get hx
  rw [getElem?_map] at hd
  obtain⟨e,he,rfl⟩:=Option.map_eq_some_iff.mp hd
  obtain⟨p,tv,rfl,hp,rtv⟩:=xQ rd
  have hp1:=at1.same _ _ (g _ _ hp)
  clear ho ll
  walk_at "r2"
  refine at1.put (Same.refl _) λH5 mu=>⟨?_,_,rfl⟩
  rw [du he,map_append]
  exact RpL.app (.cons rtv .nil) ry
 ·rintro D ys' σ1 H1 hD k1 hy hle ⟨ry,_⟩
  rw [take_of_length_le (by lia)] at ry
  exact q D H1 ys' hD k1 hy ry
theorem Ef{es:List (Str×Tr)}(ge:∀e∈es,Ew e.1 e.2/\DG 5 e.2.toD):((es.map (·.1)).map (·.length)).sum<=60*es.length:=by
 induction es with
 | nil=>exact le_refl _
 | cons e es ih=>
  have a:=(ge e (mem_cons_self ..)).1.wb.2
  have b:=ih λx hx=>ge x (mem_cons_of_mem _ hx)
  rw [map_cons,map_cons,sum_cons,length_cons]
  lia
inductive StR (k:Nat) (row:Str):Sm->Prop
 | pl {x:Str} {ds:List PyData}:Rw row x ds->StR k row (.pl x k ds)
 | st {x:Str} {es:List PyData}:Rw row "start" (.str x::es)->StR k row (.st k x es)
theorem StR.row{k:Nat}{row:Str}{sm:Sm}(h:StR k row sm)(ok:bw sm 0){t s r:List (Str×List PyData)}{hd:List Hd}{f:PF}{fs:List PF}:RowE k row ⟨t,s,r,hd,f::fs⟩ ⟨t,s,r,hd,⟨f.dn++[sm],f.h⟩::fs⟩:=by
 cases h with
 | pl h=>exact .plain h ok
 | st h=>exact .start h ok
def BZ(K:PySem.W.Frag):Sp:=λvs H Q _=>∃(c:Int) (k:Nat),vs= [.int c,.int (k:Nat)]/\∀(p t:Addr) (H':Hp) (x:Str) (s:Sm),H p=none->Same H H'->H' p=some (.lst [.str x,.ref t])->Rp K (kp em H H') (.ref t) (smD s)->bw s 0->StR k x s->Q (.ref p) H'
theorem Ca:∀x∈nm12,aW x=true:=by decide +kernel
theorem Dy(D:DefAt K mg "_law_plain" ix ["cell","k"])(hrange:mg "range" =none)(G__law_stir:OkD P w K mg base 1 "_law_stir" ["cell","k"] dC)(G__law_name:OkD P w K mg base 1 "_law_name" ["number"] wN)(G__law_expr:OkD P w K mg base 7 "_law_expr" ["cell","k"] (wR K)):OkD P w K mg base 8 "_law_plain" ["cell","k"] (BZ K):=by
 refine D.ok sc__law_plain (λvs H Q E h=>?_) (λf cdv A outer s H vs Q E hr h=>?_)
 ·obtain⟨_,_,rfl,_⟩:=h;rfl
 obtain⟨c,k,rfl,q⟩:=h
 have big:100000<=sizeLine:=by unfold sizeLine;decide
 refine⟨_,(af (ai (i:=2) sc__law_plain.nd rfl (Or.inl rfl) (aA G__law_stir hr rfl (aa (pv 0) (aa ae ad))))
 (af (bQ (aA G__law_expr hr rfl (aa (pv 0) (aa ae ad))) (gZ 2 rfl (aD (aw (i:=3) sc__law_plain.nd rfl (Or.inl rfl)) (aD (aw (i:=4) sc__law_plain.nd rfl (Or.inl rfl)) bO))))
 (af (ai (i:=5) sc__law_plain.nd rfl (Or.inl rfl) (aA G__law_name hr rfl (aa (ag bG (pv 2) ae) ad)))
 (af (ai (i:=6) sc__law_plain.nd rfl (Or.inl rfl) (ag aI (pv 2) ae))
 (af (aB (aj gR (pv 6) ae (ap _))
 (af (ai (i:=7) sc__law_plain.nd rfl (Or.inl rfl) (ao av (ak (aa ac (aa ac (aa ac (aa ac (aa ac ad)))))) (pv 6) (λ_ _=>rfl)))
 (ah (ax (ak (aa (ag aq (ag aq (ag aq (ag aq (pv 7) ac) (pv 5)) ac) (pv 3)) (aa (az (aa (pv 7) (aa (pv 1) (aa (pv 5) (aa (pv 4) ad))))) ad))))))
 ay)
 (af (aB (aj aJ (pv 6) ae (ap _))
 (ah (ax (ak (aa (ag aq ac (pv 3)) (aa (az (aa ac (aa (pv 1) (aa (pv 4) ad)))) ad)))))
 ay)
 (af (aB (aj aJ (pv 6) ae (ap _))
 (af (ai (i:=8) sc__law_plain.nd rfl (Or.inl rfl) (aA G__law_name hr rfl (aa (ag bG (pv 2) ae) ad)))
 (ah (ax (ak (aa (ag aq (ag aq (ag aq ac (pv 5)) ac) (pv 8)) (aa (az (aa ac (aa (pv 1) (aa (pv 5) (aa (pv 8) ad))))) ad))))))
 ay)
 (af (aB (aj aJ (pv 6) ae (ap _))
 (ah (ax (ak (aa (ag aq (ag aq (ag aq ac (pv 5)) ac) (pv 3)) (aa (az (aa ac (aa (pv 1) (aa (pv 5) (aa (pv 4) ad))))) ad)))))
 ay)
 (af (aB (aj aJ (pv 6) ae (ap _))
 (ah (ax (ak (aa ac (aa (az (aa ac (aa (pv 1) ad))) ad)))))
 ay)
 (af (lj (i:=9) sc__law_plain.nd rfl (Or.inl rfl) (bL 1 (N:=["j","cell"]) (cap:=[0]) rfl rfl rfl rfl (by decide +kernel) rfl rfl rfl) rfl (dP rfl hrange (aa (ag aI (ag bG (pv 2) ae) ae) ad)) (λ_ _ _ _=>(aw (i:=0) (show List.Nodup (α:=Str) ["j","cell"] by decide +kernel) rfl (Or.inl (lookup_relabel_local rfl)) (Or.inr (lookup_relabel_local rfl)))) (λ_ _ _ _=>dB) (λ_ _ _ _=>(aA G__law_expr hr rfl (aa (pv 1) (aa (ag aM ae (ag dh ae (pv 0))) ad)))))
 (ah (ax (ak (aa (gY ac (ag aV (ak (aa ac (aa (pv 5) ad))) (eZ (bL 1 (N:=["one"]) (cap:=[]) rfl rfl rfl rfl (by decide +kernel) rfl rfl rfl) rfl (fk (pv 9)) (λ_ _ _ _=>(aw (i:=0) (show List.Nodup (α:=Str) ["one"] by decide +kernel) rfl (Or.inl (lookup_relabel_local rfl)) (Or.inr (lookup_relabel_local rfl)))) (λ_ _ _ _=>dB) (λ_ _ _ _=>(ao av (pv 0) ae (λ_ _=>rfl)))))) (aa (az (aa ac (aa (pv 1) (aa (pv 5) (aa (eZ (bL 1 (N:=["one"]) (cap:=[]) rfl rfl rfl rfl (by decide +kernel) rfl rfl rfl) rfl (fk (pv 9)) (λ_ _ _ _=>(aw (i:=0) (show List.Nodup (α:=Str) ["one"] by decide +kernel) rfl (Or.inl (lookup_relabel_local rfl)) (Or.inr (lookup_relabel_local rfl)))) (λ_ _ _ _=>dB) (λ_ _ _ _=>(ao av (pv 0) ae (λ_ _=>rfl)))) ad))))) ad))))))))))))))),?_⟩
 walk_at "r2"
 refine⟨c,1,rfl,by decide,by decide,λm e0 m0 m1=>?_⟩
 clear e0
 walk_at "r2"
 refine⟨c,3,rfl,by decide,by decide,λp1 H1 x1 v1 t1 hp1 g1 h1 w1 r1 tg1=>?_⟩
 have l1:=w1.wb.2
 walk_at "r2"
 refine⟨_,rfl,λnm H2 mn g2=>?_⟩
 obtain⟨nn0,_,no,nl⟩:=mr mn
 have nk:=Ca nm mn
 have g12:=g1.trans g2
 clear h1
 have sl:=bC
 have q2:(Str.ofString " ").length=1:=by decide +kernel
 walk_at "r2"
 refine aY (λc1=>?_) λc1=>?_
 ·walk_at "r2"
  intro p3 H3 hp3 g3 h3
  obtain⟨dv,hdv,mdv,_⟩:=eU (xs:=[V.str (Str.ofString "take"),V.str (Str.ofString "give"),V.str (Str.ofString "put"),V.str (Str.ofString "get"),V.str (Str.ofString "let")]) (i:=m%11) (by lia) (by simp only [length_cons,length_nil];lia)
  obtain⟨dw,mdw,rfl⟩:∃dw,dw∈neW/\dv= .str dw:=by
   simp only [mem_cons,not_mem_nil,or_false] at mdv
   rcases mdv with rfl | rfl | rfl | rfl | rfl<;>exact⟨_,by with_unfolding_all decide,rfl⟩
  have dl:dw.length<=4/\dw∈plW:=by
   have:∀x∈neW,x.length<=4/\x∈plW:=by decide +kernel
   exact this dw mdw
  have dl1:=dl.1
  walk_at "r2"
  refine⟨by lia,?_⟩
  walk_at "r2"
  refine⟨by lia,?_⟩
  walk_at "r2"
  refine⟨by lia,?_⟩
  walk_at "r2"
  refine⟨by lia,?_⟩
  walk_at "r2"
  intro t H4 ht g4 h4
  walk_at "r2"
  intro p5 H5 hp5 g5 h5
  have g35:=g3.trans (g4.trans g5)
  have rt5:kp em H H5 t=some (.tup [.str dw,.int k,.str nm,v1]):=aT (g12.free (g3.free ht)) (g5 _ _ h4)
  have rv5:=r1.mono (eP (Same.refl _) (g2.trans g35))
  exact q p5 t H5 _ (.pl dw k [.str nm,t1.toD]) (g12.free (g3.free (g4.free hp5))) (g12.trans g35) h5 (by unfold smD;exact .tup rt5 (.cons (.str _) (.cons (.int _) (.cons (.str _) (.cons rv5 .nil))))) (by simp only [bw];exact⟨dl.2,all_cons (jA no) (all_cons (jU tg1) all_nil),by simp⟩) (.pl (by rw [BX];exact vD mdw nk w1))
 walk_at "r2"
 refine aY (λc2=>?_) λc2=>?_
 ·have q3:(Str.ofString "wait ").length=5:=by decide +kernel
  walk_at "r2"
  refine⟨by lia,?_⟩
  walk_at "r2"
  intro t H4 ht g4 h4
  walk_at "r2"
  intro p5 H5 hp5 g5 h5
  have g35:=g4.trans g5
  have rv5:=r1.mono (eP (Same.refl _) (g2.trans g35))
  exact q p5 t H5 _ (.pl (Str.ofString "wait") k [t1.toD]) (g12.free (g4.free hp5)) (g12.trans g35) h5 (by unfold smD;exact .tup (aT (g12.free ht) (g5 _ _ h4)) (.cons (.str _) (.cons (.int _) (.cons rv5 .nil)))) (by simp only [bw];exact⟨by decide +kernel,all_cons (jU tg1) all_nil,by simp⟩) (.pl (by rw [Dw (x:="wait") (by decide +kernel)];exact wV w1))
 walk_at "r2"
 refine aY (λc3=>?_) λc3=>?_
 ·walk_at "r2"
  refine⟨_,rfl,λnm2 H3 mn2 g3=>?_⟩
  obtain⟨_,_,no2,nl2⟩:=mr mn2
  have nk2:=Ca nm2 mn2
  have q3:(Str.ofString "draw ").length=5:=by decide +kernel
  walk_at "r2"
  refine⟨by lia,?_⟩
  walk_at "r2"
  refine⟨by lia,?_⟩
  walk_at "r2"
  refine⟨by lia,?_⟩
  walk_at "r2"
  intro t H4 ht g4 h4
  walk_at "r2"
  intro p5 H5 hp5 g5 h5
  have g35:=g3.trans (g4.trans g5)
  exact q p5 t H5 _ (.pl (Str.ofString "draw") k [.str nm,.str nm2]) (g12.free (g3.free (g4.free hp5))) (g12.trans g35) h5 (by unfold smD;exact .tup (aT (g12.free (g3.free ht)) (g5 _ _ h4)) (.cons (.str _) (.cons (.int _) (.cons (.str _) (.cons (.str _) .nil))))) (by simp only [bw];exact⟨by decide +kernel,all_cons (jA no) (all_cons (jA no2) all_nil),by simp⟩) (.pl (by rw [tT (x:="draw") (by decide +kernel)];exact wX nk nk2))
 walk_at "r2"
 refine aY (λc4=>?_) λc4=>?_
 ·have q3:(Str.ofString "say ").length=4:=by decide +kernel
  walk_at "r2"
  refine⟨by lia,?_⟩
  walk_at "r2"
  refine⟨by lia,?_⟩
  walk_at "r2"
  refine⟨by lia,?_⟩
  walk_at "r2"
  intro t H4 ht g4 h4
  walk_at "r2"
  intro p5 H5 hp5 g5 h5
  have g35:=g4.trans g5
  have rv5:=r1.mono (eP (Same.refl _) (g2.trans g35))
  exact q p5 t H5 _ (.pl (Str.ofString "say") k [.str nm,t1.toD]) (g12.free (g4.free hp5)) (g12.trans g35) h5 (by unfold smD;exact .tup (aT (g12.free ht) (g5 _ _ h4)) (.cons (.str _) (.cons (.int _) (.cons (.str _) (.cons rv5 .nil))))) (by simp only [bw];exact⟨by decide +kernel,all_cons (jA no) (all_cons (jU tg1) all_nil),by simp⟩) (.pl (by rw [tT (x:="say") (by decide +kernel)];exact vD (by decide +kernel) nk w1))
 walk_at "r2"
 refine aY (λc5=>?_) λc5=>?_
 ·walk_at "r2"
  intro t H4 ht g4 h4
  walk_at "r2"
  intro p5 H5 hp5 g5 h5
  exact q p5 t H5 _ (.pl (Str.ofString "stop") k []) (g12.free (g4.free hp5)) (g12.trans (g4.trans g5)) h5 (by unfold smD;exact .tup (aT (g12.free ht) (g5 _ _ h4)) (.cons (.str _) (.cons (.int _) .nil))) (by simp only [bw];exact⟨by decide +kernel,all_nil,by simp⟩) (.pl (hJ (by simp)))
 walk_at "r2"
 obtain⟨nn,enn,hn⟩:∃nn:Nat,m/200%4=(nn:Int)/\nn<=3:=⟨(m/200%4).toNat,by lia,by lia⟩
 refine cQ ?_
 simp only [iH]
 walk_at "r2"
 refine⟨by lia,by lia,pB (by lia) (SoP K H2 c) (λD H' _ _ _=>⟨[],.nil,λe h=>absurd h not_mem_nil,rfl,_,rfl⟩) ?_ ?_⟩
 ·intro D j ys σ1 H3 hj at1 z
  obtain⟨es,ry,ge,le,v0,rfl⟩:=z
  walk_at "r2"
  refine⟨_,_,rfl,by lia,by lia,λp4 H4 x4 tv t4 hp4 g4 h4 w4 r4 d4=>?_⟩
  refine at1.put g4 λH5 mu=>⟨es++[(x4,t4)],?_,λe he=>?_,by rw [length_append,le];rfl,_,rfl⟩
  ·rw [map_append]
   have rr:Rp K (kp em H3 H4) (.ref p4) (exD (x4,t4)):=.lst (aT hp4 h4) (.cons (.str _) (.cons r4 .nil))
   exact RpL.app (.cons (rr.mono (yN at1.same rfl at1.lst mu)) .nil) (ry.mono (BL g4 mu))
  ·rcases List.mem_append.mp he with z | z
   ·exact ge e z
   ·rw [List.mem_singleton.mp z];exact⟨w4,d4⟩
 ·intro D ys σ1 H3 hD g3 hy hle z
  obtain⟨es,ry,ge,le,v0,rfl⟩:=z
  have ry3:=ry.mono rC
  have le3:es.length<=3:=by lia
  clear le ry
  walk_at "r2"
  intro p4 H4 hp4 g4 h4
  have hy4:=g4 _ _ hy
  clear hy
  walk_at "r2"
  refine cQ ?_
  simp only [gQ]
  walk_at "r2"
  refine⟨⟨_,SqL.of hy4⟩,wY hy4 (ry3.mono λa u e=>g4 _ _ (tQ a u e)) (by lia) λD5 H5 hD5 g5 h5=>?_⟩
  have hy5:=g5 _ _ hy4
  have h45:=g5 _ _ h4
  clear hy4 h4
  walk_at "r2"
  refine⟨by rw [length_map,length_map];lia,λp6 H6 hp6 g6 h6=>?_⟩
  have hy6:=g6 _ _ hy5
  clear hy5 h45
  have wj:JoinOk (Str.ofString " ") (Str.ofString "start"::nm::es.map (·.1))=true:=by
   refine PyProof.Rows.joinOk_of_weight ?_ (by decide +kernel)
   have e5:(Str.ofString "start").length=5:=by decide +kernel
   have:=Ef ge
   rw [map_cons,map_cons,sum_cons,sum_cons,length_cons,length_cons,length_map,e5]
   lia
  have h6':H6 p6=some (.lst ((Str.ofString "start"::nm::es.map (·.1)).map V.str)):=h6
  refine⟨_,_,_,rfl,rfl,h6',wj,?_⟩
  clear wj h6 h6'
  walk_at "r2"
  refine cQ ?_
  simp only [gQ]
  walk_at "r2"
  have g26:=g3.trans (g4.trans (g5.trans g6))
  refine⟨⟨_,SqL.of hy6⟩,wZ (HB:=kp em H2 H3) (λa u e=>g6 _ _ (g5 _ _ (g4 _ _ (tQ a u e)))) hy6 ry3 (by lia) λD7 H7 vs hD7 g7 h7 r7=>?_⟩
  walk_at "r2"
  intro t H8 ht g8 h8
  walk_at "r2"
  intro p9 H9 hp9 g9 h9
  have g29:=g26.trans (g7.trans (g8.trans g9))
  have n6:∀{a},H6 a=none->H a=none:=λh=>g12.free (g26.free h)
  have r9:RpL K (kp em H H9) vs (es.map λe=>e.2.toD):=r7.mono (eP g12 (g4.trans (g5.trans (g6.trans (g7.trans (g8.trans g9))))))
  refine q p9 t H9 _ (.st k nm (es.map λe=>e.2.toD)) (n6 (g7.free (g8.free hp9))) (g12.trans g29) h9 (by unfold smD;exact .tup (aT (n6 (g7.free ht)) (g9 _ _ h8)) (.cons (.str _) (.cons (.int _) (.cons (.str _) (.cons (.lst (aT (n6 hD7) (g9 _ _ (g8 _ _ h7))) r9) .nil))))) ?_ (.st (by rw [lH];exact vC nk le3 λe he=>(ge e he).1))
  simp only [bw]
  exact⟨no,(λd hd=>by obtain⟨e,he,rfl⟩:=List.mem_map.mp hd;exact⟨(ge e he).2,_,rfl⟩),by rw [length_map];lia⟩
end
section
variable{P:Program}{w:World}{K:PySem.W.Frag}{mg:Str->Option Value}{base:Heap}
def GnP(hd k m:Int)(i:Nat)(ys:List V)(σ1:St)(H':Hp):Prop:=∃ns:List Int,ys=ns.map V.int/\(∀n∈ns,0<=n/\n<1000)/\ns.length=i/\∃v0,σ1= [v0,some (.int hd),some (.int k),some (.int m)]
def nS(n:Int):Str:=Str.ofString (toString n)
def GsP(ns:List Int)(i:Nat)(ys:List V)(σ1:St)(H':Hp):Prop:=ys=((ns.take i).map nS).map V.str/\∃v0,σ1= [v0]
theorem qx{K:PySem.W.Frag}{H:Hp}(l:List Int):RpL K H (l.map V.int) (l.map .int):=by
 induction l with
 | nil=>exact .nil
 | cons x l ih=>exact .cons (.int _) ih
theorem Cb{ns:List Int}(h:∀n∈ns,0<=n/\n<1000):∃ms:List Nat,ns=ms.map (λn:Nat=>(n:Int))/\ns.map nS=ms.map fj/\∀n∈ms,n<1000:=by
 induction ns with
 | nil=>exact⟨[],rfl,rfl,λn h=>absurd h not_mem_nil⟩
 | cons n ns ih=>
  obtain⟨ms,e1,e2,e3⟩:=ih λx hx=>h x (mem_cons_of_mem _ hx)
  obtain⟨h0,h1⟩:=h n (mem_cons_self ..)
  obtain⟨k,rfl⟩:=eq_ofNat_of_zero_le h0
  refine⟨k::ms,by rw [e1];rfl,by rw [map_cons,e2];rfl,λx hx=>?_⟩
  rcases List.mem_cons.mp hx with rfl | hx
  ·lia
  ·exact e3 x hx
theorem Eg{ns:List Int}(h:∀n∈ns,0<=n/\n<1000):((ns.map nS).map (·.length)).sum<=6*ns.length:=by
 obtain⟨ms,e1,e2,e3⟩:=Cb h
 rw [e2,e1,length_map]
 clear e1 e2 h
 induction ms with
 | nil=>exact le_refl _
 | cons n ms ih=>
  have a:=(cZ (k:=n) (by have:=e3 n (mem_cons_self ..);lia)).2
  have b:=ih λx hx=>e3 x (mem_cons_of_mem _ hx)
  rw [map_cons,map_cons,sum_cons,length_cons]
  have:(fj n).length<=6:=a
  lia
inductive GoR (row nm:Str):Nat->List PyData->Prop
 | tool {n:Int}:Rw row "tool" [.str nm,.int n]->1<=n->n<=9->GoR row nm 0 [.int n]
 | store {a b:Int}:Rw row "store" [.str nm,.int a,.int b]->a<=b->1<=b->b<=999->GoR row nm 1 [.int a,.int b]
 | row {ns:List Int}:Rw row "row" (.str nm::ns.map .int)->ns≠[]->ns.length<=20->(∀n∈ns,n<=999)->GoR row nm 2 [.list (ns.map .int)]
def Cc(K:PySem.W.Frag):Sp:=λvs H Q _=>∃(hd k:Int) (nm:Str),vs= [.int hd,.int k,.str nm]/\0<=k/\k<=5/\Nok nm/\∀(p t:Addr) (H':Hp) (x:Str) (pl:Nat) (r:List PyData),H p=none->Same H H'->H' p=some (.lst [.str x,.int pl,.ref t])->(pl=2↔bY hd (520+k)%3=2)->Rp K (kp em H H') (.ref t) (bM (nm,r))->DG 5 (bM (nm,r))->GoR x nm pl r->Q (.ref p) H'
theorem Dz(D:DefAt K mg "_law_good" jc ["head","k","name"])(hrange:mg "range" =none)(hstr:mg "str" =none)(G__law_stir:OkD P w K mg base 1 "_law_stir" ["cell","k"] dC):OkD P w K mg base 2 "_law_good" ["head","k","name"] (Cc K):=by
 refine D.ok sc__law_good (λvs H Q E h=>?_) (λf cdv A outer s H vs Q E hr h=>?_)
 ·obtain⟨_,_,_,rfl,_⟩:=h;rfl
 obtain⟨hd,k,nm,rfl,k0,k1,⟨no,nl,nk⟩,q⟩:=h
 have big:100000<=sizeLine:=by unfold sizeLine;decide
 refine⟨_,(af (ai (i:=3) sc__law_good.nd rfl (Or.inr rfl) (aA G__law_stir hr rfl (aa (pv 0) (aa (ag aM ae (pv 1)) ad))))
 (af (ai (i:=4) sc__law_good.nd rfl (Or.inl rfl) (aA G__law_stir hr rfl (aa (pv 0) (aa (ag aM ae (pv 1)) ad))))
 (af (aB (aj aJ (ag aI (pv 3) ae) ae (ap _))
 (af (ai (i:=5) sc__law_good.nd rfl (Or.inl rfl) (ag aM ae (ag aI (pv 4) ae)))
 (ah (ax (ak (aa (ag aq (ag aq (ag aq ac (pv 2)) ac) (dL fz rfl hstr (by decide +kernel) (aa (pv 5) ad))) (aa ae (aa (az (aa (pv 2) (aa (pv 5) ad))) ad)))))))
 ay)
 (af (aB (aj aJ (ag aI (pv 3) ae) ae (ap _))
 (af (ai (i:=6) sc__law_good.nd rfl (Or.inl rfl) (ao av (ak (aa ae (aa ae (aa (ag aM ae (ag aI (pv 4) ae)) (aa (ag aM ae (ag aI (pv 4) ae)) ad))))) (ag aI (ag bG (pv 3) ae) ae) (λ_ _=>rfl)))
 (af (ai (i:=7) sc__law_good.nd rfl (Or.inl rfl) (ao av (ak (aa ae (aa (pv 6) (aa (ag aI (ag bG (pv 4) ae) (ag aM (pv 6) ae)) ad)))) (ag aI (ag bG (pv 3) ae) ae) (λ_ _=>rfl)))
 (ah (ax (ak (aa (ag aq (ag aq (ag aq (ag aq (ag aq ac (pv 2)) ac) (dL fz rfl hstr (by decide +kernel) (aa (pv 7) ad))) ac) (dL fz rfl hstr (by decide +kernel) (aa (pv 6) ad))) (aa ae (aa (az (aa (pv 2) (aa (pv 7) (aa (pv 6) ad)))) ad))))))))
 ay)
 (af (lj (i:=8) sc__law_good.nd rfl (Or.inl rfl) (bL 1 (N:=["j","head","k","number"]) (cap:=[0,1,3]) rfl rfl rfl rfl (by decide +kernel) rfl rfl rfl) rfl (dP rfl hrange (aa (ag aM ae (ag aI (pv 4) ae)) ad)) (λ_ _ _ _=>(aw (i:=0) (show List.Nodup (α:=Str) ["j","head","k","number"] by decide +kernel) rfl (Or.inl (lookup_relabel_local rfl)) (Or.inr (lookup_relabel_local rfl)))) (λ_ _ _ _=>dB) (λ_ _ _ _=>(ag aI (aA G__law_stir hr rfl (aa (pv 1) (aa (ag aM (ag aM ae (ag dh ae (pv 2))) (pv 0)) ad))) (ao av (ak (aa ae (aa ae (aa ae ad)))) (ag aI (ag bG (pv 3) ae) ae) (λ_ _=>rfl)))))
 (ah (ax (ak (aa (gY ac (ag aV (ak (aa ac (aa (pv 2) ad))) (eZ (bL 1 (N:=["one"]) (cap:=[]) rfl rfl rfl rfl (by decide +kernel) rfl rfl rfl) rfl (fk (pv 8)) (λ_ _ _ _=>(aw (i:=0) (show List.Nodup (α:=Str) ["one"] by decide +kernel) rfl (Or.inl (lookup_relabel_local rfl)) (Or.inr (lookup_relabel_local rfl)))) (λ_ _ _ _=>dB) (λ_ _ _ _=>(dL fz rfl hstr (by decide +kernel) (aa (pv 0) ad)))))) (aa ae (aa (az (aa (pv 2) (aa (pv 8) ad))) ad))))))))))),?_⟩
 walk_at "r2"
 refine⟨_,_,rfl,by lia,by lia,λm e0 m0 m1=>?_⟩
 have em0:PLift (bY hd (520+k)%3=m%3):=⟨by rw [e0]⟩
 clear e0
 walk_at "r2"
 refine⟨_,_,rfl,by lia,by lia,λfar e0 f0 f1=>?_⟩
 clear e0
 have sl:=bC
 walk_at "r2"
 refine aY (λc1=>?_) λc1=>?_
 ·have nlg:=jC (n:=1+far%9) (by lia) (by lia)
  obtain⟨cn,ecn⟩:=eq_ofNat_of_zero_le (show 0<=1+far%9 by lia)
  have ec:=PLift.up ecn
  have nln:(Str.ofString (toString (1+far%9))).length<=6:=by rw [ecn];exact(cZ (by lia)).2
  have cn9:1<=cn/\cn<=9:=by lia
  clear ecn
  have q2:(Str.ofString " ").length=1:=by decide +kernel
  have q3:(Str.ofString "tool ").length=5:=by decide +kernel
  walk_at "r2"
  refine⟨by lia,?_⟩
  walk_at "r2"
  refine⟨by lia,?_⟩
  walk_at "r2"
  refine⟨by lia,?_⟩
  walk_at "r2"
  intro t H1 ht g1 h1
  walk_at "r2"
  intro p2 H2 hp2 g2 h2
  exact q p2 t H2 _ 0 [.int (1+far%9)] (g1.free hp2) (g1.trans g2) h2 (by rw [em0.down,c1];decide) (.tup (aT ht (g2 _ _ h1)) (.cons (.str _) (.cons (.int _) .nil))) (dg_tup (n:=4) (all_cons (dg_str no) (all_cons dg_int all_nil)) (by simp)) (.tool (by rw [ec.down,tT (x:="tool") (by decide +kernel)];exact wT nk (by lia)) (by lia) (by lia))
 walk_at "r2"
 refine aY (λc2=>?_) λc2=>?_
 ·walk_at "r2"
  intro l1 H1 hl1 g1 h1
  obtain⟨mv,hmv,mmv,_⟩:=eU (xs:=[V.int 1,V.int 999,V.int (1+far%9),V.int (1+far%999)]) (i:=m/3%4) (by lia) (by simp only [length_cons,length_nil];lia)
  obtain⟨ms,rfl,ms1,ms2⟩:∃ms:Int,mv= .int ms/\1<=ms/\ms<=999:=by
   simp only [mem_cons,not_mem_nil,or_false] at mmv
   rcases mmv with rfl | rfl | rfl | rfl<;>exact⟨_,rfl,by lia,by lia⟩
  walk_at "r2"
  have fe0:=emod_nonneg (far/1000) (show ms+1≠0 by lia)
  have fe1:=emod_lt_of_pos (far/1000) (show 0<ms+1 by lia)
  refine⟨by lia,?_⟩
  walk_at "r2"
  intro l2 H2 hl2 g2 h2
  have h2':H2 l2=some (.lst [V.int 0,V.int ms,V.int (far/1000%(ms+1))]):=h2
  clear h2
  generalize far/1000%(ms+1)=fe at fe0 fe1 h2'
  obtain⟨fv,hfv,mfv,_⟩:=eU (xs:=[V.int 0,V.int ms,V.int fe]) (i:=m/12%3) (by lia) (by simp only [length_cons,length_nil];lia)
  obtain⟨fs,rfl,fs1,fs2⟩:∃fs:Int,fv= .int fs/\0<=fs/\fs<=ms:=by
   simp only [mem_cons,not_mem_nil,or_false] at mfv
   rcases mfv with rfl | rfl | rfl<;>exact⟨_,rfl,by lia,by lia⟩
  obtain⟨fn,rfl⟩:=eq_ofNat_of_zero_le fs1
  have nlg:=jC (n:=(fn:Int)) (by lia) (by lia)
  obtain⟨mn,rfl⟩:=eq_ofNat_of_zero_le (show 0<=ms by lia)
  have nln:=(cZ (k:=fn) (by lia)).2
  have nlg':=jC (n:=(mn:Int)) (by lia) (by lia)
  have nln':=(cZ (k:=mn) (by lia)).2
  have q2:(Str.ofString " ").length=1:=by decide +kernel
  have q3:(Str.ofString "store ").length=6:=by decide +kernel
  walk_at "r2"
  refine⟨by lia,?_⟩
  walk_at "r2"
  refine⟨by lia,?_⟩
  walk_at "r2"
  refine⟨by lia,?_⟩
  walk_at "r2"
  refine⟨by lia,?_⟩
  walk_at "r2"
  refine⟨by lia,?_⟩
  walk_at "r2"
  intro t H3 ht g3 h3
  walk_at "r2"
  intro p4 H4 hp4 g4 h4
  have g12:=g1.trans g2
  exact q p4 t H4 _ 1 [.int fn,.int mn] (g12.free (g3.free hp4)) (g12.trans (g3.trans g4)) h4 (by rw [em0.down,c2];decide) (.tup (aT (g12.free ht) (g4 _ _ h3)) (.cons (.str _) (.cons (.int _) (.cons (.int _) .nil)))) (dg_tup (n:=4) (all_cons (dg_str no) (all_cons dg_int (all_cons dg_int all_nil))) (by simp)) (.store (by rw [tU (x:="store") (by decide +kernel)];exact vB nk (by lia) (by lia)) (by lia) (by lia) (by lia))
 walk_at "r2"
 obtain⟨nn,enn,hn,hn1⟩:∃nn:Nat,1+far%20=(nn:Int)/\nn<=20/\1<=nn:=⟨(1+far%20).toNat,by lia,by lia,by lia⟩
 refine cQ ?_
 simp only [iH]
 walk_at "r2"
 refine⟨by lia,by lia,gy (by lia) (GnP hd k m) (λH' _=>⟨[],rfl,λn h=>absurd h not_mem_nil,rfl,_,rfl⟩) ?_ ?_⟩
 ·rintro D j ys σ1 H1 hj at1 ⟨ns,rfl,hns,ln,v0,rfl⟩
  have hj20:j<20:=by lia
  walk_at "r2"
  refine⟨_,_,rfl,by lia,by lia,λm' e0 m0' m1'=>?_⟩
  clear e0
  intro l1 H2 hl1 g1 h1
  obtain⟨cv,hcv,mcv,_⟩:=eU (xs:=[V.int 10,V.int 1000,V.int 1]) (i:=m/3%3) (by lia) (by simp only [length_cons,length_nil];lia)
  obtain⟨cc,rfl,cc1,cc2⟩:∃cc:Int,cv= .int cc/\0<cc/\cc<=1000:=by
   simp only [mem_cons,not_mem_nil,or_false] at mcv
   rcases mcv with rfl | rfl | rfl<;>exact⟨_,rfl,by decide,by decide⟩
  have ce0:=emod_nonneg m' (show cc≠0 by lia)
  have ce1:=emod_lt_of_pos m' cc1
  walk_at "r2"
  refine at1.put g1 λH5 mu=>⟨ns++[m'%cc],by rw [map_append];rfl,λn hn=>?_,by rw [length_append,ln];rfl,_,rfl⟩
  rcases List.mem_append.mp hn with z | z
  ·exact hns n z
  ·rw [List.mem_singleton.mp z];exact⟨ce0,by lia⟩
 ·rintro D ys σ1 H1 hD g1 hy hle ⟨ns,rfl,hns,ln,v0,rfl⟩
  have ln20:ns.length<=20:=by lia
  have ln1:1<=ns.length:=by lia
  clear ln
  walk_at "r2"
  intro p4 H4 hp4 g4 h4
  have hy4:=g4 _ _ hy
  clear hy
  walk_at "r2"
  refine cQ ?_
  simp only [gQ]
  walk_at "r2"
  refine⟨⟨_,SqL.of hy4⟩,fC hy4 (by rw [length_map];lia) (GsP ns) (λH' _=>⟨rfl,_,rfl⟩) ?_ ?_⟩
  ·rintro D5 j v ys σ1 H5 hx at1 ⟨rfl,v0,rfl⟩
   rw [getElem?_map] at hx
   obtain⟨n,hn',rfl⟩:=Option.map_eq_some_iff.mp hx
   obtain⟨n0,n1⟩:=hns n (mem_of_getElem? hn')
   have nlg:=jC n0 (by lia)
   clear hy4 h4
   walk_at "r2"
   refine at1.put (Same.refl _) λH6 mu=>⟨?_,_,rfl⟩
   rw [du hn',map_append,map_append]
   rfl
  ·rintro D5 ys σ1 H5 hD5 g5 hy5 _ ⟨rfl,v0,rfl⟩
   rw [length_map,take_of_length_le (le_refl _)] at hy5
   have hww:=Eg hns
   obtain⟨ms,ems,emw,hms⟩:=Cb hns
   have lms:ms.length=ns.length:=by rw [ems,length_map]
   have emsP:=PLift.up ems
   have lws:(ns.map nS).length=ns.length:=length_map ..
   generalize ns.map nS=ws at hy5 emw hww lws
   have emwP:=PLift.up emw
   clear emw ems
   have h45:=g5 _ _ h4
   have hyD:=g5 _ _ hy4
   clear h4 hy4
   refine⟨_,rfl,_,_,h45,hy5,by rw [length_map];show 2+_<=sizeLine;lia,λp6 H6 hp6 g6 h6=>?_⟩
   have hyD6:=g6 _ _ hyD
   have wj:JoinOk (Str.ofString " ") (Str.ofString "row"::nm::ws)=true:=by
    refine PyProof.Rows.joinOk_of_weight ?_ (by decide +kernel)
    have e5:(Str.ofString "row").length=3:=by decide +kernel
    rw [map_cons,map_cons,sum_cons,sum_cons,length_cons,length_cons,e5]
    lia
   have h6':H6 p6=some (.lst ((Str.ofString "row"::nm::ws).map V.str)):=h6
   clear h6 h45 hy5 hyD
   walk_at "r2"
   refine⟨Str.ofString "row"::nm::ws,rfl,wj,?_⟩
   clear wj h6'
   walk_at "r2"
   intro t H7 ht g7 h7
   walk_at "r2"
   intro p8 H8 hp8 g8 h8
   have g16:=g1.trans (g4.trans (g5.trans g6))
   have g68:=g7.trans g8
   refine q p8 t H8 _ 2 [.list (ns.map .int)] (g16.free (g7.free hp8)) (g16.trans g68) h8 (by rw [em0.down];lia) (.tup (aT (g16.free ht) (g8 _ _ h7)) (.cons (.str _) (.cons (.lst (aT hD (g68 _ _ hyD6)) (qx ns)) .nil))) ?_ ?_
   ·exact dg_tup (n:=4) (all_cons (dg_str no) (all_cons (eE (n:=3) (jB λx hx=>dg_int) (by rw [length_map];lia)) all_nil)) (by simp)
   ·refine .row ?_ (λz=>by rw [z] at ln1;simp at ln1) ln20 λn hn=>by have:=(hns n hn).2;lia
    rw [lH,emwP.down,emsP.down,map_map]
    exact yV nk (by lia) (by lia) λn hn=>by have:=hms n hn;lia
end
section
variable{P:Program}{w:World}{K:PySem.W.Frag}{mg:Str->Option Value}{base:Heap}
structure NmG(nl:List Str)(s0:Int)(t s r:List (Str×List PyData)):Prop where
 g:∀x∈t.map (·.1)++s.map (·.1),x∈nl.take (t.length+s.length)
 r:∀x∈r.map (·.1),∃i:Nat,i<r.length/\nl[((s0+(i:Int))%5).toNat]? =some x
theorem NmG.newG{nl:List Str}{s0:Int}{t s r:List (Str×List PyData)}(h:NmG nl s0 t s r)(nd:nl.Nodup){nm:Str}(hn:nl[t.length+s.length]? =some nm):nm∉t.map (·.1)++s.map (·.1):=λm=>by
 obtain⟨j,hj,e⟩:=List.mem_iff_getElem.mp (h.g nm m)
 rw [length_take] at hj
 rw [List.getElem_take] at e
 have:=(getElem?_inj (i:=j) (j:=t.length+s.length) (by lia) nd).mp (by rw [hn,getElem?_eq_getElem (by lia),e])
 lia
theorem NmG.newR{nl:List Str}{s0:Int}{t s r:List (Str×List PyData)}(h:NmG nl s0 t s r)(nd:nl.Nodup)(h0:0<=s0)(ln:nl.length=5)(lr:r.length<=4){nm:Str}(hn:nl[((s0+(r.length:Int))%5).toNat]? =some nm):nm∉r.map (·.1):=λm=>by
 obtain⟨i,hi,e⟩:=h.r nm m
 have:=(getElem?_inj (i:=((s0+(i:Int))%5).toNat) (j:=((s0+(r.length:Int))%5).toNat) (by lia) nd).mp (e.trans hn.symm)
 lia
theorem iQ{nl:List Str}{n:Nat}{x:Str}(h:x∈nl.take n):x∈nl.take (n+1):=by
 rw [List.take_succ];exact mem_append_left _ h
theorem qy{nl:List Str}{n:Nat}{x:Str}(h:nl[n]? =some x):x∈nl.take (n+1):=by
 rw [du h];simp
theorem NmG.t{nl:List Str}{s0:Int}{t s r:List (Str×List PyData)}(h:NmG nl s0 t s r){nm:Str}{d:List PyData}(hn:nl[t.length+s.length]? =some nm):NmG nl s0 (t++[(nm,d)]) s r:=⟨λx hx=>by
 rw [length_append,length_singleton,show t.length+1+s.length=t.length+s.length+1 by lia]
 simp only [map_append,map_cons,map_nil,mem_append,mem_singleton] at hx
 rcases hx with (hx | rfl) | hx
 ·exact iQ (h.g x (mem_append_left _ hx))
 ·exact qy hn
 ·exact iQ (h.g x (mem_append_right _ hx)),h.r⟩
theorem NmG.s{nl:List Str}{s0:Int}{t s r:List (Str×List PyData)}(h:NmG nl s0 t s r){nm:Str}{d:List PyData}(hn:nl[t.length+s.length]? =some nm):NmG nl s0 t (s++[(nm,d)]) r:=⟨λx hx=>by
 rw [length_append,length_singleton,<-Nat.add_assoc]
 simp only [map_append,map_cons,map_nil,mem_append,mem_singleton] at hx
 rcases hx with hx | hx | rfl
 ·exact iQ (h.g x (mem_append_left _ hx))
 ·exact iQ (h.g x (mem_append_right _ hx))
 ·exact qy hn,h.r⟩
theorem NmG.u{nl:List Str}{s0:Int}{t s r:List (Str×List PyData)}(h:NmG nl s0 t s r){nm:Str}{d:List PyData}(hn:nl[((s0+(r.length:Int))%5).toNat]? =some nm):NmG nl s0 t s (r++[(nm,d)]):=⟨h.g,λx hx=>by
 simp only [map_append,map_cons,map_nil,mem_append,mem_singleton] at hx
 rw [length_append,length_singleton]
 rcases hx with hx | rfl
 ·obtain⟨i,hi,e⟩:=h.r x hx
  exact⟨i,by lia,e⟩
 ·exact⟨r.length,by lia,hn⟩⟩
structure GoS(K:PySem.W.Frag)(H F:Hp)(nl:List Str)(s0:Int)(rw a b c:Addr)(i:Nat)(H':Hp):Prop where
 same:Same F H'
 ex:∃(ts:List Str) (ta sa ra:List V) (t s r:List (Str×List PyData)),H' rw=some (.lst (ts.map V.str))/\ts.length=i/\H' a=some (.lst ta)/\H' b=some (.lst sa)/\H' c=some (.lst ra)/\
  RpL K (out [rw,a,b,c] (kp em H H')) ta (t.map bM)/\RpL K (out [rw,a,b,c] (kp em H H')) sa (s.map bM)/\RpL K (out [rw,a,b,c] (kp em H H')) ra (r.map bM)/\(∀o∈t++(s++r),DG 5 (bM o))/\t.length+s.length+r.length=i/\Reach ts ⟨t,s,r,[],[]⟩/\NmG nl s0 t s r
def GoI(K:PySem.W.Frag)(H F:Hp)(nl:List Str)(s0:Int)(rw a b c:Addr)(σ0:St)(i:Nat)(σ:St)(H':Hp):Prop:=GoS K H F nl s0 rw a b c i H'/\∃v4 v5 v6 v7 v8,σ=σ0++[v4,v5,v6,v7,v8]
def Cd(K:PySem.W.Frag):Sp:=λvs H Q _=>∃hd:Int,vs= [.int hd]/\∀(p rw pt:Addr) (H':Hp) (ts:List Str) (t s r:List (Str×List PyData)),Same H H'->H p=none->H' p=some (.lst [.ref rw,.ref pt])->H rw=none->H' rw=some (.lst (ts.map V.str))->ts.length<=5->
 Rp K (cg rw (kp em H H')) (.ref pt) (.tuple [.list (t.map bM),.list (s.map bM),.list (r.map bM)])->(∀o∈t++(s++r),DG 5 (bM o))->t.length+s.length+r.length<=5->Reach ts ⟨t,s,r,[],[]⟩->Q (.ref p) H'
theorem DA(D:DefAt K mg "_law_goods" iw ["head"])(hrange:mg "range" =none)(hlen:mg "len" =none)(G__law_stir:OkD P w K mg base 1 "_law_stir" ["cell","k"] dC)(G__law_names:OkD P w K mg base 2 "_law_names" ["head","k","many"] (wS aP))(G__law_good:OkD P w K mg base 2 "_law_good" ["head","k","name"] (Cc K)):OkD P w K mg base 3 "_law_goods" ["head"] (Cd K):=by
 refine D.ok sc__law_goods (λvs H Q E h=>?_) (λf cdv A outer s H vs Q E hr h=>?_)
 ·obtain⟨_,rfl,_⟩:=h;rfl
 obtain⟨hd,rfl,q⟩:=h
 have big:100000<=sizeLine:=by unfold sizeLine;decide
 refine⟨_,(af (ai (i:=1) sc__law_goods.nd rfl (Or.inl rfl) (ak ad))
 (af (ai (i:=2) sc__law_goods.nd rfl (Or.inl rfl) (az (aa (ak ad) (aa (ak ad) (aa (ak ad) ad)))))
 (af (ai (i:=3) sc__law_goods.nd rfl (Or.inl rfl) (aA G__law_names hr rfl (aa (pv 0) (aa ae (aa ae ad)))))
 (af (hZ PassesOwn.never rfl (dP rfl hrange (aa (ag aI (aA G__law_stir hr rfl (aa (pv 0) (aa ae ad))) ae) ad)) (aw (i:=4) sc__law_goods.nd rfl (Or.inl rfl))
 (af (ai (i:=5) sc__law_goods.nd rfl (Or.inl rfl) (ao av (pv 3) (ag aM (aN aQ rfl hlen PySem.boot_len (aa (ao av (pv 2) ae (λ_ _=>rfl)) ad)) (aN aQ rfl hlen PySem.boot_len (aa (ao av (pv 2) ae (λ_ _=>rfl)) ad))) (λ_ _=>rfl)))
 (af (cL (aB (aj aJ (ag aI (aA G__law_stir hr rfl (aa (pv 0) (aa (ag aM ae (pv 4)) ad))) ae) ae (ap _))
 (ah (ai (i:=5) sc__law_goods.nd rfl (Or.inl rfl) (ao av (pv 3) (ag aI (ag aM (aA G__law_stir hr rfl (aa (pv 0) (aa ae ad))) (aN aQ rfl hlen PySem.boot_len (aa (ao av (pv 2) ae (λ_ _=>rfl)) ad))) ae) (λ_ _=>rfl))))
 ay))
 (af (bQ (aA G__law_good hr rfl (aa (pv 0) (aa (pv 4) (aa (pv 5) ad)))) (gZ 3 rfl (aD (aw (i:=6) sc__law_goods.nd rfl (Or.inl rfl)) (aD (aw (i:=7) sc__law_goods.nd rfl (Or.inl rfl)) (aD (aw (i:=8) sc__law_goods.nd rfl (Or.inl rfl)) bO)))))
 (af (aS (bp (pv 1) (pv 6)))
 (ah (aS (bp (ao av (pv 2) (pv 7) (λ_ _=>rfl)) (pv 8)))))))))
 (ah (ax (ak (aa (pv 1) (aa (pv 2) ad))))))))),?_⟩
 walk_at "r2"
 intro rw H1 hrw g1 h1
 walk_at "r2"
 intro a H2 ha g2 h2
 walk_at "r2"
 intro b H3 hb g3 h3
 walk_at "r2"
 intro c H4 hc g4 h4
 walk_at "r2"
 intro pt H5 hpt g5 h5
 walk_at "r2"
 refine⟨hd,400,5,rfl,by decide,by decide,by decide,λnl H6 hnl g6 h6=>?_⟩
 walk_at "r2"
 refine jm ?_
 simp only [iH]
 walk_at "r2"
 refine⟨_,_,rfl,by decide,by decide,λm e0 m0 m1=>?_⟩
 clear e0
 obtain⟨nn,enn,hn⟩:∃nn:Nat,m%6=(nn:Int)/\nn<=5:=⟨(m%6).toNat,by lia,by lia⟩
 walk_at "r2"
 have z1:=g6 _ _ (g5 _ _ (g4 _ _ (g3 _ _ (g2 _ _ h1))))
 have z2:=g6 _ _ (g5 _ _ (g4 _ _ (g3 _ _ h2)))
 have z3:=g6 _ _ (g5 _ _ (g4 _ _ h3))
 have z4:=g6 _ _ (g5 _ _ h4)
 have z5:=g6 _ _ h5
 have n12:rw≠a:=λz=>by rw [z] at h1;rw [h1] at ha;cases ha
 have n13:rw≠b:=λz=>by rw [z] at h1;rw [g2 _ _ h1] at hb;cases hb
 have n14:rw≠c:=λz=>by rw [z] at h1;rw [g3 _ _ (g2 _ _ h1)] at hc;cases hc
 have n23:a≠b:=λz=>by rw [z] at h2;rw [h2] at hb;cases hb
 have n24:a≠c:=λz=>by rw [z] at h2;rw [g3 _ _ h2] at hc;cases hc
 have n34:b≠c:=λz=>by rw [z] at h3;rw [h3] at hc;cases hc
 have npt:pt∉[rw,a,b,c]:=λz=>by
  simp only [mem_cons,not_mem_nil,or_false] at z
  rcases z with rfl | rfl | rfl | rfl<;>simp_all
 have nnl:nl∉[rw,a,b,c]:=λz=>by
  simp only [mem_cons,not_mem_nil,or_false] at z
  have:H6 nl≠none:=by rw [h6];simp
  rcases z with rfl | rfl | rfl | rfl
  ·rw [g5 _ _ (g4 _ _ (g3 _ _ (g2 _ _ h1)))] at hnl;cases hnl
  ·rw [g5 _ _ (g4 _ _ (g3 _ _ h2))] at hnl;cases hnl
  ·rw [g5 _ _ (g4 _ _ h3)] at hnl;cases hnl
  ·rw [g5 _ _ h4] at hnl;cases hnl
 have aH:=g1.free ha
 have bH:=g1.free (g2.free hb)
 have cH:=g1.free (g2.free (g3.free hc))
 have ptH:=g1.free (g2.free (g3.free (g4.free hpt)))
 have g06:=g1.trans (g2.trans (g3.trans (g4.trans (g5.trans g6))))
 obtain⟨F,hF⟩:∃F,F=out [rw,a,b,c] H6:=⟨_,rfl⟩
 have sF:Same F H6:=by rw [hF];exact cI
 have hpF:F pt=some (.tup [.ref a,.ref b,.ref c]):=by rw [hF];exact aL npt z5
 have hnF:F nl=some (.lst ((aP hd 400 5).map V.str)):=by rw [hF];exact aL nnl h6
 have sHF:Same H F:=λx u e=>by
  rw [hF]
  refine aL (λz=>?_) (g06 _ _ e)
  simp only [mem_cons,not_mem_nil,or_false] at z
  rcases z with rfl | rfl | rfl | rfl
  ·rw [hrw] at e;cases e
  ·rw [aH] at e;cases e
  ·rw [bH] at e;cases e
  ·rw [cH] at e;cases e
 have nF:∀x u,F x=some u->x∉[rw,a,b,c]:=λx u e=>by rw [hF] at e;exact(bK e).1
 clear h1 h2 h3 h4 h5 h6 hF
 refine⟨by lia,by lia,nv (GoI K H F (aP hd 400 5) (bY hd 509) rw a b c [some (V.int hd),some (V.ref rw),some (V.ref pt),some (V.ref nl)]) ⟨⟨sF,[],[],[],[],[],[],[],z1,rfl,z2,z3,z4,.nil,.nil,.nil,λo h=>absurd h (by simp),rfl,.nil,⟨λx h=>absurd h (by simp),λx h=>absurd h (by simp)⟩⟩,_,_,_,_,_,rfl⟩ ?_ ?_⟩
 ·intro i σ H7 hi z
  obtain⟨⟨g7,ts,ta,sa,ra,t,s,r,y1,lr,y2,y3,y4,r2,r3,r4,dg,ls,rc,ng⟩,v4,v5,v6,v7,v8,rfl⟩:=z
  have nd5:=(iC hd 400 5 (by decide)).2
  have ln5:=dG hd 400 5
  have y5:=g7 _ _ hpF
  have y6:=g7 _ _ hnF
  have lta:=r2.len
  have lsa:=r3.len
  have lra:=r4.len
  rw [length_map] at lta lsa lra
  have pick5:∀j:Int,0<=j->j<5->∃nm,atI ((aP hd 400 5).map V.str) j=some (.str nm)/\Nok nm/\(aP hd 400 5)[j.toNat]? =some nm:=λj j0 j5=>by
   obtain⟨v,hv,mv,hg⟩:=eU (xs:=(aP hd 400 5).map V.str) (i:=j) j0 (by rw [length_map,dG];exact j5)
   rw [getElem?_map] at hg
   obtain⟨nm,mn,rfl⟩:=Option.map_eq_some_iff.mp hg
   exact⟨nm,hv,(iC hd 400 5 (by decide)).1 nm (mem_of_getElem? mn),mn⟩
  obtain⟨nm,hnm,nmk,inm⟩:=pick5 ((ta.length:Int)+(sa.length:Int)) (by lia) (by lia)
  have inm':PLift ((aP hd 400 5)[t.length+s.length]? =some nm):=⟨by rw [<-inm];congr 1;lia⟩
  have elr:=PLift.up lra
  clear inm
  simp only [cons_append,nil_append]
  refine Dh rfl ?_
  have c2:ta.length+sa.length<=4:=by lia
  clear lta lsa ln5
  have yts:ts.length<=5:=by lia
  walk_at "r2"
  refine⟨λσ' H'=>H'=H7/\∃nm,Nok nm/\((bY hd (520+(i:Int))%3=2/\(aP hd 400 5)[((bY hd 509+(r.length:Int))%5).toNat]? =some nm)\/(bY hd (520+(i:Int))%3≠2/\(aP hd 400 5)[t.length+s.length]? =some nm))/\σ'= [some (V.int hd),some (V.ref rw),some (V.ref pt),some (V.ref nl),some (V.int (0+(i:Int))),some (V.str nm),v6,v7,v8],?_,?_⟩
  ·refine⟨_,_,rfl,by lia,by lia,λm2 e0 m20 m21=>?_⟩
   have e0':PLift (m2=bY hd (520+(i:Int))):=⟨by rw [e0];congr 1;lia⟩
   clear e0
   walk_at "r2"
   refine aY (λc1=>?_) λc1=>?_
   ·walk_at "r2"
    refine⟨_,_,rfl,by decide,by decide,λm3 e0 m30 m31=>?_⟩
    have e3:=PLift.up e0
    clear e0
    obtain⟨nm2,hnm2,nmk2,inm2⟩:=pick5 ((m3+(ra.length:Int))%5) (by lia) (by lia)
    have inm2':=PLift.up inm2
    clear lra inm2
    walk_at "r2"
    exact⟨_,nmk2,.inl ⟨by rw [<-e0'.down];exact c1,by rw [<-e3.down,<-elr.down];exact inm2'.down⟩,rfl⟩
   ·exact⟨rfl,nm,nmk,.inr ⟨by rw [<-e0'.down];exact c1,inm'.down⟩,rfl⟩
  rintro σ' H8 ⟨rfl,nm,nmk,whc,rfl⟩
  have whc:=PLift.up whc
  clear hnm inm'
  walk_at "r2"
  refine⟨hd,_,nm,rfl,by lia,by lia,nmk,λp9 t9 H9 x9 pl r9 hp9 g9 h9 plk rt9 dg9 gor=>?_⟩
  have plk':PLift (pl=2↔bY hd (520+(i:Int))%3=2):=⟨by rw [plk,show(520:Int)+(0+(i:Int))=520+(i:Int) by lia]⟩
  clear plk
  have pl3:pl<3:=by cases gor<;>decide
  have y1':=g9 _ _ y1
  have y5':=g9 _ _ y5
  walk_at "r2"
  refine⟨by rw [length_map];lia,λH10 mu10=>?_⟩
  have w5:=mu10.old y5' (λz=>npt (by rw [z];simp))
  have w2:=mu10.old (g9 _ _ y2) (Ne.symm n12)
  have w3:=mu10.old (g9 _ _ y3) (Ne.symm n13)
  have w4:=mu10.old (g9 _ _ y4) (Ne.symm n14)
  have w1:=mu10.at_
  have h8H:∀{x},H8 x=none->H x=none:=λh=>sHF.free (g7.free h)
  have st:∀{X:Addr} {o:HO} {H11:Hp},X∈[rw,a,b,c]->Mu H10 X o H11->Same (out [rw,a,b,c] (kp em H H8)) (out [rw,a,b,c] (kp em H H11)):=λhX mu x u e=>by
   obtain⟨n,e⟩:=bK e
   obtain⟨e1,e2⟩:=cG e
   refine aL n (aT (by rcases e1 with ⟨_,z⟩ | z;cases z;exact z) ?_)
   exact mu.old (mu10.old (g9 _ _ e2) λz=>n (by rw [z];simp)) λz=>n (by rw [z];exact hX)
  have nt:∀{X:Addr} {o:HO} {H11:Hp},X∈[rw,a,b,c]->Mu H10 X o H11->Same (kp em H8 H9) (out [rw,a,b,c] (kp em H H11)):=λhX mu x u e=>by
   obtain⟨e1,e2⟩:=cG e
   have e1:H8 x=none:=by rcases e1 with ⟨_,z⟩ | z;cases z;exact z
   have n:x∉[rw,a,b,c]:=λz=>by
    simp only [mem_cons,not_mem_nil,or_false] at z
    rcases z with rfl | rfl | rfl | rfl
    ·rw [y1] at e1;cases e1
    ·rw [y2] at e1;cases e1
    ·rw [y3] at e1;cases e1
    ·rw [y4] at e1;cases e1
   refine aL n (aT (h8H e1) ?_)
   exact mu.old (mu10.old e2 λz=>n (by rw [z];simp)) λz=>n (by rw [z];exact hX)
  have sF11:∀{X:Addr} {o:HO} {H11:Hp},X∈[rw,a,b,c]->Mu H10 X o H11->Same F H11:=λhX mu x u e=>by
   have n:=nF x u e
   exact mu.old (mu10.old (g9 _ _ (g7 _ _ e)) λz=>n (by rw [z];simp)) λz=>n (by rw [z];exact hX)
  clear y1' y5' h9
  have one9:∀{X:Addr} {o:HO} {H11:Hp},X∈[rw,a,b,c]->Mu H10 X o H11->RpL K (out [rw,a,b,c] (kp em H H11)) [.ref t9] ([(nm,r9)].map bM):=λhX mu=>.cons (rt9.mono (nt hX mu)) .nil
  have dgm:∀{x y z:List (Str×List PyData)},(∀o,o∈x++(y++z)->o∈t++(s++r)\/o=(nm,r9))->∀o∈x++(y++z),DG 5 (bM o):=λh o ho=>by
   rcases h o ho with z | rfl
   ·exact dg o z
   ·exact dg9
  have lts:(ts++[x9]).length=i+1:=by rw [length_append,lr];rfl
  have em9:ts.map V.str++[V.str x9]=(ts++[x9]).map V.str:=by rw [map_append];rfl
  rw [em9] at w1
  obtain rfl | rfl | rfl:pl=0\/pl=1\/pl=2:=by lia
  ·walk_at "r2"
   refine⟨_,bU (j:=0) rfl,_,_,rfl,w2,?_⟩
   walk_at "r2"
   refine⟨by lia,λH11 mu=>?_⟩
   have hX:a∈[rw,a,b,c]:=by simp
   refine⟨⟨sF11 hX mu,ts++[x9],ta++[.ref t9],sa,ra,t++[(nm,r9)],s,r,mu.old w1 n12,lts,mu.at_,mu.old w3 (Ne.symm n23),mu.old w4 (Ne.symm n24),(by rw [map_append];exact RpL.app (one9 hX mu) (r2.mono (st hX mu))),r3.mono (st hX mu),r4.mono (st hX mu),(dgm λo ho=>by simp only [mem_append,mem_singleton] at ho⊢;grind),by simp;lia,?_⟩,_,_,_,_,_,rfl⟩
   obtain⟨_,hn⟩:=whc.down.resolve_left λz=>absurd (plk'.down.mpr z.1) (by decide)
   refine⟨?_,ng.t hn⟩
   cases gor with | tool p1 p2 p3=>exact .snoc rc (.tool p1 p2 p3 (ng.newG nd5 hn) nmk)
  ·walk_at "r2"
   refine⟨_,bU (j:=1) rfl,_,_,rfl,w3,?_⟩
   walk_at "r2"
   refine⟨by lia,λH11 mu=>?_⟩
   have hX:b∈[rw,a,b,c]:=by simp
   refine⟨⟨sF11 hX mu,ts++[x9],ta,sa++[.ref t9],ra,t,s++[(nm,r9)],r,mu.old w1 n13,lts,mu.old w2 n23,mu.at_,mu.old w4 (Ne.symm n34),r2.mono (st hX mu),(by rw [map_append];exact RpL.app (one9 hX mu) (r3.mono (st hX mu))),r4.mono (st hX mu),(dgm λo ho=>by simp only [mem_append,mem_singleton] at ho⊢;grind),by simp;lia,?_⟩,_,_,_,_,_,rfl⟩
   obtain⟨_,hn⟩:=whc.down.resolve_left λz=>absurd (plk'.down.mpr z.1) (by decide)
   refine⟨?_,ng.s hn⟩
   cases gor with | store p1 p2 p3 p4=>exact .snoc rc (.store p1 p2 p3 p4 (ng.newG nd5 hn) nmk)
  ·walk_at "r2"
   refine⟨_,bU (j:=2) rfl,_,_,rfl,w4,?_⟩
   walk_at "r2"
   refine⟨by lia,λH11 mu=>?_⟩
   have hX:c∈[rw,a,b,c]:=by simp
   refine⟨⟨sF11 hX mu,ts++[x9],ta,sa,ra++[.ref t9],t,s,r++[(nm,r9)],mu.old w1 n14,lts,mu.old w2 n24,mu.old w3 n34,mu.at_,r2.mono (st hX mu),r3.mono (st hX mu),(by rw [map_append];exact RpL.app (one9 hX mu) (r4.mono (st hX mu))),(dgm λo ho=>by simp only [mem_append,mem_singleton] at ho⊢;grind),by simp;lia,?_⟩,_,_,_,_,_,rfl⟩
   obtain⟨_,hn⟩:=whc.down.resolve_right λz=>z.1 (plk'.down.mp rfl)
   refine⟨?_,ng.u hn⟩
   cases gor with | row p1 p2 p3 p4=>exact .snoc rc (.row p1 p2 p3 p4 (ng.newR nd5 (qq hd 509) (dG hd 400 5) (by lia) hn) nmk)
 ·intro σ H7 z
  obtain⟨⟨g7,ts,ta,sa,ra,t,s,r,y1,lr,y2,y3,y4,r2,r3,r4,dg,ls,rc,ng⟩,v4,v5,v6,v7,v8,rfl⟩:=z
  have y5:=g7 _ _ hpF
  simp only [cons_append,nil_append]
  walk_at "r2"
  intro p8 H8 hp8 g8 h8
  have up:Same (out [rw,a,b,c] (kp em H H7)) (cg rw (kp em H H8)):=λx u e=>by
   obtain⟨n,e⟩:=bK e
   exact bI (λz=>n (by rw [z];simp)) (eP (Same.refl _) g8 x u e)
  have nw':∀{x u},H x=none->x≠rw->H7 x=some u->cg rw (kp em H H8) x=some u:=λh1 h2 h3=>bI h2 (aT h1 (g8 _ _ h3))
  have ptn:pt≠rw:=λz=>npt (by rw [z];simp)
  exact q p8 rw pt H8 ts t s r (sHF.trans (g7.trans g8)) (sHF.free (g7.free hp8)) h8 hrw (g8 _ _ y1) (by lia) (.tup (nw' ptH ptn y5) (.cons (.lst (nw' aH (Ne.symm n12) y2) (r2.mono up)) (.cons (.lst (nw' bH (Ne.symm n13) y3) (r3.mono up)) (.cons (.lst (nw' cH (Ne.symm n14) y4) (r4.mono up)) .nil)))) dg (by lia) rc
end
mutual
def CtS(F:Hp):Sm->V->List Addr->Prop
 | .pl _ _ _,_,C=>C= []
 | .st _ _ _,v,C=>∃t a b c e,v= .ref t/\F t=some (.tup [a,b,c,.ref e])/\C= [e]
 | .wh _ _ _ _ u,v,C=>∃t a0 a1 a2 a3 a4 c xs C1,v= .ref t/\F t=some (.tup [a0,a1,a2,a3,a4,.ref c])/\F c=some (.lst xs)/\CtB F u xs C1/\C=c::C1
 | .fi _ _ _ _ u v,x,C=>∃t a0 a1 a2 a3 a4 c d xs ys C1 C2,x= .ref t/\F t=some (.tup [a0,a1,a2,a3,a4,.ref c,.ref d])/\F c=some (.lst xs)/\F d=some (.lst ys)/\CtB F u xs C1/\CtB F v ys C2/\C=c::(C1++d::C2)
def CtB(F:Hp):Bd->List V->List Addr->Prop
 | .nil,xs,C=>xs= []/\C= []
 | .cons s r,xs,C=>∃x ys C1 C2,xs=x::ys/\CtS F s x C1/\CtB F r ys C2/\C=C1++C2
end
mutual
theorem CtS.mono{F G:Hp}(g:Same F G):∀{s:Sm} {v:V} {C:List Addr},CtS F s v C->CtS G s v C
 | .pl _ _ _,_,_,h=>by unfold CtS at h⊢;exact h
 | .st _ _ _,_,_,h=>by
  unfold CtS at h⊢
  obtain⟨t,a,b,c,e,h1,h2,h3⟩:=h
  exact⟨t,a,b,c,e,h1,g _ _ h2,h3⟩
 | .wh _ _ _ _ u,_,_,h=>by
  unfold CtS at h⊢
  obtain⟨t,a0,a1,a2,a3,a4,c,xs,C1,h1,h2,h3,h4,h5⟩:=h
  exact⟨t,a0,a1,a2,a3,a4,c,xs,C1,h1,g _ _ h2,g _ _ h3,CtB.mono g h4,h5⟩
 | .fi _ _ _ _ u v,_,_,h=>by
  unfold CtS at h⊢
  obtain⟨t,a0,a1,a2,a3,a4,c,d,xs,ys,C1,C2,h1,h2,h3,h4,h5,h6,h7⟩:=h
  exact⟨t,a0,a1,a2,a3,a4,c,d,xs,ys,C1,C2,h1,g _ _ h2,g _ _ h3,g _ _ h4,CtB.mono g h5,CtB.mono g h6,h7⟩
theorem CtB.mono{F G:Hp}(g:Same F G):∀{b:Bd} {xs:List V} {C:List Addr},CtB F b xs C->CtB G b xs C
 | .nil,_,_,h=>by unfold CtB at h⊢;exact h
 | .cons s r,_,_,h=>by
  unfold CtB at h⊢
  obtain⟨x,ys,C1,C2,h1,h2,h3,h4⟩:=h
  exact⟨x,ys,C1,C2,h1,CtS.mono g h2,CtB.mono g h3,h4⟩
end
theorem CtB.snoc{F:Hp}{s:Sm}{v:V}{D:List Addr}(hs:CtS F s v D):∀{l:List Sm} {xs:List V} {C:List Addr},CtB F (ofL l) xs C->CtB F (ofL (l++[s])) (xs++[v]) (C++D):=by
 intro l
 induction l with
 | nil=>
  intro xs C h
  unfold ofL CtB at h
  obtain⟨rfl,rfl⟩:=h
  show CtB F (ofL [s]) [v] D
  unfold ofL CtB
  exact⟨v,[],D,[],rfl,hs,by unfold ofL CtB;exact⟨rfl,rfl⟩,by simp⟩
 | cons a l ih=>
  intro xs C h
  unfold ofL CtB at h
  obtain⟨x,ys,C1,C2,rfl,h2,h3,rfl⟩:=h
  show CtB F (ofL (a::(l++[s]))) (x::(ys++[v])) _
  unfold ofL CtB
  exact⟨x,ys++[v],C1,C2++D,rfl,h2,ih h3,by simp⟩
theorem CtB.emp{F:Hp}:CtB F (ofL []) [] []:=by unfold ofL CtB;exact⟨rfl,rfl⟩
def Nd(B F:Hp)(C:List Addr):Prop:=(∀a,C.count a<=1)/\∀a∈C,F a≠none/\B a=none
theorem Nd.add{B F G:Hp}{C N C':List Addr}(h:Nd B F C)(b:Same B F)(g:Same F G)(n1:∀a,N.count a<=1)(n2:∀a∈N,F a=none)(n3:∀a∈N,G a≠none)(e:∀a,C'.count a=C.count a+N.count a):Nd B G C':=by
 have up:∀a∈C,G a≠none/\B a=none:=λa ha=>⟨λz=>(h.2 a ha).1 (g.free z),(h.2 a ha).2⟩
 refine⟨λa=>?_,λa ha=>?_⟩
 ·rw [e a]
  by_cases m:a∈N
  ·have:C.count a=0:=List.count_eq_zero.mpr λq=>(h.2 a q).1 (n2 a m)
   have:=n1 a
   lia
  ·have:N.count a=0:=List.count_eq_zero.mpr m
   have:=h.1 a
   lia
 ·have p:=List.count_pos_iff.mpr ha
  rw [e a] at p
  by_cases m:a∈N
  ·exact⟨n3 a m,b.free (n2 a m)⟩
  ·have:N.count a=0:=List.count_eq_zero.mpr m
   exact up a (List.count_pos_iff.mp (by lia))
theorem Nd.mono{B F G:Hp}{C:List Addr}(h:Nd B F C)(g:Same F G):Nd B G C:=⟨h.1,λa ha=>⟨λz=>(h.2 a ha).1 (g.free z),(h.2 a ha).2⟩⟩
inductive Hg
 | ha (x:Str) (ns:List Str) (nl:Addr)
 | wh (k:Int) (vs va vb:V) (sg a b:PyData)
 | th (k:Int) (vs va vb:V) (sg a b:PyData) (e:Addr)
 | el (k:Int) (vs va vb:V) (sg a b:PyData) (u:Addr) (us:List V) (ds:List Sm)
structure Fm where
 c:Addr
 xs:List V
 dn:List Sm
 t:Addr
 o:Addr
 h:Hg
def Hg.es:Hg->List Addr
 | .th _ _ _ _ _ _ _ e=>[e]
 | _=>[]
def Hg.ds:Hg->List Sm
 | .el _ _ _ _ _ _ _ _ _ ds=>ds
 | _=>[]
def keys:List Fm->List Addr
 | []=>[]
 | f::fs=>f.c::(f.h.es++keys fs)
def Cls(H:Hp):List Fm->List V->Prop
 | [],_=>True
 | f::fs,hv=>H f.c=some (.lst (f.xs++hv))/\(∀e∈f.h.es,H e=some (.lst []))/\Cls H fs [.ref f.t]
def fM:List Fm->List V->List V
 | [],hv=>hv
 | f::fs,_=>fM fs [.ref f.t]
def wW:Hg->Str
 | .ha _ _ _=>Str.ofString "hand"
 | .wh _ _ _ _ _ _ _=>Str.ofString "while"
 | .th _ _ _ _ _ _ _ _=>Str.ofString "if"
 | .el _ _ _ _ _ _ _ _ _ _=>Str.ofString "else"
def Hg.ph:Hg->PH
 | .ha x ns _=>.ha x ns
 | .wh k _ _ _ sg a b=>.wh k sg a b
 | .th k _ _ _ sg a b _=>.th k sg a b
 | .el k _ _ _ sg a b _ _ ds=>.el k sg a b ds
def Fm.pf(f:Fm):PF:=⟨f.dn,f.h.ph⟩
def HgC(F:Hp):Hg->List Addr->Prop
 | .ha _ _ nl,C=>C= [nl]
 | .el _ _ _ _ _ _ _ u us ds,C=>∃C1,CtB F (ofL ds) us C1/\C=u::C1
 | _,C=>C= []
def CtF(F:Hp):List Fm->List Addr->Prop
 | [],C=>C= []
 | f::fs,C=>∃C1 C2 C3,CtB F (ofL f.dn) f.xs C1/\HgC F f.h C2/\CtF F fs C3/\C=C1++(C2++C3)
def CtH(F:Hp):List Hd->List V->List Addr->Prop
 | [],vs,C=>vs= []/\C= []
 | h::hs,vs,C=>∃t x nl c xs ws C1 C2,vs= .ref t::ws/\F t=some (.tup [x,.ref nl,.ref c])/\F c=some (.lst xs)/\CtB F h.2.2 xs C1/\CtH F hs ws C2/\C=nl::c::(C1++C2)
theorem HgC.mono{F G:Hp}(g:Same F G){h:Hg}{C:List Addr}(q:HgC F h C):HgC G h C:=by
 cases h with
 | el=>obtain⟨C1,a,b⟩:=q;exact⟨C1,a.mono g,b⟩
 | ha=>exact q
 | wh=>exact q
 | th=>exact q
theorem CtF.mono{F G:Hp}(g:Same F G){fs:List Fm}:∀{C:List Addr},CtF F fs C->CtF G fs C:=by
 induction fs with
 | nil=>exact λh=>h
 | cons f fs ih=>
  intro C h
  obtain⟨C1,C2,C3,a,b,c,d⟩:=h
  exact⟨C1,C2,C3,a.mono g,b.mono g,ih c,d⟩
theorem CtH.mono{F G:Hp}(g:Same F G){hs:List Hd}:∀{vs:List V} {C:List Addr},CtH F hs vs C->CtH G hs vs C:=by
 induction hs with
 | nil=>exact λh=>h
 | cons h hs ih=>
  intro vs C q
  obtain⟨t,x,nl,c,xs,ws,C1,C2,a,b,c',d,e,f⟩:=q
  exact⟨t,x,nl,c,xs,ws,C1,C2,a,g _ _ b,g _ _ c',d.mono g,ih e,f⟩
theorem CtH.snoc{F:Hp}{h:Hd}{t nl c:Addr}{x:V}{xs:List V}{C1:List Addr}(a:F t=some (.tup [x,.ref nl,.ref c]))(b:F c=some (.lst xs))(d:CtB F h.2.2 xs C1){hs:List Hd}:∀{vs:List V} {C:List Addr},CtH F hs vs C->CtH F (hs++[h]) (vs++[.ref t]) (C++(nl::c::C1)):=by
 induction hs with
 | nil=>
  intro vs C q
  obtain⟨e1,e2⟩:=q
  subst e1 e2
  exact⟨t,x,nl,c,xs,[],C1,[],rfl,a,b,d,⟨rfl,rfl⟩,by simp⟩
 | cons h' hs ih=>
  intro vs C q
  obtain⟨t',x',nl',c',xs',ws',C1',C2',e1,e2,e3,e4,e5,e6⟩:=q
  subst e1 e6
  exact⟨t',x',nl',c',xs',ws'++[.ref t],C1',C2'++(nl::c::C1),rfl,e2,e3,e4,ih e5,by simp⟩
def HgOk(K:PySem.W.Frag)(F:Hp)(c t:Addr):Hg->Prop
 | .ha x ns nl=>F t=some (.tup [.str x,.ref nl,.ref c])/\F nl=some (.lst (ns.map V.str))
 | .wh k vs va vb sg a b=>F t=some (.tup [.str (Str.ofString "while"),.int k,vs,va,vb,.ref c])/\Three K F vs va vb sg a b
 | .th k vs va vb sg a b e=>F t=some (.tup [.str (Str.ofString "if"),.int k,vs,va,vb,.ref c,.ref e])/\Three K F vs va vb sg a b
 | .el k vs va vb sg a b u us ds=>F t=some (.tup [.str (Str.ofString "if"),.int k,vs,va,vb,.ref u,.ref c])/\Three K F vs va vb sg a b/\F u=some (.lst us)/\RpL K F us (ds.map smD)
structure FmOk(K:PySem.W.Frag)(ob:Hg->Addr->HO)(F:Hp)(n:Nat)(f:Fm):Prop where
 xs:RpL K F f.xs (f.dn.map smD)
 o:F f.o=some (ob f.h f.c)
 h:HgOk K F f.c f.t f.h
 g:∀s∈f.dn++f.h.ds,bw s n
 n:∀x ns nl,f.h= .ha x ns nl->mW x ns
def Hg.isHa:Hg->Prop
 | .ha _ _ _=>True
 | _=>False
def Fms(K:PySem.W.Frag)(ob:Hg->Addr->HO)(F:Hp):List Fm->Prop
 | []=>True
 | f::fs=>FmOk K ob F (6-fs.length) f/\(f.h.isHa↔fs= [])/\Fms K ob F fs
def dH(f:Fm):Nat:=((f.dn++f.h.ds).flatMap orS).length+1
def gj(fs:List Fm):Nat:=(fs.map dH).sum
def frz(rw hs op:Addr)(fs:List Fm)(H:Hp):Hp:=out (rw::hs::op::keys fs) H
theorem Three.mono{K:PySem.W.Frag}{F G:Hp}{vs va vb:V}{sg a b:PyData}(h:Three K F vs va vb sg a b)(g:Same F G):Three K G vs va vb sg a b:=⟨h.rs.mono g,h.ra.mono g,h.rb.mono g,h.gs,h.ga,h.gb⟩
theorem HgOk.mono{K:PySem.W.Frag}{F G:Hp}{c t:Addr}{h:Hg}(x:HgOk K F c t h)(g:Same F G):HgOk K G c t h:=by
 cases h with
 | ha=>exact⟨g _ _ x.1,g _ _ x.2⟩
 | wh=>exact⟨g _ _ x.1,x.2.mono g⟩
 | th=>exact⟨g _ _ x.1,x.2.mono g⟩
 | el=>exact⟨g _ _ x.1,x.2.1.mono g,g _ _ x.2.2.1,x.2.2.2.mono g⟩
theorem FmOk.mono{K:PySem.W.Frag}{ob:Hg->Addr->HO}{F G:Hp}{n:Nat}{f:Fm}(x:FmOk K ob F n f)(g:Same F G):FmOk K ob G n f:=⟨x.xs.mono g,g _ _ x.o,x.h.mono g,x.g,x.n⟩
theorem Fms.mono{K:PySem.W.Frag}{ob:Hg->Addr->HO}{F G:Hp}(g:Same F G):∀{fs:List Fm},Fms K ob F fs->Fms K ob G fs
 | [],_=>trivial
 | _::_,h=>⟨h.1.mono g,h.2.1,Fms.mono g h.2.2⟩
def mkS(h:Hg)(l:List Sm):Sm:=mkP h.ph l
theorem mY(l:List Sm):bdD (ofL l)=l.map smD:=by rw [rS,mU]
theorem rZ(l:List Sm):orB (ofL l)=l.flatMap orS:=by rw [rT,mU]
theorem kz{n:Nat}{l:List Sm}(h:∀s∈l,bw s n):fK (ofL l) n:=by rw [BK,mU];exact h
theorem Ce{K:PySem.W.Frag}{F:Hp}{c t:Addr}{h:Hg}{xs:List V}{l:List Sm}(x:HgOk K F c t h)(nh:¬h.isHa)(hc:F c=some (.lst xs))(r:RpL K F xs (l.map smD))(he:∀e∈h.es,F e=some (.lst [])):Rp K F (.ref t) (smD (mkS h l)):=by
 have rc:Rp K F (.ref c) (.list (bdD (ofL l))):=.lst hc (by rw [mY];exact r)
 cases h with
 | ha=>exact absurd trivial nh
 | wh=>unfold mkS Hg.ph mkP smD;exact .tup x.1 (.cons (.str _) (.cons (.int _) (.cons x.2.rs (.cons x.2.ra (.cons x.2.rb (.cons rc .nil))))))
 | th k vs va vb sg a b e=>unfold mkS Hg.ph mkP smD;exact .tup x.1 (.cons (.str _) (.cons (.int _) (.cons x.2.rs (.cons x.2.ra (.cons x.2.rb (.cons rc (.cons (.lst (he e (List.mem_singleton.mpr rfl)) (by unfold bdD;exact .nil)) .nil)))))))
 | el k vs va vb sg a b u us ds=>unfold mkS Hg.ph mkP smD;exact .tup x.1 (.cons (.str _) (.cons (.int _) (.cons x.2.1.rs (.cons x.2.1.ra (.cons x.2.1.rb (.cons (.lst x.2.2.1 (by rw [mY];exact x.2.2.2)) (.cons rc .nil)))))))
theorem Cg(h:Hg)(l:List Sm):(orS (mkS h l)).length=((l++h.ds).flatMap orS).length+1:=by
 cases h<;>simp only [mkS,Hg.ph,mkP,orS,Hg.ds,length_cons,rZ,append_nil,orB,length_append,flatMap_append]
 lia
theorem Ci{K:PySem.W.Frag}{F:Hp}{c t:Addr}{h:Hg}{l:List Sm}{n:Nat}(x:HgOk K F c t h)(nh:¬h.isHa)(g:∀s∈l++h.ds,bw s n):bw (mkS h l) (n+1):=by
 have g1:∀s∈l,bw s n:=λs hs=>g s (mem_append_left _ hs)
 cases h with
 | ha=>exact absurd trivial nh
 | wh=>unfold mkS Hg.ph mkP bw;exact⟨x.2.gs,x.2.ga,x.2.gb,n,rfl,kz g1⟩
 | th=>unfold mkS Hg.ph mkP bw;exact⟨x.2.gs,x.2.ga,x.2.gb,n,rfl,kz g1,by unfold fK;trivial⟩
 | el k vs va vb sg a b u us ds=>
  have g2:∀s∈ds,bw s n:=λs hs=>g s (mem_append_right _ hs)
  unfold mkS Hg.ph mkP bw
  exact⟨x.2.1.gs,x.2.1.ga,x.2.1.gb,n,rfl,kz g2,kz g1⟩
theorem Cj{K:PySem.W.Frag}{F:Hp}{c t:Addr}{h:Hg}{xs:List V}{l:List Sm}{C1 C2:List Addr}(x:HgOk K F c t h)(nh:¬h.isHa)(hc:F c=some (.lst xs))(he:∀e∈h.es,F e=some (.lst []))(b1:CtB F (ofL l) xs C1)(b2:HgC F h C2):∃C,CtS F (mkS h l) (.ref t) C/\∀a,C.count a=C1.count a+C2.count a+(c::h.es).count a:=by
 cases h with
 | ha=>exact absurd trivial nh
 | wh=>
  have b2:C2= []:=b2
  subst b2
  refine⟨c::C1,?_,λa=>by simp [Hg.es,count_cons]⟩
  unfold mkS Hg.ph mkP CtS
  exact⟨t,_,_,_,_,_,c,xs,C1,rfl,x.1,hc,b1,rfl⟩
 | th k vs va vb sg a b e=>
  have b2:C2= []:=b2
  subst b2
  refine⟨c::(C1++[e]),?_,λa=>by simp [Hg.es,count_cons,count_append];lia⟩
  unfold mkS Hg.ph mkP CtS
  exact⟨t,_,_,_,_,_,c,e,xs,[],C1,[],rfl,x.1,hc,he e (List.mem_singleton.mpr rfl),b1,by unfold CtB;exact⟨rfl,rfl⟩,rfl⟩
 | el k vs va vb sg a b u us ds=>
  obtain⟨C3,q1,rfl⟩:=b2
  refine⟨u::(C3++c::C1),?_,λa=>by simp [Hg.es,count_cons,count_append];lia⟩
  unfold mkS Hg.ph mkP CtS
  exact⟨t,_,_,_,_,_,u,c,us,xs,C3,C1,rfl,x.1,x.2.2.1,hc,q1,b1,rfl⟩
theorem DB{K:PySem.W.Frag}{F:Hp}{c t nl:Addr}{x:Str}{ns:List Str}{xs:List V}{l:List Sm}(h:HgOk K F c t (.ha x ns nl))(hc:F c=some (.lst xs))(r:RpL K F xs (l.map smD)):Rp K F (.ref t) (hdD (x,ns,ofL l)):=by
 unfold hdD
 refine .tup h.1 (.cons (.str _) (.cons (.lst h.2 ?_) (.cons (.lst hc (by rw [mY];exact r)) .nil)))
 clear h
 induction ns with
 | nil=>exact .nil
 | cons y ns ih=>exact .cons (.str _) ih
theorem Cls.of{H H':Hp}:∀{fs:List Fm} {hv:List V},Cls H fs hv->(∀a∈keys fs,H' a=H a)->Cls H' fs hv
 | [],_,_,_=>trivial
 | f::fs,hv,h,e=>by
  unfold keys at e
  refine⟨?_,λx hx=>?_,Cls.of h.2.2 λa ha=>e a (mem_cons_of_mem _ (mem_append_right _ ha))⟩
  ·rw [e f.c (mem_cons_self ..)];exact h.1
  ·rw [e x (mem_cons_of_mem _ (mem_append_left _ hx))];exact h.2.1 x hx
theorem Cls.at{H:Hp}:∀{fs:List Fm} {hv:List V},Cls H fs hv->∀a∈keys fs,∃vs,H a=some (.lst vs)
 | [],_,_,a,ha=>by cases ha
 | f::fs,hv,h,a,ha=>by
  unfold keys at ha
  rcases List.mem_cons.mp ha with rfl | ha
  ·exact⟨_,h.1⟩
  ·rcases List.mem_append.mp ha with ha | ha
   ·exact⟨_,h.2.1 a ha⟩
   ·exact Cls.at h.2.2 a ha
def Cel(B F:Hp)(hd:List Hd)(hv:List V)(fs:List Fm):Prop:=∃C1 C2,CtH F hd hv C1/\CtF F fs C2/\Nd B F (C1++C2)
theorem Cel.mono{B F G:Hp}{hd:List Hd}{hv:List V}{fs:List Fm}(h:Cel B F hd hv fs)(g:Same F G):Cel B G hd hv fs:=by
 obtain⟨C1,C2,a,b,c⟩:=h
 exact⟨C1,C2,a.mono g,b.mono g,c.mono g⟩
theorem iD{M:List Addr}{H:Hp}{a:Addr}(h:H a=none):out M H a=none:=by unfold out;split;rfl;exact h
theorem Ck{M:List Addr}{H:Hp}{a:Addr}(h:a∈M):out M H a=none:=by unfold out;rw [if_pos h]
structure ZI(K:PySem.W.Frag)(ob:Hg->Addr->HO)(Hb H:Hp)(rw hs op:Addr)(rv hv:List V)(hd:List Hd)(fs:List Fm)(n:Nat):Prop where
 nd:(rw::hs::op::keys fs).Nodup
 rwa:H rw=some (.lst rv)
 hsa:H hs=some (.lst (hv++fM fs []))
 opa:H op=some (.lst ((fs.map λf=>V.ref f.o).reverse))
 cla:Cls H fs []
 base:Same Hb (frz rw hs op fs H)
 fm:Fms K ob (frz rw hs op fs H) fs
 hdc:RpL K (frz rw hs op fs H) hv (hd.map hdD)
 hdg:∀h∈hd,fK h.2.2 6/\mW h.1 h.2.1
 cnt:(hd.flatMap λh=>orB h.2.2).length+gj fs<=n
 lv:fs.length<=6
 cel:Cel Hb (frz rw hs op fs H) hd hv fs
section
variable{K:PySem.W.Frag}{ob:Hg->Addr->HO}{Hb H H1 H2 H3 H':Hp}{rw hs op:Addr}{rv hv:List V}{hd:List Hd}{fs:List Fm}{n:Nat}
theorem ZI.same(z:ZI K ob Hb H rw hs op rv hv hd fs n)(g:Same H H'):ZI K ob Hb H' rw hs op rv hv hd fs n:=by
 have gf:Same (frz rw hs op fs H) (frz rw hs op fs H'):=eF g
 refine⟨z.nd,g _ _ z.rwa,g _ _ z.hsa,g _ _ z.opa,Cls.of z.cla λa ha=>?_,z.base.trans gf,z.fm.mono gf,z.hdc.mono gf,z.hdg,z.cnt,z.lv,z.cel.mono gf⟩
 obtain⟨vs,e⟩:=z.cla.at a ha
 rw [e,g _ _ e]
theorem ZI.more(z:ZI K ob Hb H rw hs op rv hv hd fs n){m:Nat}(h:n<=m):ZI K ob Hb H rw hs op rv hv hd fs m:=⟨z.nd,z.rwa,z.hsa,z.opa,z.cla,z.base,z.fm,z.hdc,z.hdg,le_trans z.cnt h,z.lv,z.cel⟩
theorem ZI.nrh(z:ZI K ob Hb H rw hs op rv hv hd fs n):rw≠hs:=λe=>(List.nodup_cons.mp z.nd).1 (by rw [e];exact mem_cons_self ..)
theorem ZI.nro(z:ZI K ob Hb H rw hs op rv hv hd fs n):rw≠op:=λe=>(List.nodup_cons.mp z.nd).1 (by rw [e];exact mem_cons_of_mem _ (mem_cons_self ..))
theorem ZI.nho(z:ZI K ob Hb H rw hs op rv hv hd fs n):hs≠op:=λe=>(List.nodup_cons.mp (List.nodup_cons.mp z.nd).2).1 (by rw [e];exact mem_cons_self ..)
theorem ZI.nrk(z:ZI K ob Hb H rw hs op rv hv hd fs n){a:Addr}(h:a∈keys fs):a≠rw:=λe=>(List.nodup_cons.mp z.nd).1 (by rw [<-e];exact mem_cons_of_mem _ (mem_cons_of_mem _ h))
theorem ZI.nhk(z:ZI K ob Hb H rw hs op rv hv hd fs n){a:Addr}(h:a∈keys fs):a≠hs:=λe=>(List.nodup_cons.mp (List.nodup_cons.mp z.nd).2).1 (by rw [<-e];exact mem_cons_of_mem _ h)
theorem ZI.nok(z:ZI K ob Hb H rw hs op rv hv hd fs n){a:Addr}(h:a∈keys fs):a≠op:=λe=>(List.nodup_cons.mp (List.nodup_cons.mp (List.nodup_cons.mp z.nd).2).2).1 (by rw [<-e];exact h)
theorem ZI.ndk(z:ZI K ob Hb H rw hs op rv hv hd fs n):(keys fs).Nodup:=(List.nodup_cons.mp (List.nodup_cons.mp (List.nodup_cons.mp z.nd).2).2).2
theorem ZI.row(z:ZI K ob Hb H rw hs op rv hv hd fs n){rv':List V}(mu:Mu H rw (.lst rv') H'):ZI K ob Hb H' rw hs op rv' hv hd fs n:=by
 have gf:Same (frz rw hs op fs H) (frz rw hs op fs H'):=fL (mem_cons_self ..) mu
 exact⟨z.nd,mu.at_,mu.old z.hsa z.nrh.symm,mu.old z.opa z.nro.symm,Cls.of z.cla λa ha=>mu.else_ a (z.nrk ha),z.base.trans gf,z.fm.mono gf,z.hdc.mono gf,z.hdg,z.cnt,z.lv,z.cel.mono gf⟩
theorem ZI.ik{a:Addr}(h:a∈keys fs):frz rw hs op fs H a=none:=Ck (mem_cons_of_mem _ (mem_cons_of_mem _ (mem_cons_of_mem _ h)))
theorem cM(f:Fm)(fs:List Fm):gj (f::fs)=dH f+gj fs:=by simp [gj]
theorem ZI.push{f:Fm}(z:ZI K ob Hb H rw hs op rv hv hd (f::fs) n){v:V}{s:Sm}{Cs:List Addr}(s01:Same H H1)(mu:Mu H1 f.c (.lst (f.xs++[v])) H')(r:Rp K (frz rw hs op (f::fs) H1) v (smD s))(ok:bw s (6-fs.length))(ct:CtS (frz rw hs op (f::fs) H1) s v Cs)(cs1:∀a,Cs.count a<=1)(cs2:∀a∈Cs,H a=none/\frz rw hs op (f::fs) H1 a≠none):
 ZI K ob Hb H' rw hs op rv hv hd ({f with xs:=f.xs++[v],dn:=f.dn++[s]}::fs) (n+(orS s).length):=by
 have hk:f.c∈keys (f::fs):=by unfold keys;exact mem_cons_self ..
 have gf:Same (frz rw hs op (f::fs) H1) (frz rw hs op (f::fs) H'):=fL (mem_cons_of_mem _ (mem_cons_of_mem _ (mem_cons_of_mem _ hk))) mu
 obtain⟨C1,C2,ch,⟨D1,D2,D3,b1,b2,b3,rfl⟩,ndc⟩:=z.cel
 have g0:Same (frz rw hs op (f::fs) H) (frz rw hs op (f::fs) H1):=eF s01
 have g02:=g0.trans gf
 have zb:=z.base
 have z:=z.same s01
 have nd:=z.ndk
 unfold keys at nd
 have ne:∀a∈f.h.es++keys fs,a≠f.c:=λa ha e=>(List.nodup_cons.mp nd).1 (e▸ha)
 obtain⟨c1,c2,c3⟩:=z.cla
 obtain⟨fo,fi,fr⟩:=z.fm
 have ex:=z.cnt
 rw [cM] at ex
 refine⟨z.nd,mu.old z.rwa (z.nrk hk).symm,mu.old z.hsa (z.nhk hk).symm,mu.old z.opa (z.nok hk).symm,⟨by rw [mu.at_];simp,λe he=>mu.old (c2 e he) (ne e (mem_append_left _ he)),Cls.of c3 λa ha=>mu.else_ a (ne a (mem_append_right _ ha))⟩,z.base.trans gf,⟨⟨?_,(fo.mono gf).o,(fo.mono gf).h,?_,fo.n⟩,fi,Fms.mono gf fr⟩,z.hdc.mono gf,z.hdg,?_,z.lv,C1,(D1++Cs)++(D2++D3),ch.mono g02,⟨D1++Cs,D2,D3,CtB.snoc (ct.mono gf) (b1.mono g02),b2.mono g02,b3.mono g02,rfl⟩,ndc.add (N:=Cs) zb g02 cs1 (λa ha=>iD (cs2 a ha).1) (λa ha q=>(cs2 a ha).2 (gf.free q)) λa=>by simp only [count_append];lia⟩
 ·rw [map_append];exact RpL.app (.cons (r.mono gf) .nil) (fo.xs.mono gf)
 ·intro x hx
  rcases List.mem_append.mp hx with hx | hx
  ·rcases List.mem_append.mp hx with hx | hx
   ·exact fo.g x (mem_append_left _ hx)
   ·rw [List.mem_singleton.mp hx];exact ok
  ·exact fo.g x (mem_append_right _ hx)
 ·rw [cM]
  have:dH {f with xs:=f.xs++[v],dn:=f.dn++[s]}=dH f+(orS s).length:=by
   unfold dH
   simp only [flatMap_append,length_append,flatMap_cons,flatMap_nil,append_nil]
   lia
  lia
theorem ZI.els{f:Fm}(z:ZI K ob Hb H rw hs op rv hv hd (f::fs) n){k:Int}{vs va vb:V}{sg a b:PyData}{e o:Addr}(hh:f.h= .th k vs va vb sg a b e)(ho:H o=some (ob (.el k vs va vb sg a b f.c f.xs f.dn) e))(no:o∉rw::hs::op::keys (f::fs))
 (mu:Mu H op (.lst ((fs.map λf=>V.ref f.o).reverse++[.ref o])) H'):
 ZI K ob Hb H' rw hs op rv hv hd (⟨e,[],[],f.t,o,.el k vs va vb sg a b f.c f.xs f.dn⟩::fs) n:=by
 obtain⟨fo,fi,fr⟩:=z.fm
 have ek:keys (f::fs)=f.c::e::keys fs:=by show f.c::(f.h.es++keys fs)=_;rw [hh];rfl
 have ek':keys (⟨e,[],[],f.t,o,.el k vs va vb sg a b f.c f.xs f.dn⟩::fs)=e::keys fs:=rfl
 have sub:∀m∈rw::hs::op::(e::keys fs),m∈rw::hs::op::keys (f::fs):=λm hm=>by
  rw [ek]
  simp only [mem_cons] at hm⊢
  rcases hm with h | h | h | h | h<;>simp [h]
 have g1:Same (frz rw hs op (f::fs) H) (frz rw hs op (f::fs) H'):=fL (mem_cons_of_mem _ (mem_cons_of_mem _ (mem_cons_self ..))) mu
 have gf:Same (frz rw hs op (f::fs) H) (frz rw hs op (⟨e,[],[],f.t,o,.el k vs va vb sg a b f.c f.xs f.dn⟩::fs) H'):=g1.trans (by unfold frz;rw [ek'];exact lG sub)
 have nd:=z.nd
 have hkf:∀a∈keys fs,a∈keys (f::fs):=λa ha=>by rw [ek];exact mem_cons_of_mem _ (mem_cons_of_mem _ ha)
 have hkc:f.c∈keys (f::fs):=by rw [ek];exact mem_cons_self ..
 have hke:e∈keys (f::fs):=by rw [ek];exact mem_cons_of_mem _ (mem_cons_self ..)
 obtain⟨c1,c2,c3⟩:=z.cla
 rw [hh] at c2
 have ndk:=z.ndk
 rw [ek] at ndk
 have nfc:f.c∉rw::hs::op::(e::keys fs):=λh=>by
  rcases List.mem_cons.mp h with h | h
  ·exact z.nrk hkc h
  ·rcases List.mem_cons.mp h with h | h
   ·exact z.nhk hkc h
   ·rcases List.mem_cons.mp h with h | h
    ·exact z.nok hkc h
    ·exact(List.nodup_cons.mp ndk).1 h
 have fc:frz rw hs op (⟨e,[],[],f.t,o,.el k vs va vb sg a b f.c f.xs f.dn⟩::fs) H' f.c=some (.lst f.xs):=by
  unfold frz
  rw [ek']
  exact aL nfc (mu.old (by rw [c1,append_nil]) (z.nok hkc))
 have fh:=fo.h.mono gf
 rw [hh] at fh
 have ex:=z.cnt
 rw [cM] at ex
 have lv:=z.lv
 refine⟨?_,mu.old z.rwa z.nro,mu.old z.hsa z.nho,?_,⟨mu.old (c2 e (List.mem_singleton.mpr rfl)) (z.nok hke),(λ_ h=>by cases h),Cls.of c3 λa ha=>mu.else_ a (z.nok (hkf a ha))⟩,z.base.trans gf,⟨⟨.nil,?_,⟨fh.1,fh.2,fc,fo.xs.mono gf⟩,?_,λ_ _ _ h=>by cases h⟩,?_,Fms.mono gf fr⟩,z.hdc.mono gf,z.hdg,?_,lv,?_⟩
 ·rw [ek']
  rw [ek] at nd
  refine List.Sublist.nodup ?_ nd
  exact .cons₂ _ (.cons₂ _ (.cons₂ _ (.cons _ (List.Sublist.refl _))))
 ·rw [mu.at_];simp
 ·unfold frz
  rw [ek']
  exact aL (λh=>no (sub _ h)) (mu.old ho λh=>no (by have h:o=op:=h;rw [h];exact mem_cons_of_mem _ (mem_cons_of_mem _ (mem_cons_self ..))))
 ·intro s hs
  exact fo.g s (mem_append_left _ (by simpa [Hg.ds] using hs))
 ·rw [hh] at fi
  exact⟨λh=>absurd h id,λh=>absurd (fi.mpr h) id⟩
 ·rw [cM]
  have:dH ⟨e,[],[],f.t,o,.el k vs va vb sg a b f.c f.xs f.dn⟩<=dH f:=by
   unfold dH
   simp only [hh,Hg.ds,nil_append,append_nil]
   exact le_refl _
  lia
 ·obtain⟨C1,C2,ch,⟨D1,D2,D3,b1,b2,b3,rfl⟩,ndc⟩:=z.cel
  rw [hh] at b2
  have b2:D2= []:=b2
  subst b2
  exact⟨C1,_,ch.mono gf,⟨[],f.c::D1,D3,CtB.emp,⟨D1,b1.mono gf,rfl⟩,b3.mono gf,rfl⟩,ndc.add (N:=[f.c]) z.base gf (λa=>by simp [count_cons];split<;>lia) (λa ha=>by rw [List.mem_singleton.mp ha];exact ZI.ik hkc) (λa ha=>by rw [List.mem_singleton.mp ha,fc];simp) λa=>by simp only [count_append,count_cons,nil_append,cons_append,List.count_nil];lia⟩
theorem ZI.pop{f g:Fm}(z:ZI K ob Hb H rw hs op rv hv hd (f::g::fs) n)(mu:Mu H op (.lst (((g::fs).map λf=>V.ref f.o).reverse)) H'):
 ZI K ob Hb H' rw hs op rv hv hd ({g with xs:=g.xs++[.ref f.t],dn:=g.dn++[mkS f.h f.dn]}::fs) n:=by
 obtain⟨fo,fi,go,gi,fr⟩:=z.fm
 have nh:¬f.h.isHa:=λh=>by cases fi.mp h
 obtain⟨c1,c2,d1,d2,d3⟩:=z.cla
 have hkc:f.c∈keys (f::g::fs):=by unfold keys;exact mem_cons_self ..
 have hkg:∀a∈keys (g::fs),a∈keys (f::g::fs):=λa ha=>by rw [keys];exact mem_cons_of_mem _ (mem_append_right _ ha)
 have hke:∀a∈f.h.es,a∈keys (f::g::fs):=λa ha=>by rw [keys];exact mem_cons_of_mem _ (mem_append_left _ ha)
 have ek:keys ({g with xs:=g.xs++[.ref f.t],dn:=g.dn++[mkS f.h f.dn]}::fs)=keys (g::fs):=rfl
 have g1:Same (frz rw hs op (f::g::fs) H) (frz rw hs op (f::g::fs) H'):=fL (mem_cons_of_mem _ (mem_cons_of_mem _ (mem_cons_self ..))) mu
 have gf:Same (frz rw hs op (f::g::fs) H) (frz rw hs op ({g with xs:=g.xs++[.ref f.t],dn:=g.dn++[mkS f.h f.dn]}::fs) H'):=g1.trans (by
  unfold frz
  rw [ek]
  refine lG λm hm=>?_
  rcases List.mem_cons.mp hm with h | hm
  ·rw [h];exact mem_cons_self ..
  ·rcases List.mem_cons.mp hm with h | hm
   ·rw [h];exact mem_cons_of_mem _ (mem_cons_self ..)
   ·rcases List.mem_cons.mp hm with h | hm
    ·rw [h];exact mem_cons_of_mem _ (mem_cons_of_mem _ (mem_cons_self ..))
    ·exact mem_cons_of_mem _ (mem_cons_of_mem _ (mem_cons_of_mem _ (hkg m hm))))
 have ndk:=z.ndk
 rw [keys] at ndk
 obtain⟨nd1,nd2⟩:=List.nodup_cons.mp ndk
 have nd3:=(List.nodup_append.mp nd2).2.2
 have nin:∀a,a∈keys (f::g::fs)->a∉keys (g::fs)->a∉rw::hs::op::keys (g::fs):=λa ha hn h=>by
  rcases List.mem_cons.mp h with h | h
  ·exact z.nrk ha h
  ·rcases List.mem_cons.mp h with h | h
   ·exact z.nhk ha h
   ·rcases List.mem_cons.mp h with h | h
    ·exact z.nok ha h
    ·exact hn h
 have fc:frz rw hs op ({g with xs:=g.xs++[.ref f.t],dn:=g.dn++[mkS f.h f.dn]}::fs) H' f.c=some (.lst f.xs):=by
  unfold frz
  rw [ek]
  exact aL (nin _ hkc λh=>nd1 (mem_append_right _ h)) (mu.old (by rw [c1,append_nil]) (z.nok hkc))
 have fe:∀e∈f.h.es,frz rw hs op ({g with xs:=g.xs++[.ref f.t],dn:=g.dn++[mkS f.h f.dn]}::fs) H' e=some (.lst []):=λe he=>by
  unfold frz
  rw [ek]
  exact aL (nin _ (hke e he) λh=>nd3 e he e h rfl) (mu.old (c2 e he) (z.nok (hke e he)))
 have lv:=z.lv
 rw [length_cons,length_cons] at lv
 have es:6-(g::fs).length+1=6-fs.length:=by rw [length_cons];lia
 have okS:bw (mkS f.h f.dn) (6-fs.length):=es▸Ci fo.h nh fo.g
 have ex:=z.cnt
 rw [cM,cM] at ex
 refine⟨?_,mu.old z.rwa z.nro,mu.old z.hsa z.nho,mu.at_,⟨?_,λe he=>mu.old (d2 e he) (z.nok (hkg e (by rw [keys];exact mem_cons_of_mem _ (mem_append_left _ he)))),Cls.of d3 λa ha=>mu.else_ a (z.nok (hkg a (by rw [keys];exact mem_cons_of_mem _ (mem_append_right _ ha))))⟩,z.base.trans gf,⟨⟨?_,(go.mono gf).o,(go.mono gf).h,?_,go.n⟩,gi,Fms.mono gf fr⟩,z.hdc.mono gf,z.hdg,?_,by rw [length_cons];lia,?_⟩
 ·rw [ek]
  have nd:=z.nd
  rw [keys] at nd
  refine List.Sublist.nodup ?_ nd
  exact .cons₂ _ (.cons₂ _ (.cons₂ _ (.cons _ (List.sublist_append_right _ _))))
 ·rw [append_nil]
  exact mu.old d1 (z.nok (hkg g.c (by rw [keys];exact mem_cons_self ..)))
 ·rw [map_append]
  refine RpL.app (.cons ?_ .nil) (go.xs.mono gf)
  exact Ce (fo.h.mono gf) nh fc (fo.xs.mono gf) fe
 ·intro s hs
  rcases List.mem_append.mp hs with hs | hs
  ·rcases List.mem_append.mp hs with hs | hs
   ·exact go.g s (mem_append_left _ hs)
   ·rw [List.mem_singleton.mp hs];exact okS
  ·exact go.g s (mem_append_right _ hs)
 ·rw [cM]
  have:dH {g with xs:=g.xs++[.ref f.t],dn:=g.dn++[mkS f.h f.dn]}=dH g+dH f:=by
   have:=Cg f.h f.dn
   unfold dH
   simp only [flatMap_append,length_append,flatMap_cons,flatMap_nil,append_nil] at this⊢
   lia
  lia
 ·obtain⟨C1,C2,ch,⟨D1,D2,_,b1,b2,⟨E1,E2,E3,e1,e2,e3,rfl⟩,rfl⟩,ndc⟩:=z.cel
  obtain⟨Cs,cs,ec⟩:=Cj (fo.h.mono gf) nh fc fe (b1.mono gf) (b2.mono gf)
  have nk:∀a∈f.c::f.h.es,a∈keys (f::g::fs):=λa ha=>by
   rcases List.mem_cons.mp ha with rfl | ha
   ·exact hkc
   ·exact hke a ha
  refine⟨C1,_,ch.mono gf,⟨E1++Cs,E2,E3,CtB.snoc cs (e1.mono gf),e2.mono gf,e3.mono gf,rfl⟩,ndc.add (N:=f.c::f.h.es) z.base gf (List.nodup_iff_count.mp ?_) (λa ha=>ZI.ik (nk a ha)) (λa ha=>?_) λa=>?_⟩
  ·exact List.nodup_cons.mpr ⟨λq=>nd1 (mem_append_left _ q),(List.nodup_append.mp nd2).1⟩
  ·rcases List.mem_cons.mp ha with rfl | ha
   ·rw [fc];simp
   ·rw [fe a ha];simp
  ·simp only [count_append,ec];lia
theorem ZI.old(z:ZI K ob Hb H rw hs op rv hv hd fs n){a:Addr}(h:H a=none):a∉rw::hs::op::keys fs:=λm=>by
 rcases List.mem_cons.mp m with e | m
 ·rw [e,z.rwa] at h;cases h
 ·rcases List.mem_cons.mp m with e | m
  ·rw [e,z.hsa] at h;cases h
  ·rcases List.mem_cons.mp m with e | m
   ·rw [e,z.opa] at h;cases h
   ·obtain⟨vs,e⟩:=z.cla.at a m
    rw [e] at h;cases h
theorem qz{a b c:Addr}{l m:List Addr}(h:(a::b::c::m).Nodup)(hl:l.Nodup)(d:∀x∈l,x∉a::b::c::m):(a::b::c::(l++m)).Nodup:=by
 have p:(a::b::c::(l++m)).Perm (l++(a::b::c::m)):=by
  have e:a::b::c::(l++m)= [a,b,c]++(l++m):=rfl
  have e':l++(a::b::c::m)=l++([a,b,c]++m):=rfl
  rw [e,e',<-append_assoc,<-append_assoc]
  exact List.perm_append_comm.append_right _
 rw [p.nodup_iff]
 exact List.nodup_append.mpr ⟨hl,h,λx hx y hy e=>d x hx (e▸hy)⟩
theorem ZI.opn{f g:Fm}(z:ZI K ob Hb H rw hs op rv hv hd (f::fs) n)(lt:fs.length+1<6)(gx:g.xs= [])(gd:g.dn= [])(gh:¬g.h.isHa)(gs:g.h.ds= [])(gc:∀F,HgC F g.h [])
 (s01:Same H H1) (fr:∀a∈g.c::g.h.es,H a=none) (nd:(g.c::g.h.es).Nodup) (em:∀a∈g.c::g.h.es,H1 a=some (.lst [])) (gk:HgOk K (frz rw hs op (g::f::fs) H1) g.c g.t g.h)
 (mu1:Mu H1 f.c (.lst (f.xs++[.ref g.t])) H2) (s23:Same H2 H3) (no:H2 g.o=none) (ho:H3 g.o=some (ob g.h g.c))
 (mu2:Mu H3 op (.lst (((f::fs).map λf=>V.ref f.o).reverse++[.ref g.o])) H'):ZI K ob Hb H' rw hs op rv hv hd (g::f::fs) (n+1):=by
 have ek:keys (g::f::fs)=(g.c::g.h.es)++keys (f::fs):=rfl
 have hkf:f.c∈keys (f::fs):=mem_cons_self ..
 have hk:∀a∈keys (f::fs),a∈keys (g::f::fs):=λa ha=>by rw [ek];exact mem_append_right _ ha
 have iop:op∈rw::hs::op::keys (g::f::fs):=mem_cons_of_mem _ (mem_cons_of_mem _ (mem_cons_self ..))
 have ifc:f.c∈rw::hs::op::keys (g::f::fs):=mem_cons_of_mem _ (mem_cons_of_mem _ (mem_cons_of_mem _ (hk _ hkf)))
 have g2:Same (frz rw hs op (g::f::fs) H1) (frz rw hs op (g::f::fs) H'):=(fL ifc mu1).trans ((eF s23).trans (fL iop mu2))
 have g1:Same (frz rw hs op (f::fs) H) (frz rw hs op (g::f::fs) H1):=λa u e=>by
  obtain⟨na,e⟩:=bK e
  refine aL (λm=>?_) (s01 _ _ e)
  have:a∈g.c::g.h.es\/a∈rw::hs::op::keys (f::fs):=by
   rw [ek] at m
   rcases List.mem_cons.mp m with q | m
   ·exact .inr (by rw [q];exact mem_cons_self ..)
   ·rcases List.mem_cons.mp m with q | m
    ·exact .inr (by rw [q];exact mem_cons_of_mem _ (mem_cons_self ..))
    ·rcases List.mem_cons.mp m with q | m
     ·exact .inr (by rw [q];exact mem_cons_of_mem _ (mem_cons_of_mem _ (mem_cons_self ..)))
     ·rcases List.mem_append.mp m with m | m
      ·exact .inl m
      ·exact .inr (mem_cons_of_mem _ (mem_cons_of_mem _ (mem_cons_of_mem _ m)))
  rcases this with m | m
  ·rw [fr a m] at e;cases e
  ·exact na m
 have gf:=g1.trans g2
 have nfc:∀a,a≠f.c->a≠op->∀u,H1 a=some u->H' a=some u:=λa x y u e=>mu2.old (s23 _ _ (mu1.old e x)) y
 have nin:∀a∈g.c::g.h.es,a∉rw::hs::op::keys (f::fs):=λa ha=>z.old (fr a ha)
 have ngf:∀a∈g.c::g.h.es,a≠f.c:=λa ha e=>nin a ha (by rw [e];exact mem_cons_of_mem _ (mem_cons_of_mem _ (mem_cons_of_mem _ hkf)))
 have ngo:∀a∈g.c::g.h.es,a≠op:=λa ha e=>nin a ha (by rw [e];exact mem_cons_of_mem _ (mem_cons_of_mem _ (mem_cons_self ..)))
 have z1:=z.same s01
 have ndk:=z.ndk
 rw [keys] at ndk
 have ne:∀a∈f.h.es++keys fs,a≠f.c:=λa ha e=>(List.nodup_cons.mp ndk).1 (e▸ha)
 have hke:∀a∈f.h.es++keys fs,a∈keys (f::fs):=λa ha=>by rw [keys];exact mem_cons_of_mem _ ha
 obtain⟨c1,c2,c3⟩:=z1.cla
 have ex:=z.cnt
 refine⟨by rw [ek];exact qz z.nd nd nin,nfc _ (z.nrk hkf).symm z.nro _ z1.rwa,nfc _ (z.nhk hkf).symm z.nho _ ?_,by rw [mu2.at_];simp,⟨?_,?_,?_,?_,?_⟩,z.base.trans gf,⟨⟨?_,?_,gk.mono g2,?_,?_⟩,?_,Fms.mono gf z.fm⟩,z.hdc.mono gf,z.hdg,?_,?_,?_⟩
 ·exact z1.hsa
 ·rw [gx];exact nfc _ (ngf _ (mem_cons_self ..)) (ngo _ (mem_cons_self ..)) _ (em _ (mem_cons_self ..))
 ·exact λe he=>nfc _ (ngf _ (mem_cons_of_mem _ he)) (ngo _ (mem_cons_of_mem _ he)) _ (em _ (mem_cons_of_mem _ he))
 ·exact mu2.old (s23 _ _ mu1.at_) (z.nok hkf)
 ·exact λe he=>nfc _ (ne _ (mem_append_left _ he)) (z.nok (hke _ (mem_append_left _ he))) _ (c2 e he)
 ·exact Cls.of c3 λa ha=>by
   obtain⟨vs,e⟩:=c3.at a ha
   rw [e]
   exact nfc _ (ne _ (mem_append_right _ ha)) (z.nok (hke _ (mem_append_right _ ha))) _ e
 ·rw [gx,gd];exact .nil
 ·have nk:∀a,H1 a=none->a∉rw::hs::op::keys (g::f::fs):=λa ha m=>by
   rw [ek] at m
   have:a∈g.c::g.h.es\/a∈rw::hs::op::keys (f::fs):=by
    simp only [mem_cons,mem_append] at m⊢
    rcases m with q | q | q | (q | q) | q<;>simp [q]
   rcases this with m | m
   ·rw [em a m] at ha;cases ha
   ·exact z1.old ha m
  have h1:H1 g.o=none:=by
   cases q:H1 g.o with
   | none=>rfl
   | some u=>
    by_cases e:g.o=f.c
    ·rw [e,mu1.at_] at no;cases no
    ·rw [mu1.old q e] at no;cases no
  exact aL (nk _ h1) (mu2.old ho λe=>by rw [e] at h1;rw [z1.opa] at h1;cases h1)
 ·rw [gd,gs];exact λs h=>by cases h
 ·exact λx ns nl e=>absurd (by rw [e];trivial) gh
 ·exact⟨λh=>absurd h gh,λh=>by cases h⟩
 ·rw [cM]
  have:dH g=1:=by unfold dH;rw [gd,gs];rfl
  lia
 ·rw [length_cons,length_cons];lia
 ·obtain⟨C1,C2,ch,cf,ndc⟩:=z.cel
  exact⟨C1,C2,ch.mono gf,⟨[],[],C2,by rw [gd,gx];exact CtB.emp,gc _,cf.mono gf,rfl⟩,ndc.mono gf⟩
theorem ZI.hnd{g:Fm}{x:Str}{ns:List Str}{nl:Addr}(z:ZI K ob Hb H rw hs op rv hv hd [] n)(gx:g.xs= [])(gd:g.dn= [])(gh:g.h= .ha x ns nl)(ok:mW x ns)(hnl:H nl=none)
 (s01:Same H H1) (fr:H g.c=none) (em:H1 g.c=some (.lst [])) (gk:HgOk K (frz rw hs op [g] H1) g.c g.t g.h)
 (mu1:Mu H1 hs (.lst (hv++[.ref g.t])) H2) (s23:Same H2 H3) (no:H2 g.o=none) (ho:H3 g.o=some (ob (.ha x ns nl) g.c))
 (mu2:Mu H3 op (.lst [.ref g.o]) H'):ZI K ob Hb H' rw hs op rv hv hd [g] (n+1):=by
 have ek:keys [g]= [g.c]:=by unfold keys;rw [gh];rfl
 have iop:op∈rw::hs::op::keys [g]:=mem_cons_of_mem _ (mem_cons_of_mem _ (mem_cons_self ..))
 have ihs:hs∈rw::hs::op::keys [g]:=mem_cons_of_mem _ (mem_cons_self ..)
 have g2:Same (frz rw hs op [g] H1) (frz rw hs op [g] H'):=(fL ihs mu1).trans ((eF s23).trans (fL iop mu2))
 have nin:=z.old fr
 have g1:Same (frz rw hs op [] H) (frz rw hs op [g] H1):=λa u e=>by
  obtain⟨na,e⟩:=bK e
  refine aL (λm=>?_) (s01 _ _ e)
  rw [ek] at m
  simp only [mem_cons,not_mem_nil,or_false] at m
  rcases m with q | q | q | q
  ·exact na (by rw [q];exact mem_cons_self ..)
  ·exact na (by rw [q];exact mem_cons_of_mem _ (mem_cons_self ..))
  ·exact na (by rw [q];exact mem_cons_of_mem _ (mem_cons_of_mem _ (mem_cons_self ..)))
  ·rw [q,fr] at e;cases e
 have gf:=g1.trans g2
 have z1:=z.same s01
 have nch:g.c≠hs:=λe=>nin (by rw [e];exact mem_cons_of_mem _ (mem_cons_self ..))
 have nco:g.c≠op:=λe=>nin (by rw [e];exact mem_cons_of_mem _ (mem_cons_of_mem _ (mem_cons_self ..)))
 have nfc:∀a,a≠hs->a≠op->∀u,H1 a=some u->H' a=some u:=λa x y u e=>mu2.old (s23 _ _ (mu1.old e x)) y
 have ex:=z.cnt
 refine⟨?_,nfc _ z.nrh z.nro _ z1.rwa,mu2.old (s23 _ _ mu1.at_) z.nho,mu2.at_,⟨?_,?_,trivial⟩,z.base.trans gf,⟨⟨?_,?_,gk.mono g2,?_,?_⟩,?_,trivial⟩,z.hdc.mono gf,z.hdg,?_,by simp,?_⟩
 ·rw [ek]
  exact qz (l:=[g.c]) (m:=[]) z.nd (by simp) (λa ha=>by rw [List.mem_singleton.mp ha];exact nin)
 ·rw [gx];exact nfc _ nch nco _ em
 ·rw [gh];exact λ_ h=>by cases h
 ·rw [gx,gd];exact .nil
 ·have h1:H1 g.o=none:=by
   cases q:H1 g.o with
   | none=>rfl
   | some u=>
    by_cases e:g.o=hs
    ·rw [e,mu1.at_] at no;cases no
    ·rw [mu1.old q e] at no;cases no
  rw [gh]
  refine aL (λm=>?_) (mu2.old ho λe=>by rw [e] at h1;rw [z1.opa] at h1;cases h1)
  rw [ek] at m
  simp only [mem_cons,not_mem_nil,or_false] at m
  rcases m with q | q | q | q
  ·rw [q,z1.rwa] at h1;cases h1
  ·rw [q,z1.hsa] at h1;cases h1
  ·rw [q,z1.opa] at h1;cases h1
  ·rw [q,em] at h1;cases h1
 ·rw [gd,gh];exact λs h=>by cases h
 ·exact λy ns' nl' e=>by rw [gh] at e;cases e;exact ok
 ·rw [gh];exact⟨λ_=>rfl,λ_=>trivial⟩
 ·have:gj [g]=1:=by simp [gj,dH,gd,gh,Hg.ds]
  have:gj ([]:List Fm)=0:=rfl
  lia
 ·obtain⟨C1,C2,ch,cf,ndc⟩:=z.cel
  have cf:C2= []:=cf
  subst cf
  have gk2:=gk.mono g2
  rw [gh] at gk2
  exact⟨C1,_,ch.mono gf,⟨[],[nl],[],by rw [gd,gx];exact CtB.emp,by rw [gh];rfl,rfl,rfl⟩,ndc.add (N:=[nl]) z.base gf (λa=>by simp [count_cons];split<;>lia) (λa ha=>by rw [List.mem_singleton.mp ha];exact iD hnl) (λa ha=>by rw [List.mem_singleton.mp ha,gk2.2];simp) λa=>by simp only [count_append,nil_append,append_nil]⟩
theorem ZI.popH{f:Fm}(z:ZI K ob Hb H rw hs op rv hv hd [f] n)(mu:Mu H op (.lst []) H'):∃(hv':List V) (x:Str) (ns:List Str) (nl:Addr),f.h= .ha x ns nl/\ZI K ob Hb H' rw hs op rv hv' (hd++[(x,ns,ofL f.dn)]) [] n:=by
 obtain⟨fo,fi,_⟩:=z.fm
 obtain⟨c1,c2,_⟩:=z.cla
 have ih:=fi.mpr rfl
 cases hh:f.h with
 | wh=>rw [hh] at ih;exact absurd ih id
 | th=>rw [hh] at ih;exact absurd ih id
 | el=>rw [hh] at ih;exact absurd ih id
 | ha x ns nl=>
  have hk:f.c∈keys [f]:=mem_cons_self ..
  have ek:keys [f]= [f.c]:=by unfold keys;rw [hh];rfl
  have g1:Same (frz rw hs op [f] H) (frz rw hs op [] H'):=(fL (mem_cons_of_mem _ (mem_cons_of_mem _ (mem_cons_self ..))) mu).trans (lG λm hm=>by
   rcases List.mem_cons.mp hm with e | hm
   ·rw [e];exact mem_cons_self ..
   ·rcases List.mem_cons.mp hm with e | hm
    ·rw [e];exact mem_cons_of_mem _ (mem_cons_self ..)
    ·rcases List.mem_cons.mp hm with e | hm
     ·rw [e];exact mem_cons_of_mem _ (mem_cons_of_mem _ (mem_cons_self ..))
     ·cases hm)
  have fc:frz rw hs op [] H' f.c=some (.lst f.xs):=aL (λm=>by
   rcases List.mem_cons.mp m with e | m
   ·exact z.nrk hk e
   ·rcases List.mem_cons.mp m with e | m
    ·exact z.nhk hk e
    ·rcases List.mem_cons.mp m with e | m
     ·exact z.nok hk e
     ·cases m) (mu.old (by rw [c1,append_nil]) (z.nok hk))
  have fh:=fo.h.mono g1
  rw [hh] at fh
  have ex:=z.cnt
  refine⟨hv++[.ref f.t],x,ns,nl,rfl,?_,mu.old z.rwa z.nro,mu.old z.hsa z.nho |>.trans (by rw [show fM [f] []= [V.ref f.t] from rfl,show fM [] []= [] from rfl,append_nil]),mu.at_,trivial,z.base.trans g1,trivial,?_,?_,?_,by simp,?_⟩
  ·have nd:=z.nd
   refine List.Sublist.nodup ?_ nd
   exact .cons₂ _ (.cons₂ _ (.cons₂ _ (List.nil_sublist _)))
  ·rw [map_append];exact RpL.app (.cons (DB fh fc (fo.xs.mono g1)) .nil) (z.hdc.mono g1)
  ·intro h hm
   rcases List.mem_append.mp hm with hm | hm
   ·exact z.hdg h hm
   ·rw [List.mem_singleton.mp hm]
    exact⟨kz λs hs=>fo.g s (mem_append_left _ hs),fo.n _ _ _ hh⟩
  ·have:gj [f]=(f.dn.flatMap orS).length+1:=by simp [gj,dH,hh,Hg.ds]
   rw [flatMap_append,length_append,show gj ([]:List Fm)=0 from rfl]
   simp only [flatMap_cons,flatMap_nil,append_nil,rZ]
   lia
  ·obtain⟨C1,C2,ch,⟨D1,D2,D3,b1,b2,b3,rfl⟩,ndc⟩:=z.cel
   rw [hh] at b2
   have b2:D2= [nl]:=b2
   have b3:D3= []:=b3
   subst b2 b3
   exact⟨_,[],CtH.snoc (h:=(x,ns,ofL f.dn)) fh.1 fc (b1.mono g1) (ch.mono g1),rfl,ndc.add (N:=[f.c]) z.base g1 (λa=>by simp [count_cons];split<;>lia) (λa ha=>by rw [List.mem_singleton.mp ha];exact ZI.ik hk) (λa ha=>by rw [List.mem_singleton.mp ha,fc];simp) λa=>by simp only [count_append,count_cons,List.count_nil];lia⟩
theorem ZI.kp{K:PySem.W.Frag}{Hb H H':Hp}{rw hs op:Addr}{rv hv:List V}{hd:List Hd}{fs:List Fm}{n:Nat}(z:ZI K ob Hb H rw hs op rv hv hd fs n):Same (kp em H H') (frz rw hs op fs H'):=by
 refine BM λm hm=>?_
 rcases List.mem_cons.mp hm with rfl | hm
 ·exact⟨_,z.rwa⟩
 ·rcases List.mem_cons.mp hm with rfl | hm
  ·exact⟨_,z.hsa⟩
  ·rcases List.mem_cons.mp hm with rfl | hm
   ·exact⟨_,z.opa⟩
   ·obtain⟨vs,e⟩:=z.cla.at m hm
    exact⟨_,e⟩
theorem ZI.kpo{K:PySem.W.Frag}{Hb H H1 X:Hp}{rw hs op:Addr}{rv hv:List V}{hd:List Hd}{fs:List Fm}{n:Nat}{g:Fm}(z:ZI K ob Hb H rw hs op rv hv hd fs n)(h:∀a u,X a=some u->H1 a=some u/\H a=none/\a∉g.c::g.h.es):Same X (frz rw hs op (g::fs) H1):=λa u e=>by
 obtain⟨e1,e2,e3⟩:=h a u e
 refine aL (λm=>?_) e1
 have no:=z.old e2
 rcases List.mem_cons.mp m with q | m
 ·exact no (by rw [q];exact mem_cons_self ..)
 ·rcases List.mem_cons.mp m with q | m
  ·exact no (by rw [q];exact mem_cons_of_mem _ (mem_cons_self ..))
  ·rcases List.mem_cons.mp m with q | m
   ·exact no (by rw [q];exact mem_cons_of_mem _ (mem_cons_of_mem _ (mem_cons_self ..)))
   ·rw [show keys (g::fs)=(g.c::g.h.es)++keys fs from rfl] at m
    rcases List.mem_append.mp m with m | m
    ·exact e3 m
    ·exact no (mem_cons_of_mem _ (mem_cons_of_mem _ (mem_cons_of_mem _ m)))
theorem ZI.xl{K:PySem.W.Frag}{Hb H:Hp}{rw hs op:Addr}{rv hv:List V}{hd:List Hd}{f:Fm}{fs:List Fm}{n:Nat}(z:ZI K ob Hb H rw hs op rv hv hd (f::fs) n):f.xs.length<=n:=by
 have e:=z.fm.1.xs.len
 rw [length_map] at e
 have l:=rV f.dn
 have c:=z.cnt
 rw [cM] at c
 have:(f.dn.flatMap orS).length<=dH f:=by unfold dH;rw [flatMap_append,length_append];lia
 lia
end
section
variable{P:Program}{w:World}{K:PySem.W.Frag}{mg:Str->Option Value}{base:Heap}
def obL(h:Hg)(c:Addr):HO:=.lst (.str (wW h)::.ref c::h.es.map V.ref)
def Hg.nm:Hg->List Str
 | .ha x _ _=>[x]
 | _=>[]
def nmO(fs:List Fm):List Str:=fs.flatMap λf=>f.h.nm
def NmZ(nl:List Str)(hd:List Hd)(fs:List Fm):Prop:=hd.map (·.1)++nmO fs=nl.take (hd.length+(nmO fs).length)/\hd.length+(nmO fs).length<=8
theorem mZ:nmO ([]:List Fm)= []:=rfl
theorem NmZ.of{nl:List Str}{hd:List Hd}{fs fs':List Fm}(h:NmZ nl hd fs)(e:nmO fs'=nmO fs):NmZ nl hd fs':=by
 unfold NmZ at h⊢
 rw [e];exact h
theorem w8{f:Fm}{fs gs:List Fm}(h:f.h.nm= [])(h2:nmO gs=nmO fs):nmO (f::gs)=nmO fs:=by
 unfold nmO at h2⊢
 rw [flatMap_cons,h,h2];rfl
theorem Cm{f g:Fm}{fs:List Fm}(h:f.h.nm=g.h.nm):nmO (f::fs)=nmO (g::fs):=by
 unfold nmO
 rw [flatMap_cons,flatMap_cons,h]
theorem DC{h:Hg}(q:¬h.isHa):h.nm= []:=by cases h<;>simp_all [Hg.nm,Hg.isHa]
theorem DD{l:List Str}(h:∀x∈l,Nok x):(l.map λx=>x.length).sum<=20*l.length:=by
 induction l with
 | nil=>exact zero_le _
 | cons x l ih=>
  have:=ih λy hy=>h y (mem_cons_of_mem _ hy)
  have:=(h x (mem_cons_self ..)).len
  rw [map_cons,sum_cons,length_cons];lia
def bF(hd:Int):Int:=if bY hd 508%2=0 then 300 else 400
def Co(K:PySem.W.Frag):Sp:=λvs H Q _=>∃(hs op rw:Addr) (head:Int) (Hb:Hp) (rv hv:List V) (hd:List Hd) (n:Nat),vs= [.ref hs,.int head,.ref op]/\ZI K obL Hb H rw hs op rv hv hd [] n/\NmZ (aP head (bF head) 8) hd []/\hd.length<=7/\
 ∀(H':Hp) (x:Str) (g:Fm),ZI K obL Hb H' rw hs op rv hv hd [g] (n+1)->NmZ (aP head (bF head) 8) hd [g]->(∀k t s r,RowE k x ⟨t,s,r,hd,[]⟩ ⟨t,s,r,hd,[g.pf]⟩)->Q (.str x) H'
theorem DE(D:DefAt K mg "_law_hand" jd ["hands","head","opened"])(hlen:mg "len" =none)(G__law_stir:OkD P w K mg base 1 "_law_stir" ["cell","k"] dC)(G__law_names:OkD P w K mg base 2 "_law_names" ["head","k","many"] (wS aP)):OkD P w K mg base 3 "_law_hand" ["hands","head","opened"] (Co K):=by
 refine D.ok sc__law_hand (λvs H Q E h=>?_) (λf cdv A outer s H vs Q E hr h=>?_)
 ·obtain⟨_,_,_,_,_,_,_,_,_,rfl,_⟩:=h;rfl
 obtain⟨hs,op,rw,head,Hb,rv,hv,hd,n,rfl,z,nmz,l7,q⟩:=h
 have nmz:=PLift.up nmz
 have big:100000<=sizeLine:=by unfold sizeLine;decide
 have lhv:hv.length=hd.length:=by have:=z.hdc.len;rwa [length_map] at this
 refine⟨_,(af (ai (i:=3) sc__law_hand.nd rfl (Or.inl rfl) (ao av (aA G__law_names hr rfl (aa (pv 1) (aa (ao av (ak (aa ae (aa ae ad))) (ag aI (aA G__law_stir hr rfl (aa (pv 1) (aa ae ad))) ae) (λ_ _=>rfl)) (aa ae ad)))) (aN aQ rfl hlen PySem.boot_len (aa (pv 0) ad)) (λ_ _=>rfl)))
 (af (ai (i:=4) sc__law_hand.nd rfl (Or.inl rfl) (aA G__law_stir hr rfl (aa (pv 1) (aa (ag aM ae (aN aQ rfl hlen PySem.boot_len (aa (pv 0) ad))) ad))))
 (af (ai (i:=5) sc__law_hand.nd rfl (Or.inl rfl) (aA G__law_names hr rfl (aa (pv 1) (aa (ag aM ae (ag dh ae (aN aQ rfl hlen PySem.boot_len (aa (pv 0) ad)))) (aa (ag aI (pv 4) ae) ad)))))
 (af (aS (bp (pv 0) (az (aa (pv 3) (aa (pv 5) (aa (ak ad) ad))))))
 (af (aS (bp (pv 2) (ak (aa ac (aa (ao av (ao av (pv 0) (gu eT ae) (λ_ _=>rfl)) ae (λ_ _=>rfl)) ad)))))
 (ah (ax (gY ac (ag aV (ak (aa ac (aa (pv 3) ad))) (pv 5)))))))))),?_⟩
 walk_at "r2"
 intro p1 H1 hp1 g1 h1
 walk_at "r2"
 refine⟨head,508,rfl,by decide,by decide,λm e0 m0 m1=>?_⟩
 have eb:atI [V.int 300,V.int 400] (m%2)=some (.int (bF head)):=by
  unfold bF
  rw [<-e0]
  have c:m%2=0\/m%2=1:=by lia
  rcases c with c | c<;>rw [c]<;>rfl
 have kb:0<=bF head/\bF head<=900:=by unfold bF;split<;>lia
 clear e0
 walk_at "r2"
 refine⟨head,bF head,8,rfl,kb.1,kb.2,by decide,λnl8 H2 hp2 g2 h2=>?_⟩
 have z0:H hs=some (.lst hv):=by have:=z.hsa;rwa [show fM [] []= [] from rfl,append_nil] at this
 have z2:=g2 _ _ (g1 _ _ z0)
 clear h1 eb
 have ln:=dG head (bF head) 8
 obtain⟨nx,hnx⟩:∃x,(aP head (bF head) 8)[hd.length]? =some x:=⟨_,getElem?_eq_getElem (by lia)⟩
 have enx:atI ((aP head (bF head) 8).map V.str) (hd.length:Int)=some (.str nx):=bU (by rw [getElem?_map,hnx];rfl)
 walk_at "r2"
 refine⟨head,340+hd.length,rfl,by lia,by lia,λm2 e0 m20 m21=>?_⟩
 clear e0 h2 enx
 walk_at "r2"
 obtain⟨n4,en4,hn4⟩:∃n4:Nat,m2%4=(n4:Int)/\n4<=3:=⟨(m2%4).toNat,by lia,by lia⟩
 rw [en4]
 refine⟨head,700+20*hd.length,n4,rfl,by lia,by lia,by lia,λnl H3 hp3 g3 h3=>?_⟩
 have z3:=g3 _ _ z2
 clear en4
 walk_at "r2"
 intro u H4 hu g4 h4
 walk_at "r2"
 intro t H5 ht g5 h5
 have z5:=g5 _ _ (g4 _ _ z3)
 walk_at "r2"
 refine⟨by lia,λH6 mu1=>?_⟩
 have nth:t≠hs:=λe=>by rw [e] at ht;rw [g4 _ _ z3] at ht;cases ht
 have z6:=mu1.at_
 have t6:=mu1.old h5 nth
 have la:=eX hv (V.ref t)
 have o0:H op=some (.lst []):=z.opa
 have o5:=g5 _ _ (g4 _ _ (g3 _ _ (g2 _ _ (g1 _ _ o0))))
 have o6:=mu1.old o5 z.nho.symm
 walk_at "r2"
 intro o H7 ho g7 h7
 have o7:=g7 _ _ o6
 clear z6 t6 la o6
 walk_at "r2"
 refine⟨by lia,λH8 mu2=>?_⟩
 have nnh:nl≠hs:=λe=>by rw [e] at hp3;rw [z2] at hp3;cases hp3
 have nno:nl≠op:=λe=>by rw [e] at hp3;rw [g2 _ _ (g1 _ _ o0)] at hp3;cases hp3
 have n8:=mu2.old (g7 _ _ (mu1.old (g5 _ _ (g4 _ _ h3)) nnh)) nno
 walk_at "r2"
 intro p9 H9 hp9 g9 h9
 have n9:=g9 _ _ n8
 have lnn:=dG head (700+20*hd.length) n4
 clear n8
 walk_at "r2"
 refine⟨by rw [length_map];lia,λp10 H10 hp10 g10 h10=>?_⟩
 obtain⟨no8,nd8⟩:=iC head (bF head) 8 (by decide)
 obtain⟨no4,nd4⟩:=iC head (700+20*hd.length) n4 (by lia)
 have nkx:Nok nx:=no8 nx (mem_of_getElem? hnx)
 have wj:JoinOk (Str.ofString " ") (Str.ofString "hand"::nx::aP head (700+20*hd.length) n4)=true:=by
  refine PyProof.Rows.joinOk_of_weight ?_ (by decide +kernel)
  have e5:(Str.ofString "hand").length=4:=by decide +kernel
  have:=DD no4
  have:=nkx.len
  rw [map_cons,map_cons,sum_cons,sum_cons,length_cons,length_cons,e5]
  lia
 walk_at "r2"
 refine⟨Str.ofString "hand"::nx::aP head (700+20*hd.length) n4,rfl,wj,?_⟩
 have g12:=g1.trans g2
 have g13:=g12.trans g3
 have g14:=g13.trans g4
 have tn:t∉rw::hs::op::[u]:=λm=>by
  rcases List.mem_cons.mp m with e | m
  ·exact(z.same g14).old ht (by rw [e];exact mem_cons_self ..)
  ·rcases List.mem_cons.mp m with e | m
   ·exact nth e
   ·rcases List.mem_cons.mp m with e | m
    ·exact(z.same g14).old ht (by rw [e];exact mem_cons_of_mem _ (mem_cons_of_mem _ (mem_cons_self ..)))
    ·rw [List.mem_singleton.mp m,h4] at ht;cases ht
 have nn:nl∉rw::hs::op::[u]:=λm=>by
  rcases List.mem_cons.mp m with e | m
  ·exact(z.same g12).old hp3 (by rw [e];exact mem_cons_self ..)
  ·rcases List.mem_cons.mp m with e | m
   ·exact nnh e
   ·rcases List.mem_cons.mp m with e | m
    ·exact nno e
    ·rw [<-List.mem_singleton.mp m,h3] at hu;cases hu
 have zz:=z.hnd (g:=⟨u,[],[],t,o,.ha nx (aP head (700+20*hd.length) n4) nl⟩) (x:=nx) (ns:=aP head (700+20*hd.length) n4) (nl:=nl) rfl rfl rfl ⟨nkx,λy hy=>(no4 y hy).ok,by lia⟩ (g12.free hp3) (g14.trans g5) (g13.free hu) (g5 _ _ h4) ⟨aL tn h5,aL nn (g5 _ _ (g4 _ _ h3))⟩ mu1 g7 ho h7 mu2
 have hn0:=nmz.down.1
 rw [mZ,append_nil,length_nil,add_zero] at hn0
 have nmg:nmO [(⟨u,[],[],t,o,.ha nx (aP head (700+20*hd.length) n4) nl⟩:Fm)]= [nx]:=rfl
 refine q H10 _ _ (zz.same (g9.trans g10)) ⟨?_,?_⟩ λk t s r=>.hand (by rw [lH];exact wU nkx.nm (by lia) λy hy=>(no4 y hy).nm) nd4 ?_ ⟨nkx,λy hy=>(no4 y hy).ok,by lia⟩ l7
 ·rw [nmg,hn0,length_singleton,List.take_add_one,hnx];rfl
 ·rw [nmg,length_singleton];lia
 ·rw [hn0]
  intro m
  obtain⟨j,hj,e⟩:=List.mem_iff_getElem.mp m
  rw [length_take] at hj
  rw [List.getElem_take] at e
  have:=(getElem?_inj (i:=j) (j:=hd.length) (by lia) nd8).mp (by rw [hnx,getElem?_eq_getElem (by lia),e])
  lia
theorem DF{h:Hg}(e:wW h=Str.ofString "if"):∃k vs va vb sg a b e,h= .th k vs va vb sg a b e:=by
 cases h with
 | ha=>exact absurd e (show Str.ofString "hand"≠Str.ofString "if" by decide +kernel)
 | wh=>exact absurd e (show Str.ofString "while"≠Str.ofString "if" by decide +kernel)
 | el=>exact absurd e (show Str.ofString "else"≠Str.ofString "if" by decide +kernel)
 | th k vs va vb sg a b e'=>exact⟨k,vs,va,vb,sg,a,b,e',rfl⟩
theorem ni{s:Sm}{n:Nat}(h:bw s 0):bw s n:=by
 cases s with
 | pl=>simpa only [bw] using h
 | st=>simpa only [bw] using h
 | wh=>simp only [bw] at h;obtain⟨_,_,_,m,e,_⟩:=h;cases e
 | fi=>simp only [bw] at h;obtain⟨_,_,_,m,e,_⟩:=h;cases e
theorem Cp{H H1 G:Hp}{t:Addr}{s:Sm}{k:Nat}{row:Str}(r:Rp K (kp em H H1) (.ref t) (smD s))(st:StR k row s)(g:Same (kp em H H1) G):∃Cs,CtS G s (.ref t) Cs/\(∀a,Cs.count a<=1)/\∀a∈Cs,H a=none/\G a≠none:=by
 cases st with
 | pl _=>exact⟨[],by unfold CtS;rfl,λa=>by simp,λa ha=>by cases ha⟩
 | st _=>
  unfold smD at r
  cases r with
  | tup h1 r=>
   obtain⟨v0,_,rfl,_,r⟩:=r.cons_inv
   obtain⟨v1,_,rfl,_,r⟩:=r.cons_inv
   obtain⟨v2,_,rfl,_,r⟩:=r.cons_inv
   obtain⟨v3,_,rfl,q,r⟩:=r.cons_inv
   cases r
   cases q with
   | lst h2 _=>
    refine⟨[_],(by unfold CtS;exact⟨t,_,_,_,_,rfl,g _ _ h1,rfl⟩),λa=>by simp [count_cons];split<;>lia,λa ha=>?_⟩
    rw [List.mem_singleton.mp ha]
    refine⟨?_,by rw [g _ _ h2];simp⟩
    rcases (cG h2).1 with ⟨_,q⟩ | q
    ·cases q
    ·exact q
def Cq(K:PySem.W.Frag):Sp:=λvs H Q _=>∃(c:Int) (k:Nat) (op rw hs:Addr) (most:Bool) (Hb:Hp) (nl:List Str) (rv hv:List V) (hd:List Hd) (f:Fm) (fs:List Fm) (n:Nat),vs= [.int c,.int (k:Nat),.ref op,.bl most]/\n<=900/\
 ZI K obL Hb H rw hs op rv hv hd (f::fs) n/\NmZ nl hd (f::fs)/\(most=true->hd.length+1<=7)/\∀(H':Hp) (x:Str) (hv':List V) (hd':List Hd) (fs':List Fm),ZI K obL Hb H' rw hs op rv hv' hd' fs' (n+1)->NmZ nl hd' fs'->(fs'= []->hd'.length<=7)->(∀t s r,RowE k x ⟨t,s,r,hd,f.pf::fs.map Fm.pf⟩ ⟨t,s,r,hd',fs'.map Fm.pf⟩)->Q (.str x) H'
theorem DH(D:DefAt K mg "_law_row" jL ["cell","k","opened","most"])(hlen:mg "len" =none)(hlist:mg "list" =none)(G__law_stir:OkD P w K mg base 1 "_law_stir" ["cell","k"] dC)(G__law_opener:OkD P w K mg base 8 "_law_opener" ["cell","k"] (BY K))(G__law_plain:OkD P w K mg base 8 "_law_plain" ["cell","k"] (BZ K)):
 OkD P w K mg base 9 "_law_row" ["cell","k","opened","most"] (Cq K):=by
 refine D.ok sc__law_row (λvs H Q E h=>?_) (λfu cdv A outer s H vs Q E hr h=>?_)
 ·obtain⟨_,_,_,_,_,_,_,_,_,_,_,_,_,_,rfl,_⟩:=h;rfl
 obtain⟨c,k,op,rw,hs,most,Hb,nl,rv,hv,hd,f,fs,n,rfl,n9,z,nmz,hmost,q⟩:=h
 have nmz:=PLift.up nmz
 have big:100000<=sizeLine:=by unfold sizeLine;decide
 obtain⟨os,eos⟩:∃os,(fs.map λf=>V.ref f.o).reverse=os:=⟨_,rfl⟩
 have ho:H op=some (.lst (os++[.ref f.o])):=by have:=z.opa;rw [map_cons,reverse_cons,eos] at this;exact this
 have hoo:H f.o=some (.lst (.str (wW f.h)::.ref f.c::f.h.es.map V.ref)):=cI _ _ z.fm.1.o
 have la:=eX os (V.ref f.o)
 have los:os.length=fs.length:=by rw [<-eos,length_reverse,length_map]
 have lv:=z.lv
 rw [length_cons] at lv
 have xl:=z.xl
 have hfc:H f.c=some (.lst f.xs):=by have:=z.cla.1;rwa [append_nil] at this
 refine⟨_,(af (ai (i:=4) sc__law_row.nd rfl (Or.inl rfl) (aA G__law_stir hr rfl (aa (pv 0) (aa ae ad))))
 (af (aB (PW.pt (dJ (aj aJ (ag aI (pv 4) ae) ae (ap _)) (cY (aj aJ (ao av (ao av (pv 2) (gu eT ae) (λ_ _=>rfl)) ae (λ_ _=>rfl)) ac (ap _)))))
 (af (bQ (ak (aa ac (aa (ao av (ao av (pv 2) (gu eT ae) (λ_ _=>rfl)) ae (λ_ _=>rfl)) ad))) (lL (pv 2) (gu eT ae) iL))
 (ah (ax ac)))
 ay)
 (af (aB (PW.pt (dJ (aj aJ (ag aI (pv 4) ae) ae (ap _)) (cY (PW.pt (iG (aj jF (aN aQ rfl hlen PySem.boot_len (aa (pv 2) ad)) ae (ap _)) (hW (hV (pv 3))))))))
 (af (aS (oY PySem.F.plainAttrs_list PySem.F.slot_list_pop PySem.F.type_list_pop mP (pv 2)))
 (ah (ax ac)))
 ay)
 (af (aB (PW.pt (dJ (aj jF (ag aI (pv 4) ae) ae (ap _)) (cY (aj gR (aN aQ rfl hlen PySem.boot_len (aa (pv 2) ad)) ae (ap _)))))
 (af (bQ (aA G__law_opener hr rfl (aa (pv 0) (aa (pv 1) ad))) (gZ 2 rfl (aD (aw (i:=5) sc__law_row.nd rfl (Or.inl rfl)) (aD (aw (i:=6) sc__law_row.nd rfl (Or.inl rfl)) bO))))
 (af (aS (bp (ao av (ao av (pv 2) (gu eT ae) (λ_ _=>rfl)) ae (λ_ _=>rfl)) (pv 6)))
 (af (aS (bp (pv 2) (ag aV (ak (aa (ao av (pv 6) ae (λ_ _=>rfl)) (aa (ao av (pv 6) ae (λ_ _=>rfl)) ad))) (dL sT rfl hlist (by decide +kernel) (aa (bg fQ (pv 6) (bA ae) bz) ad)))))
 (ah (ax (pv 5))))))
 ay)
 (af (bQ (aA G__law_plain hr rfl (aa (pv 0) (aa (pv 1) ad))) (gZ 2 rfl (aD (aw (i:=5) sc__law_row.nd rfl (Or.inl rfl)) (aD (aw (i:=6) sc__law_row.nd rfl (Or.inl rfl)) bO))))
 (af (aS (bp (ao av (ao av (pv 2) (gu eT ae) (λ_ _=>rfl)) ae (λ_ _=>rfl)) (pv 6)))
 (ah (ax (pv 5))))))))),?_⟩
 walk_at "r2"
 refine⟨c,0,rfl,by decide,by decide,λm e0 m0 m1=>?_⟩
 clear e0
 walk_at "r2"
 rename_i T
 have rest:T {nx:=λx H'=>Q V.non H',rt:=Q} [some (V.int c),some (V.int (k:Nat)),some (V.ref op),some (V.bl most),some (V.int m),none,none] H:=by
  walk_at "r2"
  rename_i T2
  have rest2:T2 {nx:=λx H'=>Q V.non H',rt:=Q} [some (V.int c),some (V.int (k:Nat)),some (V.ref op),some (V.bl most),some (V.int m),none,none] H:=by
   walk_at "r2"
   rename_i T3
   have rest3:T3 {nx:=λx H'=>Q V.non H',rt:=Q} [some (V.int c),some (V.int (k:Nat)),some (V.ref op),some (V.bl most),some (V.int m),none,none] H:=by
    walk_at "r2"
    refine⟨c,k,rfl,λp t H1 x sm hp g1 h1 r1 ok st=>?_⟩
    have ho1:=g1 _ _ ho
    have hoo1:=g1 _ _ hoo
    have hfc1:=g1 _ _ hfc
    clear ho hoo hfc
    walk_at "r2"
    refine⟨by lia,λH2 mu=>?_⟩
    obtain⟨Cs,ct,cs1,cs2⟩:=Cp r1 st z.kp
    have os1:(orS sm).length=1:=by cases st<;>simp [orS]
    have z':=z.push g1 mu (r1.mono z.kp) (ni ok) ct cs1 cs2
    rw [os1] at z'
    walk_at "r2"
    refine q _ _ _ _ _ z' ?_ (λe=>by cases e) λt s r=>st.row ok
    exact nmz.down.of rfl
   refine aY (λc5=>?_) λc5=>?_
   ·walk_at "r2"
    refine aY (λc6=>?_) λc6=>?_
    ·have l6:fs.length+1<6:=by rw [length_append,length_singleton,los] at c6;lia
     clear rest3 c6
     walk_at "r2"
     refine⟨c,k,rfl,λp t H1 x wd sg a b bs dg da db g1 h1 hp ht h1t rwx alt=>?_⟩
     have ho1:=g1 _ _ ho
     have hoo1:=g1 _ _ hoo
     have hfc1:=g1 _ _ hfc
     clear ho hoo hfc
     walk_at "r2"
     refine⟨by lia,λH2 mu1=>?_⟩
     have ntc:t≠f.c:=λe=>by rw [e] at h1t;rw [hfc1] at h1t;cases h1t
     have t2:=mu1.old h1t ntc
     have hkf:f.c∈keys (f::fs):=mem_cons_self ..
     have ho2:=mu1.old ho1 (z.nok hkf).symm
     rcases alt with ⟨rfl,u,rfl,hu,h1u,⟨rg,ra,rb,gg,ga,gb⟩⟩ | ⟨rfl,u,v,rfl,nuv,hu,hv',h1u,h1v,⟨rg,ra,rb,gg,ga,gb⟩⟩
     ·walk_at "r2"
      refine⟨_,rfl,?_⟩
      walk_at "r2"
      intro p3 H3 hp3 g3 h3
      have t3:=g3 _ _ t2
      have ho3:=g3 _ _ ho2
      clear t2 ho2
      walk_at "r2"
      refine⟨λh=>absurd h.1 (by decide),λp4 H4 hp4 g4 h4=>?_⟩
      have h4':H4 p4=some (.tup []):=h4
      have h34:=g4 _ _ h3
      have ho4:=g4 _ _ ho3
      clear h4 t3 ho3 h3
      walk_at "r2"
      intro p5 H5 hp5 g5 h5
      have h35:=g5 _ _ h34
      have ho5:=g5 _ _ ho4
      clear h4' ho4 h34
      walk_at "r2"
      intro o H6 ho6 g6 h6
      have ho7:=g6 _ _ ho5
      clear h5 h35 ho5
      walk_at "r2"
      refine⟨by rw [length_append,length_singleton];lia,λH7 mu2=>?_⟩
      walk_at "r2"
      have sx:Same (cg u (kp em H H1)) (frz rw hs op (⟨u,[],[],t,o,.wh k sg a b dg da db⟩::f::fs) H1):=z.kpo λa' x' e'=>by
       obtain⟨n1,e'⟩:=cF e'
       obtain⟨hN,h2'⟩:=cG e'
       exact⟨h2',hN.resolve_left (λ⟨_,q⟩=>by cases q),λm=>n1 (List.mem_singleton.mp m)⟩
      have ft:frz rw hs op (⟨u,[],[],t,o,.wh k sg a b dg da db⟩::f::fs) H1 t=some (.tup [.str (Str.ofString "while"),.int k,sg,a,b,.ref u]):=sx _ _ (bI (λe'=>by rw [e',h1u] at h1t;cases h1t) (aT ht h1t))
      have z':=z.opn (g:=⟨u,[],[],t,o,.wh k sg a b dg da db⟩) l6 rfl rfl id rfl (λ_=>rfl) g1 (λa' ha=>by rw [List.mem_singleton.mp ha];exact hu) (by show [u].Nodup;simp) (λa' ha=>by rw [List.mem_singleton.mp ha];exact h1u)
       ⟨ft,rg.mono sx,ra.mono sx,rb.mono sx,gg,ga,gb⟩ mu1 (g3.trans (g4.trans (g5.trans g6))) (g3.free (g4.free (g5.free ho6))) h6 (by rw [map_cons,reverse_cons,eos];exact mu2)
      refine q _ _ _ _ _ z' ?_ (λe=>by cases e) λt s r=>.whl rwx (by rw [length_map];exact l6) gg ga gb
      exact nmz.down.of rfl
     ·walk_at "r2"
      refine⟨_,rfl,?_⟩
      walk_at "r2"
      intro p3 H3 hp3 g3 h3
      have t3:=g3 _ _ t2
      have ho3:=g3 _ _ ho2
      clear t2 ho2
      walk_at "r2"
      refine⟨λh=>absurd h.1 (by decide),λp4 H4 hp4 g4 h4=>?_⟩
      have h4':H4 p4=some (.tup [V.ref v]):=h4
      have h34:=g4 _ _ h3
      have ho4:=g4 _ _ ho3
      clear h4 t3 ho3 h3
      walk_at "r2"
      intro p5 H5 hp5 g5 h5
      have h35:=g5 _ _ h34
      have ho5:=g5 _ _ ho4
      clear h4' ho4 h34
      walk_at "r2"
      intro o H6 ho6 g6 h6
      have ho7:=g6 _ _ ho5
      clear h5 h35 ho5
      walk_at "r2"
      refine⟨by rw [length_append,length_singleton];lia,λH7 mu2=>?_⟩
      walk_at "r2"
      have sx:Same (cg u (cg v (kp em H H1))) (frz rw hs op (⟨u,[],[],t,o,.th k sg a b dg da db v⟩::f::fs) H1):=z.kpo λa' x' e'=>by
       obtain⟨n1,e'⟩:=cF e'
       obtain⟨n2,e'⟩:=cF e'
       obtain⟨hN,h2'⟩:=cG e'
       exact⟨h2',hN.resolve_left (λ⟨_,q⟩=>by cases q),λm=>by rcases List.mem_cons.mp m with q' | m;exact n1 q';exact n2 (List.mem_singleton.mp m)⟩
      have ft:frz rw hs op (⟨u,[],[],t,o,.th k sg a b dg da db v⟩::f::fs) H1 t=some (.tup [.str (Str.ofString "if"),.int k,sg,a,b,.ref u,.ref v]):=sx _ _ (bI (λe'=>by rw [e',h1u] at h1t;cases h1t) (bI (λe'=>by rw [e',h1v] at h1t;cases h1t) (aT ht h1t)))
      have z':=z.opn (g:=⟨u,[],[],t,o,.th k sg a b dg da db v⟩) l6 rfl rfl id rfl (λ_=>rfl) g1 (λa' ha=>by rcases List.mem_cons.mp ha with q' | ha;rw [q'];exact hu;rw [List.mem_singleton.mp ha];exact hv') (by show [u,v].Nodup;simpa using nuv) (λa' ha=>by rcases List.mem_cons.mp ha with q' | ha;rw [q'];exact h1u;rw [List.mem_singleton.mp ha];exact h1v)
       ⟨ft,rg.mono sx,ra.mono sx,rb.mono sx,gg,ga,gb⟩ mu1 (g3.trans (g4.trans (g5.trans g6))) (g3.free (g4.free (g5.free ho6))) h6 (by rw [map_cons,reverse_cons,eos];exact mu2)
      refine q _ _ _ _ _ z' ?_ (λe=>by cases e) λt s r=>.iff rwx (by rw [length_map];exact l6) gg ga gb
      exact nmz.down.of rfl
    ·exact rest3
   ·exact rest3
  have pop:(fs= []->most=true)->∀H',Mu H op (.lst os) H'->Q (V.str (Str.ofString "end")) H':=λhc H' mu=>by
   clear rest2 T T2
   rw [<-eos] at mu
   cases fs with
   | nil=>
    obtain⟨hv',x',ns',nl',hh,z'⟩:=z.popH mu
    have h6:=hmost (hc rfl)
    have nf:nmO [f]= [x']:=by simp [nmO,hh,Hg.nm]
    have nz:=nmz.down
    unfold NmZ at nz
    rw [nf,length_singleton] at nz
    refine q _ _ _ _ _ (z'.more (le_succ _)) ⟨?_,?_⟩ (λ_=>by rw [length_append,length_singleton];exact h6) λt s r=>?_
    ·rw [mZ,append_nil,map_append,length_nil,add_zero,length_append,length_singleton];exact nz.1
    ·rw [mZ,length_append,length_singleton,length_nil];exact nz.2
    ·have:f.pf=⟨f.dn,.ha x' ns'⟩:=by unfold Fm.pf;rw [hh];rfl
     rw [this]
     exact .finH (hJ (by simp))
   | cons g r=>
    have nh:¬f.h.isHa:=λh=>by cases z.fm.2.1.mp h
    refine q _ _ _ _ _ ((z.pop mu).more (le_succ _)) ?_ (λe=>by cases e) λt s r=>.fin (hJ (by simp))
    exact nmz.down.of (w8 (fs:=g::r) (gs:=g::r) (DC nh) rfl).symm
  refine aY (λc2=>?_) λc2=>?_
  ·walk_at "r2"
   refine aY (λc3=>?_) λc3=>?_
   ·have hne:fs= []->most=true:=λe=>by
     rw [e] at los
     rw [length_append,length_singleton,los,length_nil] at c3
     lia
    walk_at "r2"
    exact⟨⟨_,SqL.of ho⟩,op,os,_,rfl,rfl,ho,λH' mu=>pop hne H' mu⟩
   ·walk_at "r2"
    refine aY (λc4=>?_) λc4=>?_
    ·walk_at "r2"
     exact⟨⟨_,SqL.of ho⟩,op,os,_,rfl,rfl,ho,λH' mu=>pop (λ_=>c4) H' mu⟩
    ·exact rest2
  ·exact rest2
 refine aY (λc1=>?_) λc1=>?_
 ·by_cases hi:wW f.h=Str.ofString "if"
  ·obtain⟨kk,vs,va,vb,sg,a,b,e,hh⟩:=DF hi
   have hoo':H f.o=some (.lst [.str (Str.ofString "if"),.ref f.c,.ref e]):=by rw [hh] at hoo;exact hoo
   clear hoo hi rest
   walk_at "r2"
   intro o' H1 ho' g1 h1
   have ho1:=g1 _ _ ho
   walk_at "r2"
   refine⟨os.length,by unfold ixN;rw [if_neg (by decide),length_append,length_singleton,if_pos (by lia)];congr 1;lia,λH2 mu=>?_⟩
   rw [List.set_append_right _ _ (le_refl _),sub_self] at mu
   walk_at "r2"
   have z':=(z.same g1).els hh h1 (z.old ho') (by rw [eos];exact mu)
   refine q _ _ _ _ _ (z'.more (le_succ _)) ?_ (λe=>by cases e) λt s r=>?_
   ·exact nmz.down.of (Cm (by rw [hh];rfl))
   ·have:f.pf=⟨f.dn,.th kk sg a b⟩:=by unfold Fm.pf;rw [hh];rfl
    rw [this]
    exact .els (hJ (by simp))
  ·walk_at "r2"
 ·exact rest
end
theorem w9{α β:Type}{l:List α}{x:α}(h:x∈l)(f:α->List β):(f x).length<=(l.flatMap f).length:=by
 induction l with
 | nil=>cases h
 | cons y l ih=>
  rw [flatMap_cons,length_append]
  rcases List.mem_cons.mp h with rfl | h
  ·lia
  ·have:=ih h;lia
theorem DI{t s r:List (Str×List PyData)}{hd:List Hd}(lt:t.length<=100)(ls:s.length<=100)(lr:r.length<=100)(lh:hd.length<=100)(ot:∀o∈t++(s++r),DG 5 (bM o))(hb:∀h∈hd,fK h.2.2 6/\mW h.1 h.2.1)(cn:(hd.flatMap λh=>orB h.2.2).length<=1000):DG 60 (Pg.D ⟨t,s,r,hd⟩):=by
 show DG 60 (.tuple [.list (t.map bM),.list (s.map bM),.list (r.map bM),.list (hd.map hdD)])
 refine dg_mono (dg_tup (n:=23) (all_cons (dg_mono (eE (jB λo ho=>ot o (by simp [ho])) (by rw [length_map];lia)) (by decide)) (all_cons (dg_mono (eE (jB λo ho=>ot o (by simp [ho])) (by rw [length_map];lia)) (by decide)) (all_cons (dg_mono (eE (jB λo ho=>ot o (by simp [ho])) (by rw [length_map];lia)) (by decide)) (all_cons (eE (jB λh mh=>?_) (by rw [length_map];lia)) all_nil)))) (by simp)) (by decide)
 obtain⟨h1,h2⟩:=hb h mh
 have h4:=le_trans (w9 mh λh=>orB h.2.2) cn
 exact dg_tup (n:=21) (all_cons (dg_str h2.ok.ok) (all_cons (dg_mono (eE (n:=0) (jB λx hx=>dg_str (h2.al x hx)) (by rw [length_map];have:=h2.len;lia)) (by decide)) (all_cons (eE (mw _ 6 h1 h4) (le_trans (kL _) h4)) all_nil))) (by simp)
theorem ZI.close{K:PySem.W.Frag}{ob:Hg->Addr->HO}{Hb:Hp}{rw hs op:Addr}{rv:List V}{t s r:List (Str×List PyData)}{n:Nat}(m:Nat):∀{fs:List Fm} {H:Hp} {hv:List V} {hd:List Hd} {ts:List Str},fs.length=m->ZI K ob Hb H rw hs op rv hv hd fs n->Reach ts ⟨t,s,r,hd,fs.map Fm.pf⟩->
 ∃(H':Hp) (hv':List V) (hd':List Hd),ZI K ob Hb H' rw hs op rv hv' hd' [] n/\(∀a,a≠op->H' a=H a)/\Reach (ts++replicate m (Str.ofString "end")) ⟨t,s,r,hd',[]⟩/\hd'.length<=hd.length+1:=by
 induction m with
 | zero=>
  intro fs H hv hd ts e z rc
  have e:=List.eq_nil_of_length_eq_zero e
  subst e
  exact⟨H,hv,hd,z,λ_ _=>rfl,by simpa using rc,le_succ _⟩
 | succ m ih=>
  intro fs H hv hd ts e z rc
  cases fs with
  | nil=>cases e
  | cons f fs=>
   cases fs with
   | nil=>
    obtain⟨hv',x,ns,nl,hh,z'⟩:=z.popH (Mu.mk' (o:=.lst []))
    have:f.pf=⟨f.dn,.ha x ns⟩:=by unfold Fm.pf;rw [hh];rfl
    have m0:m=0:=by simpa using e.symm
    subst m0
    refine⟨_,hv',_,z',λa h=>aO h,?_,by simp⟩
    refine .snoc rc ?_
    show RowE _ _ ⟨t,s,r,hd,[f.pf]⟩ _
    rw [this]
    exact .finH (hJ (by simp))
   | cons g fs=>
    have z':=z.pop (Mu.mk' (o:=.lst (((g::fs).map λf=>V.ref f.o).reverse)))
    obtain⟨H',hv',hd',a1,a2,a3,a4⟩:=ih (by simpa using e) z' (Reach.snoc (row:=Str.ofString "end") rc (.fin (hJ (by simp))))
    refine⟨H',hv',hd',a1,λa h=>(a2 a h).trans (aO h),?_,a4⟩
    rw [replicate_succ]
    simpa using a3
section
variable{P:Program}{w:World}{K:PySem.W.Frag}{mg:Str->Option Value}{base:Heap}
theorem qA:∀(fs:List Fm) (v:V),(fM fs [v]).length=1
 | [],_=>rfl
 | f::fs,_=>qA fs _
theorem _root_.L2.SqL.keep{K:PySem.W.Frag}{H H':Hp}{a:Addr}{xs:List V}(hS:SqL K H a xs)(g:Same H H'):SqL K H' a xs:=by
 rcases hS with (h | ⟨o,h⟩) | h
 ·exact .inl (.inl (g _ _ h))
 ·exact .inl (.inr ⟨o,g _ _ h⟩)
 ·exact .inr h
def BuI(K:PySem.W.Frag)(Hb:Hp)(nl:List Str)(rw hs op:Addr)(t s r:List (Str×List PyData))(r0:Nat)(σ0:St)(i:Nat)(σ:St)(H':Hp):Prop:=∃(ts:List Str) (hv:List V) (hd:List Hd) (fs:List Fm) (v6:Option V),ZI K obL Hb H' rw hs op (ts.map V.str) hv hd fs i/\ts.length=r0+i/\NmZ nl hd fs/\(fs= []->hd.length<=7)/\Reach ts ⟨t,s,r,hd,fs.map Fm.pf⟩/\σ=σ0++[v6]
def Cr(K:PySem.W.Frag):Sp:=λvs H Q _=>∃(a:Addr) (cs:List Int) (head:Int),vs= [.ref a,.int head]/\SqL K H a (cs.map V.int)/\cs.length<=63/\∀(p rp:Addr) (pt:V) (H':Hp) (g:Pg) (ts:List Str),Same H H'->H' p=some (.lst [.ref rp,pt])->H' rp=some (.lst (ts.map V.str))->ts≠[]->ts.length<=90->Reach ts ⟨g.t,g.s,g.r,g.h,[]⟩->Rp K H' pt g.D->DG 60 g.D->Q (.ref p) H'
theorem xa{ob:Hg->Addr->HO}{Hb H:Hp}{rw hs op:Addr}{rv hv:List V}{hd:List Hd}{fs:List Fm}{n:Nat}(z:ZI K ob Hb H rw hs op rv hv hd fs n){x:Addr}{u:HO}(e:Hb x=some u):H x=some u:=cI _ _ (z.base _ _ e)
theorem DJ(D:DefAt K mg "_law_built" iy ["script","head"])(hlen:mg "len" =none)(hint:mg "int" =none)(G__law_stir:OkD P w K mg base 1 "_law_stir" ["cell","k"] dC)(G__law_goods:OkD P w K mg base 3 "_law_goods" ["head"] (Cd K))(G__law_hand:OkD P w K mg base 3 "_law_hand" ["hands","head","opened"] (Co K))(G__law_row:OkD P w K mg base 9 "_law_row" ["cell","k","opened","most"] (Cq K)):
 OkD P w K mg base 10 "_law_built" ["script","head"] (Cr K):=by
 refine D.ok sc__law_built (λvs H Q E h=>?_) (λfu cdv A outer s H vs Q E hr h=>?_)
 ·obtain⟨_,_,_,rfl,_⟩:=h;rfl
 obtain⟨a,cs,head,rfl,sq,l63,q⟩:=h
 have big:100000<=sizeLine:=by unfold sizeLine;decide
 have hu64:=hr.units
 refine⟨_,(af (bQ (aA G__law_goods hr rfl (aa (pv 1) ad)) (gZ 2 rfl (aD (aw (i:=2) sc__law_built.nd rfl (Or.inl rfl)) (aD (aw (i:=3) sc__law_built.nd rfl (Or.inl rfl)) bO))))
 (af (ai (i:=4) sc__law_built.nd rfl (Or.inl rfl) (ak ad))
 (af (ai (i:=5) sc__law_built.nd rfl (Or.inl rfl) (ak ad))
 (af (hZ PassesOwn.never rfl (fk (bg Ai (pv 0) bz (bA (ag dh ae (dL j3 rfl hint (by decide +kernel) (aa (bZ lM (ag aI (aA G__law_stir hr rfl (aa (pv 1) (aa ae ad))) ae) ae (ap _)) ad)))))) (aw (i:=6) sc__law_built.nd rfl (Or.inl rfl))
 (ah (cL (aB (aj (uM hu64) (pv 5) (ak ad) (ap _))
 (ah (aS (bp (pv 2) (aA G__law_hand hr rfl (aa (pv 4) (aa (pv 1) (aa (pv 5) ad)))))))
 (ah (aS (bp (pv 2) (aA G__law_row hr rfl (aa (pv 6) (aa (ag aM (aN aQ rfl hlen PySem.boot_len (aa (pv 2) ad)) ae) (aa (pv 5) (aa (bZ gR (aN aQ rfl hlen PySem.boot_len (aa (pv 4) ad)) ae (ap _)) ad))))))))))))
 (af (cL (aB (aj (uM hu64) (pv 2) (ak ad) (ap _))
 (ah (aS (bp (pv 2) (aA G__law_hand hr rfl (aa (pv 4) (aa (pv 1) (aa (pv 5) ad)))))))
 ay))
 (af (ai (i:=2) sc__law_built.nd rfl (Or.inl rfl) (ag aV (pv 2) (ag yt (ak (aa ac ad)) (aN aQ rfl hlen PySem.boot_len (aa (pv 5) ad)))))
 (ah (ax (ak (aa (pv 2) (aa (ag mF (pv 3) (az (aa (pv 4) ad))) ad))))))))))),?_⟩
 walk_at "r2"
 refine⟨head,rfl,λp0 rw pt H1 ts0 tl sl rl g1 hp0 h1 hrw h1r lrv rpt gpt lpt rc0=>?_⟩
 walk_at "r2"
 intro hs H2 hh2 g2 h2
 walk_at "r2"
 intro op H3 ho3 g3 h3
 have g13:=g1.trans (g2.trans g3)
 have sq3:=SqL.keep sq g13
 walk_at "r2"
 refine jm ?_
 simp only [gQ]
 walk_at "r2"
 refine⟨head,510,rfl,by decide,by decide,λm e0 m0 m1=>?_⟩
 clear e0
 walk_at "r2"
 have nrh:rw≠hs:=λe=>by rw [<-e,h1r] at hh2;cases hh2
 have nro:rw≠op:=λe=>by rw [<-e,g2 _ _ h1r] at ho3;cases ho3
 have nho:hs≠op:=λe=>by rw [<-e,h2] at ho3;cases ho3
 refine⟨a,_,rfl,sq3,λp4 H4 hp4 g4 h4=>?_⟩
 obtain⟨ds,eds,lds⟩:∃ds:List Int,cw (cs.map V.int) none (some (63*if (!decide (m%32=7))=true then 1 else 0))=ds.map V.int/\ds.length<=63:=by
  unfold cw
  rw [<-map_drop,<-map_take]
  refine⟨_,rfl,?_⟩
  rw [length_take,length_drop];lia
 rw [eds] at h4
 clear eds sq3
 have g24:=g2.trans (g3.trans g4)
 have r4:=g24 _ _ h1r
 have s4:=g4 _ _ (g3 _ _ h2)
 have o4:=g4 _ _ h3
 obtain⟨Hb,eHb⟩:∃Hb,Hb=frz rw hs op [] H4:=⟨_,rfl⟩
 have ofb:∀x u,H4 x=some u->x≠rw->x≠hs->x≠op->Hb x=some u:=λx u e a b c=>by
  rw [eHb]
  exact aL (λm=>by
   rcases List.mem_cons.mp m with q | m
   ·exact a q
   ·rcases List.mem_cons.mp m with q | m
    ·exact b q
    ·rcases List.mem_cons.mp m with q | m
     ·exact c q
     ·cases m) e
 have hb4:Hb p4=some (.lst (ds.map V.int)):=ofb _ _ h4 (λe=>by rw [e,g3 _ _ (g2 _ _ h1r)] at hp4;cases hp4) (λe=>by rw [e,g3 _ _ h2] at hp4;cases hp4) (λe=>by rw [e,h3] at hp4;cases hp4)
 have oh1:H1 op=none:=g2.free ho3
 have sHb:Same H Hb:=λx u e=>ofb _ _ (g24 _ _ (g1 _ _ e)) (λz=>by rw [z,hrw] at e;cases e) (λz=>by rw [z,g1.free hh2] at e;cases e) (λz=>by rw [z,g1.free oh1] at e;cases e)
 have rpb:Rp K Hb (.ref pt) (.tuple [.list (tl.map bM),.list (sl.map bM),.list (rl.map bM)]):=rpt.mono λx u e=>by
  obtain⟨n1,e⟩:=cF e
  have e:=(cG e).2
  exact ofb _ _ (g24 _ _ e) n1 (λz=>by rw [z,hh2] at e;cases e) (λz=>by rw [z,oh1] at e;cases e)
 obtain⟨no8,nd8⟩:=iC head (bF head) 8 (by decide)
 have z0:ZI K obL Hb H4 rw hs op (ts0.map V.str) [] [] [] 0:=⟨by
  show [rw,hs,op].Nodup
  simp [nrh,nro,nho],r4,s4,o4,trivial,by rw [eHb];exact Same.refl _,trivial,.nil,(λh hm=>by cases hm),le_refl _,by simp,[],[],⟨rfl,rfl⟩,rfl,λa=>by simp,λa ha=>by cases ha⟩
 have nz0:NmZ (aP head (bF head) 8) [] []:=⟨rfl,by simp [nmO]⟩
 have rc0:=PLift.up rc0
 have nz0:=PLift.up nz0
 clear rpt h1r h2 h3 r4 s4 o4 h4 h1 ofb eHb hp0 hrw hh2 ho3 hp4 oh1
 refine⟨p4,rfl,⟨_,SqL.of (xa z0 hb4)⟩,oP (xs:=ds.map V.int) (BuI K Hb (aP head (bF head) 8) rw hs op tl sl rl ts0.length [some (V.ref a),some (V.int head),some (V.ref rw),some (V.ref pt),some (V.ref hs),some (V.ref op)]) ⟨ts0,[],[],[],none,z0,rfl,nz0.down,λ_=>zero_le _,rc0.down,rfl⟩ (λi σ H5 _ z=>?_) (λi x σ H5 hx z=>?_) λσ H5 z=>?_⟩
 ·obtain⟨_,_,_,_,_,z,_⟩:=z
  exact SqL.of (xa z hb4)
 ·obtain⟨ts,hv,hd,fs,v6,z,lr,nz,l7,rc,rfl⟩:=z
  have nz:=PLift.up nz
  have rc:=PLift.up rc
  have lts:(ts.map V.str).length=ts.length:=length_map ..
  have hi:i<63:=by have:=(List.getElem?_eq_some_iff.mp hx).1;rw [length_map] at this;lia
  rw [getElem?_map] at hx
  obtain⟨c,_,rfl⟩:=Option.map_eq_some_iff.mp hx
  cases fs with
  | nil=>
   walk_at "r2"
   refine⟨BuI K Hb (aP head (bF head) 8) rw hs op tl sl rl ts0.length [some (V.ref a),some (V.int head),some (V.ref rw),some (V.ref pt),some (V.ref hs),some (V.ref op)] (i+1),λp6 H6 hp6 g6 h6=>?_,λσ' H' z=>z⟩
   have z6:=z.same g6
   have hro:=z6.rwa
   have hop:H6 op=some (.lst []):=z6.opa
   walk_at "r2"
   refine aY (λ_=>?_) (λh=>absurd rfl h)
   walk_at "r2"
   refine⟨hs,op,rw,head,Hb,_,hv,hd,i,rfl,z6,nz.down,l7 rfl,λH7 x7 g7 z7 nz7 ro7=>?_⟩
   have ro7:=PLift.up ro7
   have nz7:=PLift.up nz7
   have hr7:=z7.rwa
   clear hro hop
   walk_at "r2"
   refine⟨by lia,λH8 mu=>?_⟩
   have em:ts.map V.str++[V.str x7]=(ts++[x7]).map V.str:=by rw [map_append];rfl
   rw [em] at mu
   walk_at "r2"
   exact⟨ts++[x7],_,_,_,_,z7.row mu,by rw [length_append,length_singleton];lia,nz7.down,(λe=>by cases e),.snoc rc.down (ro7.down _ _ _ _),rfl⟩
  | cons f fs=>
   walk_at "r2"
   refine⟨BuI K Hb (aP head (bF head) 8) rw hs op tl sl rl ts0.length [some (V.ref a),some (V.int head),some (V.ref rw),some (V.ref pt),some (V.ref hs),some (V.ref op)] (i+1),λp6 H6 hp6 g6 h6=>?_,λσ' H' z=>z⟩
   have z6:=z.same g6
   have hro:=z6.rwa
   obtain⟨os,eos,ne⟩:∃os,(((f::fs).map λf=>V.ref f.o).reverse)=os/\os.isEmpty=false:=⟨_,rfl,by simp⟩
   have hop:=z6.opa
   rw [eos] at hop
   obtain⟨hl,ehl,lhl⟩:∃hl,hv++fM (f::fs) []=hl/\hl.length=hd.length+1:=⟨_,rfl,by
    rw [length_append,z.hdc.len,length_map]
    show _+(fM fs [.ref f.t]).length=_
    rw [qA]⟩
   have hho:=z6.hsa
   rw [ehl] at hho
   clear eos ehl
   walk_at "r2"
   refine⟨c,ts.length+1,op,rw,hs,_,Hb,_,_,hv,hd,f,fs,i,by rw [lr];rfl,by lia,z6,nz.down,λh=>?_,λH7 x7 hv7 hd7 fs7 z7 nz7 l77 ro7=>?_⟩
   ·have:=of_decide_eq_true h
    lia
   have hr7:=z7.rwa
   have ro7:=PLift.up ro7
   have nz7:=PLift.up nz7
   have l77:=PLift.up l77
   clear hro hop hho
   walk_at "r2"
   refine⟨by lia,λH8 mu=>?_⟩
   have em:ts.map V.str++[V.str x7]=(ts++[x7]).map V.str:=by rw [map_append];rfl
   rw [em] at mu
   walk_at "r2"
   exact⟨ts++[x7],_,_,_,_,z7.row mu,by rw [length_append,length_singleton];lia,nz7.down,l77.down,.snoc rc.down (ro7.down _ _ _),rfl⟩
 ·obtain⟨ts,hv,hd,fs,v6,z,lr,nz,l7,rc,rfl⟩:=z
  rw [length_map] at lr z
  have nz:=PLift.up nz
  have rc:=PLift.up rc
  have lts:(ts.map V.str).length=ts.length:=length_map ..
  walk_at "r2"
  refine⟨λσ' H'=>∃(ts:List Str) (hv:List V) (hd:List Hd) (fs:List Fm),ZI K obL Hb H' rw hs op (ts.map V.str) hv hd fs 70/\ts.length<=70/\ts≠[]/\hd.length<=8/\Reach ts ⟨tl,sl,rl,hd,fs.map Fm.pf⟩/\σ'= [some (V.ref a),some (V.int head),some (V.ref rw),some (V.ref pt),some (V.ref hs),some (V.ref op),v6],λp6 H6 hp6 g6 h6=>?_,λσ' H7 z=>?_⟩
  ·have z6:=z.same g6
   have hro:=z6.rwa
   walk_at "r2"
   refine aY (λc1=>?_) λc1=>?_
   ·have e1:ts= []:=by simpa using c1
    subst e1
    rw [length_nil] at lr
    have ef:fs= []:=by
     have:=z.cnt
     cases fs with
     | nil=>rfl
     | cons f r=>rw [cM] at this;unfold dH at this;lia
    subst ef
    clear c1
    walk_at "r2"
    refine⟨hs,op,rw,head,Hb,_,hv,hd,ds.length,rfl,z6,nz.down,l7 rfl,λH7 x7 g7 z7 nz7 ro7=>?_⟩
    have hr7:=z7.rwa
    have ro7:=PLift.up ro7
    have lh:=l7 rfl
    clear hro nz7
    walk_at "r2"
    refine⟨by lia,λH8 mu=>?_⟩
    walk_at "r2"
    exact⟨[x7],_,_,_,(z7.row mu).more (by lia),by simp,by simp,by lia,.snoc rc.down (ro7.down _ _ _ _),rfl⟩
   ·have lh:=nz.down.2
    exact⟨ts,hv,hd,fs,z6.more (by lia),by lia,λe=>c1 (by rw [e];rfl),by lia,rc.down,rfl⟩
  ·obtain⟨ts7,hv7,hd7,fs7,z7,l7,ne7,lh7,rc7,rfl⟩:=z
   have rc7:=PLift.up rc7
   have ne7:=PLift.up ne7
   walk_at "r2"
   intro p8 H8 hp8 g8 h8
   have z8:=z7.same g8
   obtain⟨os,eos,los,los'⟩:∃os,((fs7.map λf=>V.ref f.o).reverse)=os/\os.length<=6/\os.length=fs7.length:=⟨_,rfl,by rw [length_reverse,length_map];exact z7.lv,by rw [length_reverse,length_map]⟩
   have hop:=z8.opa
   rw [eos] at hop
   have hro:=z8.rwa
   clear eos
   walk_at "r2"
   refine⟨by lia,by lia,by simp;lia,λp9 H9 hp9 g9 h9=>?_⟩
   have hro9:=g9 _ _ hro
   have een:(replicate (os.length:Int).toNat [V.str (Str.ofString "end")]).flatten=(replicate fs7.length (Str.ofString "end")).map V.str:=by
    rw [toNat_natCast,los',List.map_replicate]
    simp
   rw [een] at h9
   have l9:((replicate fs7.length (Str.ofString "end")).map V.str).length<=6:=by simp;lia
   have l8:(ts7.map V.str).length<=70:=by rw [length_map];exact l7
   generalize ee:(replicate fs7.length (Str.ofString "end"))=en at h9 l9
   have ee:=PLift.up ee
   clear een hop h8 hro los'
   walk_at "r2"
   refine⟨by lia,λp10 H10 hp10 g10 h10=>?_⟩
   rw [<-map_append] at h10
   walk_at "r2"
   intro p11 H11 hp11 g11 h11
   have z11:=z8.same (g9.trans (g10.trans g11))
   obtain⟨Hx,hv',hd',zx,ex,rx,lx⟩:=ZI.close fs7.length rfl z11 rc7.down
   have sb11:Same Hb H11:=λx u e=>xa z11 e
   have rp11:=rpb.mono sb11
   have hxs:H11 hs=some (.lst hv'):=by
    rw [<-ex hs nho]
    have:=zx.hsa
    rwa [show fM [] []= [] from rfl,append_nil] at this
   have rh:Rp K H11 (.ref hs) (.list (hd'.map hdD)):=.lst hxs (zx.hdc.mono λa u e=>by
    obtain⟨n1,e⟩:=bK e
    rw [ex a λq=>n1 (by rw [q];exact mem_cons_of_mem _ (mem_cons_of_mem _ (mem_cons_self ..)))] at e
    exact e)
   have cx:=zx.cnt
   rw [ee.down] at rx
   cases rp11 with
   | tup hpt rr=>
    obtain⟨va,_,rfl,ra,rr⟩:=rr.cons_inv
    obtain⟨vb,_,rfl,rb,rr⟩:=rr.cons_inv
    obtain⟨vc,_,rfl,rc,rr⟩:=rr.cons_inv
    cases rr
    have h10':=PLift.up (g11 _ _ h10)
    clear h10
    refine⟨pt,p11,_,_,rfl,rfl,SqT.of hpt,SqT.of h11,by simp,by simp;lia,(λh=>by cases h),λ_ p12 hp12=>?_⟩
    have g12:Same H11 (upd H11 p12 (.tup ([va,vb,vc]++[V.ref hs]))):=bt hp12 _
    have u12:upd H11 p12 (.tup ([va,vb,vc]++[V.ref hs])) p12=some (.tup [va,vb,vc,V.ref hs]):=aX
    obtain⟨H12,e12⟩:∃H12,upd H11 p12 (.tup ([va,vb,vc]++[V.ref hs]))=H12:=⟨_,rfl⟩
    rw [e12] at g12 u12⊢
    walk_at "r2"
    intro p13 H13 hp13 g13' h13
    have gA:=g12.trans g13'
    have ln:(ts7++en).length<=90:=by rw [length_append];rw [length_map] at l8 l9;lia
    refine q p13 _ _ H13 ⟨tl,sl,rl,hd'⟩ (ts7++en) (sHb.trans (sb11.trans gA)) h13 (gA _ _ h10'.down) (λe=>ne7.down (List.append_eq_nil_iff.mp e).1) ln rx (.tup (g13' _ _ u12) (.cons (ra.mono gA) (.cons (rb.mono gA) (.cons (rc.mono gA) (.cons (rh.mono gA) .nil))))) ?_
    exact DI (by lia) (by lia) (by lia) (by lia) gpt zx.hdg (by rw [show gj ([]:List Fm)=0 from rfl] at cx;lia)
end
def esV:List Addr->V
 | [e]=>.ref e
 | _=>.non
def obR(h:Hg)(c:Addr):HO:=.tup [.str (wW h),.ref c,esV h.es]
section
variable{K:PySem.W.Frag}{H H':Hp}
theorem xb{M:List Addr}(hM:∀m∈M,∃xs,H m=some (.lst xs)){k x:Str}{d:PyData}(h:aF k x=some d){v:V}(r:Rp K H v d):Rp K (out M H) v d:=rQ (λa xs e=>aL (λz=>by obtain⟨_,q⟩:=hM _ z;rw [q] at e;cases e) e) h r
theorem qB{l:List (Option PyData)}:∀{ds:List PyData},dy l=some ds->∀d∈ds,some d∈l:=by
 induction l with
 | nil=>intro ds h d hd;cases h;cases hd
 | cons x l ih=>
  intro ds h d hd
  cases x with
  | none=>cases h
  | some y=>
   obtain⟨es,e1,rfl⟩:=Option.map_eq_some_iff.mp (show(dy l).map (y:: ·)=some ds from h)
   rcases List.mem_cons.mp hd with rfl | hd
   ·exact mem_cons_self ..
   ·exact mem_cons_of_mem _ (ih e1 d hd)
theorem yW{ks r:List Str}{d:PyData}(h:some d∈zipWith aF ks r):∃k x,aF k x=some d:=by
 rw [List.mem_iff_getElem?] at h
 obtain⟨i,h⟩:=h
 rw [getElem?_zipWith] at h
 split at h
 ·rename_i a b _ _;exact⟨a,b,by simpa using h⟩
 ·cases h
theorem vE{M:List Addr}(hM:∀m∈M,∃xs,H m=some (.lst xs)){row x:Str}{ds:List PyData}(h:aZ row=some (x,ds)){ys:List V}(r:RpL K H ys ds):RpL K (out M H) ys ds:=by
 have al:∀d∈ds,∃k x,aF k x=some d:=by
  unfold aZ at h
  split at h
  ·cases h
  ·split at h
   ·cases h
   ·obtain⟨es,e1,e2⟩:=Option.map_eq_some_iff.mp h
    cases e2
    exact λd hd=>yW (qB e1 d hd)
 clear h
 induction ys generalizing ds with
 | nil=>cases r;exact .nil
 | cons y ys ih=>
  cases r with
  | cons a r=>
   obtain⟨k,x,e⟩:=al _ (mem_cons_self ..)
   exact .cons (xb hM e a) (ih r λd hd=>al d (mem_cons_of_mem _ hd))
def CtR(F:Hp):List V->List Addr->Prop
 | [],C=>C= []
 | v::vs,C=>∃t x e C1,v= .ref t/\F t=some (.tup [x,.ref e])/\CtR F vs C1/\C=e::C1
theorem CtR.mono{F G:Hp}(g:Same F G):∀{vs:List V} {C:List Addr},CtR F vs C->CtR G vs C
 | [],_,h=>h
 | _::_,_,⟨t,x,e,C1,a,b,c,d⟩=>⟨t,x,e,C1,a,g _ _ b,CtR.mono g c,d⟩
theorem CtR.snoc{F:Hp}{t e:Addr}{x:V}(h:F t=some (.tup [x,.ref e])):∀{vs:List V} {C:List Addr},CtR F vs C->CtR F (vs++[.ref t]) (C++[e])
 | [],_,q=>by
  have q:_= []:=q
  subst q
  exact⟨t,x,e,[],rfl,h,rfl,rfl⟩
 | _::_,_,⟨t',x',e',C1,a,b,c,d⟩=>by
  subst a d
  exact⟨t',x',e',C1++[e],rfl,b,CtR.snoc h c,rfl⟩
end
structure Cl where
 ws:Addr
 pr:Addr
 tl:Addr
 sl:Addr
 rl:Addr
 hl:Addr
 bd:Addr
def Cl.g(c:Cl):List Addr:=[c.tl,c.sl,c.rl]
structure Gds(K:PySem.W.Frag)(H0 B:Hp)(c:Cl)(t s r:List (Str×List PyData)):Prop where
 same:Same H0 B
 pr:B c.pr=some (.tup [.ref c.tl,.ref c.sl,.ref c.rl,.ref c.hl])
 nd:c.tl≠c.sl/\c.tl≠c.rl/\c.sl≠c.rl
 new:∀a∈c.hl::c.g,H0 a=none
 ex:∃ta sa ra Cn,B c.tl=some (.lst ta)/\B c.sl=some (.lst sa)/\B c.rl=some (.lst ra)/\RpL K (out c.g B) ta (t.map bM)/\RpL K (out c.g B) sa (s.map bM)/\RpL K (out c.g B) ra (r.map bM)/\CtR (out c.g B) ra Cn/\(∀a,Cn.count a<=1)/\∀a∈Cn,out c.g B a≠none/\H0 a=none
structure RZ(K:PySem.W.Frag)(H0:Hp)(c:Cl)(rv:List V)(i:Nat)(H:Hp)(st:PS)(Hb:Hp)(hv:List V)(fs:List Fm):Prop where
 z:ZI K obR Hb H c.ws c.hl c.bd rv hv st.hd fs i
 f:st.fs=fs.map Fm.pf
 g:Gds K H0 Hb c st.t st.s st.r
 l:st.t.length+st.s.length+st.r.length+st.hd.length+st.fs.length<=i
section
variable{K:PySem.W.Frag}{H0 H H1 H3:Hp}{c:Cl}{rv:List V}{i:Nat}{Hb:Hp}{hv:List V}{fs:List Fm}{t s r:List (Str×List PyData)}
theorem RZ.up{st:PS}{j:Nat}(q:RZ K H0 c rv i H st Hb hv fs)(g:Same H H1)(l:i<=j):RZ K H0 c rv j H1 st Hb hv fs:=⟨(q.z.same g).more l,q.f,q.g,le_trans q.l l⟩
theorem RZ.frz{st:PS}(q:RZ K H0 c rv i H st Hb hv fs){a:Addr}{u:HO}(e:Hb a=some u):H a=some u/\a≠c.ws/\a≠c.hl/\a≠c.bd:=by
 obtain⟨n,e⟩:=bK (q.z.base _ _ e)
 exact⟨e,λz=>n (by rw [z];exact mem_cons_self ..),λz=>n (by rw [z];exact mem_cons_of_mem _ (mem_cons_self ..)),λz=>n (by rw [z];exact mem_cons_of_mem _ (mem_cons_of_mem _ (mem_cons_self ..)))⟩
theorem mem_g{a:Addr}:a∈c.g↔a=c.tl\/a=c.sl\/a=c.rl:=by simp [Cl.g]
theorem RZ.base{X:Addr}{xs:List V}(q:RZ K H0 c rv i H ⟨t,s,r,[],[]⟩ Hb hv fs)(hX:X∈c.g)(g1:Same H H1)(mu:Mu H1 X (.lst xs) H3):ZI K obR (D.frz c.ws c.hl c.bd [] H3) H3 c.ws c.hl c.bd rv [] [] [] (i+1)/\(∀a u,a≠X->Hb a=some u->D.frz c.ws c.hl c.bd [] H3 a=some u)/\D.frz c.ws c.hl c.bd [] H3 X=some (.lst xs)/\∀a u,H a=none->H1 a=some u->D.frz c.ws c.hl c.bd [] H3 a=some u/\a∉c.g:=by
 have ef:fs= []:=by have:=q.f;cases fs with | nil=>rfl | cons=>cases this
 subst ef
 have eh:hv= []:=by have:=q.z.hdc.len;simpa using this
 subst eh
 obtain⟨ta,sa,ra,Cn,h1,h2,h3,_⟩:=q.g.ex
 obtain⟨t1,t2,t3,t4⟩:=q.frz h1
 obtain⟨s1,s2,s3,s4⟩:=q.frz h2
 obtain⟨r1,r2,r3,r4⟩:=q.frz h3
 have nX:X≠c.ws/\X≠c.hl/\X≠c.bd:=by
  rcases mem_g.mp hX with e | e | e<;>rw [e]
  ·exact⟨t2,t3,t4⟩
  ·exact⟨s2,s3,s4⟩
  ·exact⟨r2,r3,r4⟩
 have no:∀a u,a≠c.ws->a≠c.hl->a≠c.bd->H3 a=some u->D.frz c.ws c.hl c.bd [] H3 a=some u:=λa u n1 n2 n3 e=>aL (λm=>by
  simp only [keys,mem_cons,not_mem_nil,or_false] at m
  rcases m with m | m | m
  ·exact n1 m
  ·exact n2 m
  ·exact n3 m) e
 refine⟨⟨q.z.nd,mu.old (g1 _ _ q.z.rwa) nX.1.symm,mu.old (g1 _ _ q.z.hsa) nX.2.1.symm,mu.old (g1 _ _ q.z.opa) nX.2.2.symm,trivial,Same.refl _,trivial,.nil,(λh hm=>by cases hm),by simp [gj],by simp,[],[],⟨rfl,rfl⟩,rfl,λa=>by simp,λa ha=>by cases ha⟩,λa u n e=>?_,no _ _ nX.1 nX.2.1 nX.2.2 mu.at_,λa u n e=>?_⟩
 ·obtain⟨e1,n1,n2,n3⟩:=q.frz e
  exact no a u n1 n2 n3 (mu.old (g1 _ _ e1) n)
 ·have ne:∀{b:Addr} {v:HO},H b=some v->a≠b:=λhb z=>by rw [z,hb] at n;cases n
  have ng:a∉c.g:=λm=>by
   rcases mem_g.mp m with e | e | e
   ·exact ne t1 e
   ·exact ne s1 e
   ·exact ne r1 e
  exact⟨no a u (ne q.z.rwa) (ne q.z.hsa) (ne q.z.opa) (mu.old e λz=>ng (z▸hX)),ng⟩
theorem RZ.putT{p:Addr}{o:Str×List PyData}{xs:List V}(q:RZ K H0 c rv i H ⟨t,s,r,[],[]⟩ Hb hv fs)(g1:Same H H1)(hx:H c.tl=some (.lst xs))(rp:Rp K (kp em H H1) (.ref p) (bM o))(mu:Mu H1 c.tl (.lst (xs++[.ref p])) H3):∃Hb' hv' fs',RZ K H0 c rv (i+1) H3 ⟨t++[o],s,r,[],[]⟩ Hb' hv' fs':=by
 obtain⟨z,b1,b2,b3⟩:=q.base (mem_g.mpr (.inl rfl)) g1 mu
 obtain⟨ta,sa,ra,Cn,h1,h2,h3,r1,r2,r3,cr,cn,cm⟩:=q.g.ex
 obtain⟨n1,n2,n3⟩:=q.g.nd
 have exs:xs=ta:=by
  have:=(q.frz h1).1
  rw [hx] at this
  cases this;rfl
 subst exs
 have gg:Same (out c.g Hb) (out c.g (D.frz c.ws c.hl c.bd [] H3)):=λa u e=>by
  obtain⟨n,e⟩:=bK e
  exact aL n (b1 a u (λz=>n (by rw [z];exact mem_g.mpr (.inl rfl))) e)
 have gn:Same (kp em H H1) (out c.g (D.frz c.ws c.hl c.bd [] H3)):=λa u e=>by
  obtain⟨n,e⟩:=cG e
  obtain⟨e1,e2⟩:=b3 a u (n.resolve_left λ⟨_,q⟩=>by cases q) e
  exact aL e2 e1
 have s0:Same H0 (D.frz c.ws c.hl c.bd [] H3):=λa u e=>b1 a u (λz=>by rw [z,q.g.new _ (mem_cons_of_mem _ (mem_g.mpr (.inl rfl)))] at e;cases e) (q.g.same _ _ e)
 have npr:c.pr≠c.tl:=λz=>by have:=q.g.pr;rw [z,h1] at this;cases this
 have ll:=q.l
 simp only [length_nil,add_zero] at ll
 refine⟨_,[],[],z,rfl,⟨s0,b1 _ _ npr q.g.pr,q.g.nd,q.g.new,⟨_,_,_,Cn,b2,b1 _ _ n1.symm h2,b1 _ _ n2.symm h3,(by rw [map_append];exact RpL.app (.cons (rp.mono gn) .nil) (r1.mono gg)),r2.mono gg,r3.mono gg,cr.mono gg,cn,λa ha=>⟨λz=>(cm a ha).1 (gg.free z),(cm a ha).2⟩⟩⟩,?_⟩
 ·simp only [length_append,length_singleton,length_nil];lia
theorem RZ.putS{p:Addr}{o:Str×List PyData}{xs:List V}(q:RZ K H0 c rv i H ⟨t,s,r,[],[]⟩ Hb hv fs)(g1:Same H H1)(hx:H c.sl=some (.lst xs))(rp:Rp K (kp em H H1) (.ref p) (bM o))(mu:Mu H1 c.sl (.lst (xs++[.ref p])) H3):∃Hb' hv' fs',RZ K H0 c rv (i+1) H3 ⟨t,s++[o],r,[],[]⟩ Hb' hv' fs':=by
 obtain⟨z,b1,b2,b3⟩:=q.base (mem_g.mpr (.inr (.inl rfl))) g1 mu
 obtain⟨ta,sa,ra,Cn,h1,h2,h3,r1,r2,r3,cr,cn,cm⟩:=q.g.ex
 obtain⟨n1,n2,n3⟩:=q.g.nd
 have exs:xs=sa:=by
  have:=(q.frz h2).1
  rw [hx] at this
  cases this;rfl
 subst exs
 have gg:Same (out c.g Hb) (out c.g (D.frz c.ws c.hl c.bd [] H3)):=λa u e=>by
  obtain⟨n,e⟩:=bK e
  exact aL n (b1 a u (λz=>n (by rw [z];exact mem_g.mpr (.inr (.inl rfl)))) e)
 have gn:Same (kp em H H1) (out c.g (D.frz c.ws c.hl c.bd [] H3)):=λa u e=>by
  obtain⟨n,e⟩:=cG e
  obtain⟨e1,e2⟩:=b3 a u (n.resolve_left λ⟨_,q⟩=>by cases q) e
  exact aL e2 e1
 have s0:Same H0 (D.frz c.ws c.hl c.bd [] H3):=λa u e=>b1 a u (λz=>by rw [z,q.g.new _ (mem_cons_of_mem _ (mem_g.mpr (.inr (.inl rfl))))] at e;cases e) (q.g.same _ _ e)
 have npr:c.pr≠c.sl:=λz=>by have:=q.g.pr;rw [z,h2] at this;cases this
 have ll:=q.l
 simp only [length_nil,add_zero] at ll
 refine⟨_,[],[],z,rfl,⟨s0,b1 _ _ npr q.g.pr,q.g.nd,q.g.new,⟨_,_,_,Cn,b1 _ _ n1 h1,b2,b1 _ _ n3.symm h3,r1.mono gg,(by rw [map_append];exact RpL.app (.cons (rp.mono gn) .nil) (r2.mono gg)),r3.mono gg,cr.mono gg,cn,λa ha=>⟨λz=>(cm a ha).1 (gg.free z),(cm a ha).2⟩⟩⟩,?_⟩
 ·simp only [length_append,length_singleton,length_nil];lia
theorem RZ.putR{p:Addr}{o:Str×List PyData}{xs:List V}{e:Addr}{x:V}(q:RZ K H0 c rv i H ⟨t,s,r,[],[]⟩ Hb hv fs)(g1:Same H H1)(hx:H c.rl=some (.lst xs))(rp:Rp K (kp em H H1) (.ref p) (bM o))(hp:kp em H H1 p=some (.tup [x,.ref e]))(he:H e=none)(he1:∃u,H1 e=some u)(mu:Mu H1 c.rl (.lst (xs++[.ref p])) H3):∃Hb' hv' fs',RZ K H0 c rv (i+1) H3 ⟨t,s,r++[o],[],[]⟩ Hb' hv' fs':=by
 obtain⟨z,b1,b2,b3⟩:=q.base (mem_g.mpr (.inr (.inr rfl))) g1 mu
 obtain⟨ta,sa,ra,Cn,h1,h2,h3,r1,r2,r3,cr,cn,cm⟩:=q.g.ex
 obtain⟨n1,n2,n3⟩:=q.g.nd
 have exs:xs=ra:=by
  have:=(q.frz h3).1
  rw [hx] at this
  cases this;rfl
 subst exs
 have gg:Same (out c.g Hb) (out c.g (D.frz c.ws c.hl c.bd [] H3)):=λa u e=>by
  obtain⟨n,e⟩:=bK e
  exact aL n (b1 a u (λz=>n (by rw [z];exact mem_g.mpr (.inr (.inr rfl)))) e)
 have gn:Same (kp em H H1) (out c.g (D.frz c.ws c.hl c.bd [] H3)):=λa u e=>by
  obtain⟨n,e⟩:=cG e
  obtain⟨e1,e2⟩:=b3 a u (n.resolve_left λ⟨_,q⟩=>by cases q) e
  exact aL e2 e1
 have s0:Same H0 (D.frz c.ws c.hl c.bd [] H3):=λa u e=>b1 a u (λz=>by rw [z,q.g.new _ (mem_cons_of_mem _ (mem_g.mpr (.inr (.inr rfl))))] at e;cases e) (q.g.same _ _ e)
 have npr:c.pr≠c.rl:=λz=>by have:=q.g.pr;rw [z,h3] at this;cases this
 have ll:=q.l
 simp only [length_nil,add_zero] at ll
 have he0:H0 e=none:=q.g.same.free (q.z.base.free (iD he))
 have hee:out c.g (D.frz c.ws c.hl c.bd [] H3) e≠none:=by
  obtain⟨u,hu⟩:=he1
  rw [gn _ _ (aT he hu)];simp
 have nc:e∉Cn:=λm=>(cm e m).1 (iD (q.z.base.free (iD he)))
 refine⟨_,[],[],z,rfl,⟨s0,b1 _ _ npr q.g.pr,q.g.nd,q.g.new,⟨_,_,_,Cn++[e],b1 _ _ n2 h1,b1 _ _ n3 h2,b2,r1.mono gg,r2.mono gg,(by rw [map_append];exact RpL.app (.cons (rp.mono gn) .nil) (r3.mono gg)),CtR.snoc (gn _ _ hp) (cr.mono gg),(λa=>?_),λa ha=>?_⟩⟩,?_⟩
 ·rw [count_append]
  by_cases m:a=e
  ·rw [m,List.count_eq_zero.mpr nc];simp
  ·have:=cn a;rw [List.count_cons_of_ne (Ne.symm m)];simpa using this
 ·rcases List.mem_append.mp ha with ha | ha
  ·exact⟨λz=>(cm a ha).1 (gg.free z),(cm a ha).2⟩
  ·rw [List.mem_singleton.mp ha];exact⟨hee,he0⟩
 ·simp only [length_append,length_singleton,length_nil];lia
end
theorem ZI.lists{K:PySem.W.Frag}{ob:Hg->Addr->HO}{Hb H:Hp}{rw hs op:Addr}{rv hv:List V}{hd:List Hd}{fs:List Fm}{n:Nat}(z:ZI K ob Hb H rw hs op rv hv hd fs n):∀m∈rw::hs::op::keys fs,∃xs,H m=some (.lst xs):=λm hm=>by
 rcases List.mem_cons.mp hm with rfl | hm
 ·exact⟨_,z.rwa⟩
 ·rcases List.mem_cons.mp hm with rfl | hm
  ·exact⟨_,z.hsa⟩
  ·rcases List.mem_cons.mp hm with rfl | hm
   ·exact⟨_,z.opa⟩
   ·exact z.cla.at m hm
theorem qC{K:PySem.W.Frag}{H:Hp}{ns:List Int}:∀{vs:List V},RpL K H vs (ns.map .int)->vs=ns.map V.int:=by
 induction ns with
 | nil=>intro vs t;cases t;rfl
 | cons n ns ih=>intro vs t;cases t with | cons a r=>cases a;rw [ih r];rfl
theorem DK{h:Hg}{k:Int}{sg a b:PyData}(e:h.ph= .th k sg a b):∃vs va vb d,h= .th k vs va vb sg a b d:=by
 cases h with
 | th k' vs va vb sg' a' b' d=>cases e;exact⟨vs,va,vb,d,rfl⟩
 | ha=>cases e
 | wh=>cases e
 | el=>cases e
theorem tV{H H1 H2:Hp}{a:Addr}{o o1:HO}(h:H a=some o)(mu:Mu H a o1 H1)(g:Same H1 H2):Same H (upd H2 a o):=λb u e=>by
 by_cases c:b=a
 ·subst c;rw [h] at e;rw [<-e];exact aX
 ·rw [aO c];exact g _ _ (mu.old e c)
theorem xc{H2 H3:Hp}{a:Addr}{o o3:HO}(mu:Mu H2 a o3 H3):Mu (upd H2 a o) a o3 H3:=⟨mu.at_,λb c=>by rw [mu.else_ b c,aO c]⟩
section
variable{P:Program}{w:World}{K:PySem.W.Frag}{mg:Str->Option Value}{base:Heap}
def Ct(K:PySem.W.Frag):Sp:=λvs H Q _=>∃(k i:Nat) (pp:Addr) (row x:Str) (ys:List V) (ds:List PyData) (H0:Hp) (c:Cl) (rv:List V) (st st':PS) (Hb:Hp) (hv:List V) (fs:List Fm),vs= [.int (k:Nat),.ref pp,.ref c.pr,.ref c.bd]/\H pp=some (.lst (.str x::ys))/\aZ row=some (x,ds)/\RpL K H ys ds/\RZ K H0 c rv i H st Hb hv fs/\i<=200/\RowE k row st st'/\∀H' Hb' hv' fs',RZ K H0 c rv (i+1) H' st' Hb' hv' fs'->Q .non H'
theorem yX(D:DefAt K mg "lay_down" jK ["k","parts","program","bodies"])(G_lay_statement:OkD P w K mg base 1 "lay_statement" ["statement","bodies"] (BG K))(G_statement_of:OkD P w K mg base 1 "statement_of" ["k","parts"] (BF K)):OkD P w K mg base 2 "lay_down" ["k","parts","program","bodies"] (Ct K):=by
 refine D.ok sc_lay_down (λvs H Q E h=>?_) (λfu cdv A outer s0 H vs Q E hr h=>?_)
 ·obtain⟨_,_,_,_,_,_,_,_,_,_,_,_,_,_,_,rfl,_⟩:=h;rfl
 obtain⟨k,i,pp,row,x,ys,ds,H0,c,rv,st,st',Hb,hv,fs,rfl,hp,hparts,ry,z,li,re,q⟩:=h
 have big:2000000<=sizeLine:=by unfold sizeLine;decide
 obtain⟨ta,sa,ra,Cn,t1,t2,t3,q1,q2,q3,_⟩:=z.g.ex
 have hpr:=(z.frz z.g.pr).1
 have ht:=(z.frz t1).1
 have hs:=(z.frz t2).1
 have hra:=(z.frz t3).1
 have hh:=z.z.hsa
 have hb:=z.z.opa
 have e1:=q1.len
 have e2:=q2.len
 have e3:=q3.len
 have e4:=z.z.hdc.len
 rw [length_map] at e1 e2 e3 e4
 have ll:=z.l
 have hM:=PLift.up z.z.lists
 have ry0:=PLift.up (vE z.z.lists hparts ry)
 have yl:=ry.len
 have gd:=PLift.up z.g
 have zf:=PLift.up z.f
 have zz:=PLift.up z.z
 have zl:=PLift.up z
 clear z q1 q2 q3 t1 t2 t3
 refine⟨_,(af (bQ (pv 2) (dO 4 rfl (aD (aw (i:=4) sc_lay_down.nd rfl (Or.inl rfl)) (aD (aw (i:=5) sc_lay_down.nd rfl (Or.inl rfl)) (aD (aw (i:=6) sc_lay_down.nd rfl (Or.inl rfl)) (aD (aw (i:=7) sc_lay_down.nd rfl (Or.inl rfl)) bO))))))
 (af (ai (i:=8) sc_lay_down.nd rfl (Or.inl rfl) (ao av (pv 1) ae (λ_ _=>rfl)))
 (ah (aB (aj aJ (pv 8) ac (ap _))
 (ah (aS (bp (pv 4) (az (aa (ao av (pv 1) ae (λ_ _=>rfl)) (aa (ao av (pv 1) ae (λ_ _=>rfl)) ad))))))
 (ah (aB (aj aJ (pv 8) ac (ap _))
 (ah (aS (bp (pv 5) (az (aa (ao av (pv 1) ae (λ_ _=>rfl)) (aa (ao av (pv 1) ae (λ_ _=>rfl)) (aa (ao av (pv 1) ae (λ_ _=>rfl)) ad)))))))
 (ah (aB (aj aJ (pv 8) ac (ap _))
 (ah (aS (bp (pv 6) (az (aa (ao av (pv 1) ae (λ_ _=>rfl)) (aa (bg fQ (pv 1) (bA ae) bz) ad))))))
 (ah (aB (aj aJ (pv 8) ac (ap _))
 (af (ai (i:=9) sc_lay_down.nd rfl (Or.inl rfl) (ak ad))
 (af (aS (bp (pv 7) (az (aa (ao av (pv 1) ae (λ_ _=>rfl)) (aa (bg fQ (pv 1) (bA ae) bz) (aa (pv 9) ad))))))
 (ah (aS (bp (pv 3) (az (aa ac (aa (pv 9) (aa lK ad)))))))))
 (ah (aB (aj aJ (pv 8) ac (ap _))
 (ah (aS (bp (pv 3) (az (aa ac (aa (ao av (oY PySem.F.plainAttrs_list PySem.F.slot_list_pop PySem.F.type_list_pop mP (pv 3)) ae (λ_ _=>rfl)) (aa lK ad)))))))
 (ah (aB (aj aJ (pv 8) ac (ap _))
 (ah (aS (oY PySem.F.plainAttrs_list PySem.F.slot_list_pop PySem.F.type_list_pop mP (pv 3))))
 (ah (aS (aA G_lay_statement hr rfl (aa (aA G_statement_of hr rfl (aa (pv 0) (aa (pv 1) ad))) (aa (pv 3) ad))))))))))))))))))),?_⟩
 refine L2.cps λgG gK=>?_
 cases re with
 | @tool tt ss rr nm n hw b1 b2 b3 b4=>
  cases hw.p.symm.trans hparts
  obtain⟨v0,_,rfl,a0,ry⟩:=ry.cons_inv
  obtain⟨v1,_,rfl,a1,ry⟩:=ry.cons_inv
  cases ry;cases a0;cases a1
  refine gK ?_
  clear gK gG
  walk_at "rz"
  intro p1 H1 hp1 g1 h1
  have ht1:=g1 _ _ ht
  have ht':=PLift.up ht
  clear ht hs hra hh hb hpr hp
  walk_at "rz"
  refine⟨by simp only at ll;lia,λH3 mu=>?_⟩
  obtain⟨Hb',hv',fs',r⟩:=zl.down.putT (o:=(nm,[.int n])) g1 ht'.down (.tup (aT hp1 h1) (.cons (.str _) (.cons (.int _) .nil))) mu
  exact q _ _ _ _ r
 | @store tt ss rr nm n m hw b1 b2 b3 b4 b5=>
  cases hw.p.symm.trans hparts
  obtain⟨v0,_,rfl,a0,ry⟩:=ry.cons_inv
  obtain⟨v1,_,rfl,a1,ry⟩:=ry.cons_inv
  obtain⟨v2,_,rfl,a2,ry⟩:=ry.cons_inv
  cases ry;cases a0;cases a1;cases a2
  refine gK ?_
  clear gK gG
  walk_at "rz"
  intro p1 H1 hp1 g1 h1
  have hs1:=g1 _ _ hs
  have hs':=PLift.up hs
  clear ht hs hra hh hb hpr hp
  walk_at "rz"
  refine⟨by simp only at ll;lia,λH3 mu=>?_⟩
  obtain⟨Hb',hv',fs',r⟩:=zl.down.putS (o:=(nm,[.int n,.int m])) g1 hs'.down (.tup (aT hp1 h1) (.cons (.str _) (.cons (.int _) (.cons (.int _) .nil)))) mu
  exact q _ _ _ _ r
 | @row tt ss rr nm ns hw b1 b2 b3 b4 b5=>
  cases hw.p.symm.trans hparts
  obtain⟨v0,_,rfl,a0,ry1⟩:=ry.cons_inv
  have ey:=qC ry1
  cases a0
  subst ey
  refine gK ?_
  clear gK gG
  walk_at "rz"
  intro p1 H1 hp1 g1 h1
  have h1':PLift (H1 p1=some (.lst (ns.map V.int))):=⟨by rw [h1];simp [cw,HT.sIx,take_of_length_le]⟩
  have hr1:=g1 _ _ hra
  have hra':=PLift.up hra
  clear ht hs hra hh hb hpr hp h1
  walk_at "rz"
  intro p2 H2 hp2 g2 h2
  have hr2:=g2 _ _ hr1
  clear hr1
  walk_at "rz"
  refine⟨by simp only at ll;lia,λH3 mu=>?_⟩
  have k2:=aT (H0:=em) (g1.free hp2) h2
  obtain⟨Hb',hv',fs',r⟩:=zl.down.putR (o:=(nm,[.list (ns.map .int)])) (g1.trans g2) hra'.down (.tup k2 (.cons (.str _) (.cons (.lst (aT hp1 (g2 _ _ h1'.down)) (qx ns)) .nil))) k2 hp1 ⟨_,g2 _ _ h1'.down⟩ mu
  exact q _ _ _ _ r
 | @hand tt ss rr hd nm ns hw b1 b2 b3 b4=>
  cases hw.p.symm.trans hparts
  obtain⟨v0,_,rfl,a0,ry1⟩:=ry.cons_inv
  have ey:=qp ry1
  cases a0
  subst ey
  have ef:fs= []:=by have:=zf.down;cases fs with | nil=>rfl | cons=>cases this
  subst ef
  have hh:H c.hl=some (.lst hv):=by rwa [show fM [] []= [] from rfl,append_nil] at hh
  have hb:H c.bd=some (.lst []):=hb
  refine gK ?_
  clear gK gG
  walk_at "rz"
  intro p1 H1 hp1 g1 h1
  have hh1:=g1 _ _ hh
  have hb1:=g1 _ _ hb
  have hq1:=g1 _ _ hp
  have h1':=PLift.up h1
  clear ht hs hra hh hb hpr hp h1
  walk_at "rz"
  intro p2 H2 hp2 g2 h2
  have h2':PLift (H2 p2=some (.lst (ns.map V.str))):=⟨by rw [h2];simp [cw,HT.sIx,take_of_length_le]⟩
  have hh2:=g2 _ _ hh1
  have hb2:=g2 _ _ hb1
  clear hh1 hb1 hq1 h2
  walk_at "rz"
  intro p3 H3 hp3 g3 h3
  have hh3:=g3 _ _ hh2
  have hb3:=g3 _ _ hb2
  have h3':=PLift.up h3
  have h2n:=PLift.up hh2
  clear hh2 hb2
  walk_at "rz"
  have g13:=g1.trans (g2.trans g3)
  refine⟨by simp only at ll;lia,λH4 mu4=>?_⟩
  have hb4:=mu4.old hb3 zz.down.nho.symm
  clear hh3 hb3 h3
  walk_at "rz"
  intro p5 H5 hp5 g5 h5
  have hb5:=g5 _ _ hb4
  clear hb4
  walk_at "rz"
  refine⟨by first | lia | (simp only [length_nil];lia),λH6 mu6=>?_⟩
  have zd:=zz.down
  have nk:∀{a:Addr} {Hx:Hp},Same H Hx->Hx a=none->a≠p1->a∉c.ws::c.hl::c.bd::[p1]:=λg e n m=>by
   simp only [mem_cons,not_mem_nil,or_false] at m
   rcases m with m | m | m | m
   ·rw [m,g _ _ zd.rwa] at e;cases e
   ·rw [m,g _ _ zd.hsa] at e;cases e
   ·rw [m,g _ _ zd.opa] at e;cases e
   ·exact n m
  have n31:p3≠p1:=λe=>by rw [e,g2 _ _ h1'.down] at hp3;cases hp3
  have n21:p2≠p1:=λe=>by rw [e,h1'.down] at hp2;cases hp2
  have z':=zd.hnd (g:=⟨p1,[],[],p3,p5,.ha nm ns p2⟩) (x:=nm) (ns:=ns) (nl:=p2) rfl rfl rfl b3 (g1.free hp2) g13 hp1 (g3 _ _ (g2 _ _ h1'.down)) ⟨aL (nk (g1.trans g2) hp3 n31) h3'.down,aL (nk g1 hp2 n21) (g3 _ _ h2'.down)⟩ mu4 g5 hp5 h5 mu6
  exact q _ _ _ _ ⟨z',rfl,gd.down,by simp only [length_nil,length_cons] at ll⊢;lia⟩
 | @els tt ss rr hd k0 sg a b dn fps hw=>
  cases hw.p.symm.trans hparts
  cases ry
  obtain⟨f,fs,rfl⟩:∃f g,fs=f::g:=by have:=zf.down;cases fs with | nil=>cases this | cons f g=>exact⟨f,g,rfl⟩
  have zfd:=zf.down
  simp only [map_cons,List.cons.injEq] at zfd
  obtain⟨ef,efs⟩:=zfd
  have edn:PLift (f.dn=dn):=⟨by rw [show f.dn=f.pf.dn from rfl,<-ef]⟩
  obtain⟨vs,va,vb,d,hfh⟩:=DK (h:=f.h) (k:=k0) (sg:=sg) (a:=a) (b:=b) (by rw [show f.h.ph=f.pf.h from rfl,<-ef])
  rw [map_cons,reverse_cons] at hb
  obtain⟨os,eos⟩:∃os,(fs.map λf=>V.ref f.o).reverse=os:=⟨_,rfl⟩
  rw [eos] at hb
  have hfo:H f.o=some (.tup [.str (wW f.h),.ref f.c,.ref d]):=by have:=cI _ _ zz.down.fm.1.o;rw [this];unfold obR;rw [hfh];rfl
  have zd:=PLift.up zz.down
  have lv:=zz.down.lv
  have los:os.length=fs.length:=by rw [<-eos,length_reverse,length_map]
  rw [length_cons] at lv
  have eosP:=PLift.up eos
  have hfhP:=PLift.up hfh
  have hbP:=PLift.up hb
  clear zz zl zf ef eos hfh
  refine gK ?_
  clear gK gG
  walk_at "rz"
  refine⟨⟨_,SqL.of hb⟩,c.bd,os,.ref f.o,rfl,rfl,hb,λH1 mu1=>?_⟩
  have hf1:=mu1.old hfo (λe=>by rw [e,hb] at hfo;cases hfo)
  have hb1:=mu1.at_
  clear ht hs hra hh hb hpr hp hfo
  walk_at "rz"
  intro p2 H2 hp2 g2 h2
  have hb2:=g2 _ _ hb1
  have npb:p2≠c.bd:=λe=>by rw [e,hb1] at hp2;cases hp2
  clear hb1 hf1
  walk_at "rz"
  refine⟨by lia,λH3 mu3=>?_⟩
  have sx:=tV hbP.down mu1 g2
  have hn:H p2=none:=by rw [<-mu1.else_ _ npb];exact hp2
  have z':=(zd.down.same sx).els (o:=p2) hfhP.down (by rw [aO npb];exact h2) (zd.down.old hn) (by rw [eosP.down];exact xc mu3)
  refine q _ _ _ _ ⟨z'.more (le_succ _),?_,gd.down,by simp only [length_cons] at ll⊢;lia⟩
  show(⟨[],.el k0 sg a b dn⟩::fps:List PF)=_
  rw [efs,<-edn.down]
  rfl
 | @fin tt ss rr hd fp gp fps hw=>
  cases hw.p.symm.trans hparts
  cases ry
  obtain⟨f,g,fs,rfl⟩:∃f g r,fs=f::g::r:=by
   have:=zf.down
   cases fs with
   | nil=>cases this
   | cons f r=>cases r with
    | nil=>exact absurd (congrArg List.length this) (by simp)
    | cons g r=>exact⟨f,g,r,rfl⟩
  have zfd:=zf.down
  simp only [map_cons,List.cons.injEq] at zfd
  obtain⟨ef,eg,efs⟩:=zfd
  subst ef eg
  rw [map_cons,reverse_cons] at hb
  obtain⟨os,eos⟩:∃os,((g::fs).map λf=>V.ref f.o).reverse=os:=⟨_,rfl⟩
  rw [eos] at hb
  have zd:=PLift.up zz.down
  have eosP:=PLift.up eos
  clear zz zl zf eos
  refine gK ?_
  clear gK gG
  walk_at "rz"
  refine⟨⟨_,SqL.of hb⟩,c.bd,os,.ref f.o,rfl,rfl,hb,λH1 mu1=>?_⟩
  have z':=zd.down.pop (by rw [eosP.down];exact mu1)
  have q:=q _ _ _ _ ⟨z'.more (le_succ _),by rw [efs];rfl,gd.down,by simp only [length_cons] at ll⊢;lia⟩
  clear ht hs hra hh hb hpr hp
  walk_at "rz"
 | @finH tt ss rr hd dn nm ns hw=>
  cases hw.p.symm.trans hparts
  cases ry
  obtain⟨f,rfl⟩:∃f,fs= [f]:=by
   have:=zf.down
   cases fs with
   | nil=>cases this
   | cons f r=>cases r with
    | nil=>exact⟨f,rfl⟩
    | cons g r=>exact absurd (congrArg List.length this) (by simp)
  have zfd:=zf.down
  simp only [map_cons,List.cons.injEq,map_nil,and_true] at zfd
  have hb:H c.bd=some (.lst ([]++[.ref f.o])):=hb
  have zd:=PLift.up zz.down
  clear zz zl zf
  refine gK ?_
  clear gK gG
  walk_at "rz"
  refine⟨⟨_,SqL.of hb⟩,c.bd,[],.ref f.o,rfl,rfl,hb,λH1 mu1=>?_⟩
  obtain⟨hv',x',ns',nl',hfh,z'⟩:=zd.down.popH mu1
  have e1:f.pf=⟨f.dn,.ha x' ns'⟩:=by unfold Fm.pf;rw [hfh];rfl
  rw [e1] at zfd
  cases zfd
  have q:=q _ _ _ _ ⟨z'.more (le_succ _),rfl,gd.down,by simp only [length_cons,length_append,length_nil] at ll⊢;lia⟩
  clear ht hs hra hh hb hpr hp
  walk_at "rz"
 | @whl tt ss rr hd fp fps sg a b hw b1 b2 b3 b4=>
  cases hw.p.symm.trans hparts
  obtain⟨v0,_,rfl,a0,ry⟩:=ry.cons_inv
  obtain⟨v1,_,rfl,a1,ry⟩:=ry.cons_inv
  obtain⟨v2,_,rfl,a2,ry⟩:=ry.cons_inv
  cases ry
  obtain⟨w0,_,ew,c0,rz⟩:=ry0.down.cons_inv
  cases ew
  obtain⟨w1,_,ew,c1,rz⟩:=rz.cons_inv
  cases ew
  obtain⟨w2,_,ew,c2,rz⟩:=rz.cons_inv
  cases ew
  cases rz
  obtain⟨f,fs,rfl⟩:∃f g,fs=f::g:=by have:=zf.down;cases fs with | nil=>cases this | cons f g=>exact⟨f,g,rfl⟩
  have zfd:=zf.down
  simp only [map_cons,List.cons.injEq] at zfd
  obtain⟨ef,efs⟩:=zfd
  subst ef
  rw [map_cons,reverse_cons] at hb
  obtain⟨os,eos⟩:∃os,(fs.map λf=>V.ref f.o).reverse=os:=⟨_,rfl⟩
  rw [eos] at hb
  have hfo:H f.o=some (.tup [.str (wW f.h),.ref f.c,esV f.h.es]):=cI _ _ zz.down.fm.1.o
  have hfc:H f.c=some (.lst f.xs):=by have:=zz.down.cla.1;rwa [append_nil] at this
  have zd:=PLift.up zz.down
  have lv:=zz.down.lv
  have xl:=zz.down.xl
  have los:os.length=fs.length:=by rw [<-eos,length_reverse,length_map]
  rw [length_cons] at lv
  have nfb:f.c≠c.bd:=zz.down.nok (mem_cons_self ..)
  have eosP:=PLift.up eos
  clear zz zl zf eos
  refine gK ?_
  clear gK gG
  walk_at "rz"
  refine⟨k,_,pp,_,rfl,hp,by simp,.inr (.inr (.inl ⟨rfl,_,_,_,rfl,λp u H1 hp1 hu g1 h1u h1p=>?_⟩))⟩
  refine⟨p,c.bd,f.o,f.c,_,_,_,f.xs,_,rfl,h1p,g1 _ _ hb,by simp;lia,eX _ _,g1 _ _ hfo,rfl,g1 _ _ hfc,by lia,nfb,.inr (.inl ⟨rfl,_,_,_,_,_,rfl,λH2 p2 H3 H4 mu2 hp2 g3 h3 mu4=>?_⟩)⟩
  have sx:Same (cg u (K07.D.frz c.ws c.hl c.bd (f::fs) H1)) (K07.D.frz c.ws c.hl c.bd (⟨u,[],[],p,p2,.wh k v1 v0 v2 sg a b⟩::f::fs) H1):=λa' x' e'=>by
   obtain⟨n1,e'⟩:=cF e'
   obtain⟨n3,e'⟩:=bK e'
   exact aL (λm=>by
    rw [show keys (⟨u,[],[],p,p2,.wh k v1 v0 v2 sg a b⟩::f::fs)=u::keys (f::fs) from rfl] at m
    simp only [mem_cons] at m n3
    rcases m with m | m | m | m | m
    ·exact n3 (.inl m)
    ·exact n3 (.inr (.inl m))
    ·exact n3 (.inr (.inr (.inl m)))
    ·exact n1 m
    ·exact n3 (.inr (.inr (.inr m)))) e'
  have up:∀{vv:V} {dd:PyData},Rp K (K07.D.frz c.ws c.hl c.bd (f::fs) H) vv dd->Rp K (K07.D.frz c.ws c.hl c.bd (⟨u,[],[],p,p2,.wh k v1 v0 v2 sg a b⟩::f::fs) H1) vv dd:=λr=>r.mono λa' x' e'=>sx _ _ (bI (λz=>by have:=cI _ _ e';rw [z,hu] at this;cases this) (eF g1 _ _ e'))
  have ft:K07.D.frz c.ws c.hl c.bd (⟨u,[],[],p,p2,.wh k v1 v0 v2 sg a b⟩::f::fs) H1 p=some (.tup [.str (Str.ofString "while"),.int k,v1,v0,v2,.ref u]):=sx _ _ (bI (λz=>by rw [z,h1u] at h1p;cases h1p) (aL (zd.down.old hp1) h1p))
  have z':=zd.down.opn (g:=⟨u,[],[],p,p2,.wh k v1 v0 v2 sg a b⟩) (by rw [efs,length_map] at b1;exact b1) rfl rfl id rfl (λ_=>rfl) g1 (λa' ha=>by rw [List.mem_singleton.mp ha];exact hu) (by show [u].Nodup;simp) (λa' ha=>by rw [List.mem_singleton.mp ha];exact h1u)
   ⟨ft,up c1,up c0,up c2,b2,b3,b4⟩ mu2 g3 hp2 h3 (by rw [map_cons,reverse_cons,eosP.down];exact mu4)
  exact q _ _ _ _ ⟨z',by rw [efs];rfl,gd.down,by simp only [length_cons] at ll⊢;lia⟩
 | @iff tt ss rr hd fp fps sg a b hw b1 b2 b3 b4=>
  cases hw.p.symm.trans hparts
  obtain⟨v0,_,rfl,a0,ry⟩:=ry.cons_inv
  obtain⟨v1,_,rfl,a1,ry⟩:=ry.cons_inv
  obtain⟨v2,_,rfl,a2,ry⟩:=ry.cons_inv
  cases ry
  obtain⟨w0,_,ew,c0,rz⟩:=ry0.down.cons_inv
  cases ew
  obtain⟨w1,_,ew,c1,rz⟩:=rz.cons_inv
  cases ew
  obtain⟨w2,_,ew,c2,rz⟩:=rz.cons_inv
  cases ew
  cases rz
  obtain⟨f,fs,rfl⟩:∃f g,fs=f::g:=by have:=zf.down;cases fs with | nil=>cases this | cons f g=>exact⟨f,g,rfl⟩
  have zfd:=zf.down
  simp only [map_cons,List.cons.injEq] at zfd
  obtain⟨ef,efs⟩:=zfd
  subst ef
  rw [map_cons,reverse_cons] at hb
  obtain⟨os,eos⟩:∃os,(fs.map λf=>V.ref f.o).reverse=os:=⟨_,rfl⟩
  rw [eos] at hb
  have hfo:H f.o=some (.tup [.str (wW f.h),.ref f.c,esV f.h.es]):=cI _ _ zz.down.fm.1.o
  have hfc:H f.c=some (.lst f.xs):=by have:=zz.down.cla.1;rwa [append_nil] at this
  have zd:=PLift.up zz.down
  have lv:=zz.down.lv
  have xl:=zz.down.xl
  have los:os.length=fs.length:=by rw [<-eos,length_reverse,length_map]
  rw [length_cons] at lv
  have nfb:f.c≠c.bd:=zz.down.nok (mem_cons_self ..)
  have eosP:=PLift.up eos
  clear zz zl zf eos
  refine gK ?_
  clear gK gG
  walk_at "rz"
  refine⟨k,_,pp,_,rfl,hp,by simp,.inr (.inl ⟨rfl,_,_,_,rfl,λp u v H1 hp1 hu hv' nuv g1 h1u h1v h1p=>?_⟩)⟩
  refine⟨p,c.bd,f.o,f.c,_,_,_,f.xs,_,rfl,h1p,g1 _ _ hb,by simp;lia,eX _ _,g1 _ _ hfo,rfl,g1 _ _ hfc,by lia,nfb,.inl ⟨rfl,_,_,_,_,_,_,rfl,λH2 p2 H3 H4 mu2 hp2 g3 h3 mu4=>?_⟩⟩
  have sx:Same (cg u (cg v (K07.D.frz c.ws c.hl c.bd (f::fs) H1))) (K07.D.frz c.ws c.hl c.bd (⟨u,[],[],p,p2,.th k v1 v0 v2 sg a b v⟩::f::fs) H1):=λa' x' e'=>by
   obtain⟨n1,e'⟩:=cF e'
   obtain⟨n2,e'⟩:=cF e'
   obtain⟨n3,e'⟩:=bK e'
   exact aL (λm=>by
    rw [show keys (⟨u,[],[],p,p2,.th k v1 v0 v2 sg a b v⟩::f::fs)=u::v::keys (f::fs) from rfl] at m
    simp only [mem_cons] at m n3
    rcases m with m | m | m | m | m | m
    ·exact n3 (.inl m)
    ·exact n3 (.inr (.inl m))
    ·exact n3 (.inr (.inr (.inl m)))
    ·exact n1 m
    ·exact n2 m
    ·exact n3 (.inr (.inr (.inr m)))) e'
  have up:∀{vv:V} {dd:PyData},Rp K (K07.D.frz c.ws c.hl c.bd (f::fs) H) vv dd->Rp K (K07.D.frz c.ws c.hl c.bd (⟨u,[],[],p,p2,.th k v1 v0 v2 sg a b v⟩::f::fs) H1) vv dd:=λr=>r.mono λa' x' e'=>sx _ _ (bI (λz=>by have:=cI _ _ e';rw [z,hu] at this;cases this) (bI (λz=>by have:=cI _ _ e';rw [z,hv'] at this;cases this) (eF g1 _ _ e')))
  have ft:K07.D.frz c.ws c.hl c.bd (⟨u,[],[],p,p2,.th k v1 v0 v2 sg a b v⟩::f::fs) H1 p=some (.tup [.str (Str.ofString "if"),.int k,v1,v0,v2,.ref u,.ref v]):=sx _ _ (bI (λz=>by rw [z,h1u] at h1p;cases h1p) (bI (λz=>by rw [z,h1v] at h1p;cases h1p) (aL (zd.down.old hp1) h1p)))
  have z':=zd.down.opn (g:=⟨u,[],[],p,p2,.th k v1 v0 v2 sg a b v⟩) (by rw [efs,length_map] at b1;exact b1) rfl rfl id rfl (λ_=>rfl) g1 (λa' ha=>by rcases List.mem_cons.mp ha with q' | ha;rw [q'];exact hu;rw [List.mem_singleton.mp ha];exact hv') (by show [u,v].Nodup;simpa using nuv) (λa' ha=>by rcases List.mem_cons.mp ha with q' | ha;rw [q'];exact h1u;rw [List.mem_singleton.mp ha];exact h1v)
   ⟨ft,up c1,up c0,up c2,b2,b3,b4⟩ mu2 g3 hp2 h3 (by rw [map_cons,reverse_cons,eosP.down];exact mu4)
  exact q _ _ _ _ ⟨z',by rw [efs];rfl,gd.down,by simp only [length_cons] at ll⊢;lia⟩
 | @start tt ss rr hd fp fps nm es hw ok=>
  cases hw.p.symm.trans hparts
  obtain⟨v0,ys,rfl,a0,ry⟩:=ry.cons_inv
  cases a0
  obtain⟨w0,_,ew,c0,rz⟩:=ry0.down.cons_inv
  cases ew
  obtain⟨f,fs,rfl⟩:∃f g,fs=f::g:=by have:=zf.down;cases fs with | nil=>cases this | cons f g=>exact⟨f,g,rfl⟩
  have zfd:=zf.down
  simp only [map_cons,List.cons.injEq] at zfd
  obtain⟨ef,efs⟩:=zfd
  subst ef
  rw [map_cons,reverse_cons] at hb
  obtain⟨os,eos⟩:∃os,(fs.map λf=>V.ref f.o).reverse=os:=⟨_,rfl⟩
  rw [eos] at hb
  have hfo:H f.o=some (.tup [.str (wW f.h),.ref f.c,esV f.h.es]):=cI _ _ zz.down.fm.1.o
  have hfc:H f.c=some (.lst f.xs):=by have:=zz.down.cla.1;rwa [append_nil] at this
  have zd:=PLift.up zz.down
  have lv:=zz.down.lv
  have xl:=zz.down.xl
  have los:os.length=fs.length:=by rw [<-eos,length_reverse,length_map]
  rw [length_cons] at lv
  have nfb:f.c≠c.bd:=zz.down.nok (mem_cons_self ..)
  have eosP:=PLift.up eos
  clear zz zl zf eos
  have le:=ok
  simp only [bw] at le
  rw [length_cons,length_cons] at yl
  refine gK ?_
  clear gK gG
  walk_at "rz"
  refine⟨k,_,pp,_,rfl,hp,by rw [length_cons];lia,.inl ⟨rfl,_,_,rfl,λp l H1 hp1 hl g1 h1l h1p=>?_⟩⟩
  refine⟨p,c.bd,f.o,f.c,_,_,_,f.xs,_,rfl,h1p,g1 _ _ hb,by simp;lia,eX _ _,g1 _ _ hfo,rfl,g1 _ _ hfc,by lia,nfb,.inr (.inr ⟨by decide +kernel,by decide +kernel,λH2 mu2=>?_⟩)⟩
  have fp1:K07.D.frz c.ws c.hl c.bd (f::fs) H1 p=_:=aL (zd.down.old hp1) h1p
  have fl1:K07.D.frz c.ws c.hl c.bd (f::fs) H1 l=_:=aL (zd.down.old hl) h1l
  have z':=zd.down.push (s:=.st k nm es) (Cs:=[l]) g1 mu2 (by unfold smD;exact .tup fp1 (.cons (.str _) (.cons (.int _) (.cons (.str _) (.cons (.lst fl1 (rz.mono (eF g1))) .nil))))) (ni ok) (by unfold CtS;exact⟨p,_,_,_,l,rfl,fp1,rfl⟩) (λa=>by simp [count_cons];split<;>lia) (λa ha=>by rw [List.mem_singleton.mp ha,fl1];exact⟨hl,by simp⟩)
  exact q _ _ _ _ ⟨z',by rw [efs];rfl,gd.down,by simp only [length_cons] at ll⊢;lia⟩
 | @plain tt ss rr hd fp fps x' ds' hw ok=>
  cases hw.p.symm.trans hparts
  have nn:=ok
  simp only [bw] at nn
  have n9:∀y∈plW,y≠Str.ofString "tool"/\y≠Str.ofString "store"/\y≠Str.ofString "row"/\y≠Str.ofString "hand"/\y≠Str.ofString "else"/\y≠Str.ofString "end"/\y≠Str.ofString "if"/\y≠Str.ofString "while"/\y≠Str.ofString "start":=by decide +kernel
  obtain⟨m1,m2,m3,m4,m5,m6,m7,m8,m9⟩:=n9 _ nn.1
  obtain⟨f,fs,rfl⟩:∃f g,fs=f::g:=by have:=zf.down;cases fs with | nil=>cases this | cons f g=>exact⟨f,g,rfl⟩
  have zfd:=zf.down
  simp only [map_cons,List.cons.injEq] at zfd
  obtain⟨ef,efs⟩:=zfd
  subst ef
  rw [map_cons,reverse_cons] at hb
  obtain⟨os,eos⟩:∃os,(fs.map λf=>V.ref f.o).reverse=os:=⟨_,rfl⟩
  rw [eos] at hb
  have hfo:H f.o=some (.tup [.str (wW f.h),.ref f.c,esV f.h.es]):=cI _ _ zz.down.fm.1.o
  have hfc:H f.c=some (.lst f.xs):=by have:=zz.down.cla.1;rwa [append_nil] at this
  have zd:=PLift.up zz.down
  have lv:=zz.down.lv
  have xl:=zz.down.xl
  have los:os.length=fs.length:=by rw [<-eos,length_reverse,length_map]
  rw [length_cons] at lv
  have nfb:f.c≠c.bd:=zz.down.nok (mem_cons_self ..)
  have eosP:=PLift.up eos
  clear zz zl zf eos
  refine gK ?_
  clear gK gG
  walk_at "rz"
  refine⟨k,_,pp,_,rfl,hp,by lia,.inr (.inr (.inr ⟨m9,m7,m8,λp H1 hp1 g1 h1p=>?_⟩))⟩
  refine⟨p,c.bd,f.o,f.c,_,_,_,f.xs,_,rfl,h1p,g1 _ _ hb,by simp;lia,eX _ _,g1 _ _ hfo,rfl,g1 _ _ hfc,by lia,nfb,.inr (.inr ⟨m7,m8,λH2 mu2=>?_⟩)⟩
  have fp1:K07.D.frz c.ws c.hl c.bd (f::fs) H1 p=_:=aL (zd.down.old hp1) h1p
  have z':=zd.down.push (s:=.pl _ k _) (Cs:=[]) g1 mu2 (by unfold smD;exact .tup fp1 (.cons (.str _) (.cons (.int _) (ry0.down.mono (eF g1))))) (ni ok) (by unfold CtS;rfl) (λa=>by simp) (λa ha=>by cases ha)
  exact q _ _ _ _ ⟨z',by rw [efs];rfl,gd.down,by simp only [length_cons] at ll⊢;lia⟩
end
def wP:PH->Str
 | .ha _ _=>Str.ofString "hand"
 | .wh _ _ _ _=>Str.ofString "while"
 | .th _ _ _ _=>Str.ofString "if"
 | .el _ _ _ _ _=>Str.ofString "else"
theorem DL(h:Hg):wP h.ph=wW h:=by cases h<;>rfl
theorem gm{x:Str}{hE bE:Bool}{kd:Str}(h:x∉(["tool","store","row","hand","else"]:List Str))(b:bE=false):dZ x hE bE kd=true:=by
 simp only [mem_cons,not_or,not_mem_nil,not_false_eq_true,and_true] at h
 obtain⟨h1,h2,h3,h4,h5⟩:=h
 unfold dZ
 rw [if_neg (λz=>z.elim h1 λz=>z.elim h2 h3),if_neg h4,if_neg h5,b];rfl
theorem eQ{x:Str}{n:Nat}(h:x≠Str.ofString "if"/\x≠Str.ofString "while"):oG x n=false:=decide_eq_false λz=>z.1.elim h.1 h.2
section
variable{K:PySem.W.Frag}{H:Hp}
structure Chk(x:Str)(ys:List V)(hE bE:Bool)(kd:Str)(n:Nat)(nt nr nh:List Str):Prop where
 place:dZ x hE bE kd=true
 deep:oG x n=false
 meas:MsS x ys true
 twice:TwS nt nr nh x ys false
theorem xf{x:Str}{ys:List V}{b:Bool}(h:MsS x ys b)(e:b=true):MsS x ys true:=e▸h
theorem tW{nt nr nh:List Str}{x:Str}{ys:List V}{b:Bool}(h:TwS nt nr nh x ys b)(e:b=false):TwS nt nr nh x ys false:=e▸h
theorem chk{k:Nat}{row x:Str}{st st':PS}{ds:List PyData}{ys:List V}{hE bE:Bool}{kd:Str}{n:Nat}{nh:List Str}(re:RowE k row st st')(hp:aZ row=some (x,ds))(ry:RpL K H ys ds)
 (p1:st.hd= []->st.fs= []->hE=true) (p2:bE=st.fs.isEmpty) (p3:n=st.fs.length) (p4:∀f fs,st.fs=f::fs->kd=wP f.h) (p5:st.fs= []->nh=st.hd.map (·.1)) (p6:n<=6):Chk x ys hE bE kd n (st.t.map (·.1)++st.s.map (·.1)) (st.r.map (·.1)) nh:=by
 cases re with
 | @tool t s r nm m hw b1 b2 b3 b4=>
  cases hw.p.symm.trans hp
  obtain⟨v0,_,rfl,a0,ry⟩:=ry.cons_inv
  obtain⟨v1,_,rfl,a1,ry⟩:=ry.cons_inv
  cases ry;cases a0;cases a1
  exact⟨by unfold dZ;rw [if_pos (.inl rfl)];exact p1 rfl rfl,eQ (by decide +kernel),xf (.tool rfl) (by rw [decide_eq_true b1,decide_eq_true b2];rfl),tW (.good (.inl rfl)) (decide_eq_false b3)⟩
 | @store t s r nm m l hw b1 b2 b3 b4 b5=>
  cases hw.p.symm.trans hp
  obtain⟨v0,_,rfl,a0,ry⟩:=ry.cons_inv
  obtain⟨v1,_,rfl,a1,ry⟩:=ry.cons_inv
  obtain⟨v2,_,rfl,a2,ry⟩:=ry.cons_inv
  cases ry;cases a0;cases a1;cases a2
  exact⟨by unfold dZ;rw [if_pos (.inr (.inl rfl))];exact p1 rfl rfl,eQ (by decide +kernel),xf (.store rfl) (by rw [decide_eq_true b1,decide_eq_true b2,decide_eq_true b3];rfl),tW (.good (.inr rfl)) (decide_eq_false b4)⟩
 | @row t s r nm ns hw b1 b2 b3 b4 b5=>
  cases hw.p.symm.trans hp
  obtain⟨v0,_,rfl,a0,ry1⟩:=ry.cons_inv
  have ey:=qC ry1
  cases a0
  subst ey
  exact⟨by unfold dZ;rw [if_pos (.inr (.inr rfl))];exact p1 rfl rfl,eQ (by decide +kernel),xf (.row rfl b1) (decide_eq_true b3),tW (.row rfl) (decide_eq_false b4)⟩
 | @hand t s r hd nm ns hw b1 b2 b3 b4=>
  cases hw.p.symm.trans hp
  obtain⟨v0,_,rfl,a0,ry1⟩:=ry.cons_inv
  have ey:=qp ry1
  cases a0
  subst ey
  have b3l:=b3.len
  exact⟨by unfold dZ;rw [if_neg (by decide +kernel),if_pos rfl,p2];rfl,eQ (by decide +kernel),.other (by decide +kernel) (by decide +kernel) (by decide +kernel),tW (.hand rfl (by lia)) (by rw [p5 rfl,decide_eq_false b2,decide_eq_true b1];rfl)⟩
 | @els t s r hd k0 sg a b dn fs hw=>
  cases hw.p.symm.trans hp
  exact⟨by unfold dZ;rw [if_neg (by decide +kernel),if_neg (by decide +kernel),if_pos rfl,p2,p4 _ _ rfl];rfl,eQ (by decide +kernel),.other (by decide +kernel) (by decide +kernel) (by decide +kernel),.other (by decide +kernel) (by decide +kernel) (by decide +kernel) (by decide +kernel)⟩
 | @fin t s r hd f g fs hw=>
  cases hw.p.symm.trans hp
  exact⟨gm (by decide +kernel) p2,eQ (by decide +kernel),.other (by decide +kernel) (by decide +kernel) (by decide +kernel),.other (by decide +kernel) (by decide +kernel) (by decide +kernel) (by decide +kernel)⟩
 | @finH t s r hd dn x ns hw=>
  cases hw.p.symm.trans hp
  exact⟨gm (by decide +kernel) p2,eQ (by decide +kernel),.other (by decide +kernel) (by decide +kernel) (by decide +kernel),.other (by decide +kernel) (by decide +kernel) (by decide +kernel) (by decide +kernel)⟩
 | @whl t s r hd f fs sg a b hw b1=>
  cases hw.p.symm.trans hp
  exact⟨gm (by decide +kernel) p2,decide_eq_false (λz=>by have:=z.2;rw [p3] at this;simp only [length_cons] at this;lia),.other (by decide +kernel) (by decide +kernel) (by decide +kernel),.other (by decide +kernel) (by decide +kernel) (by decide +kernel) (by decide +kernel)⟩
 | @iff t s r hd f fs sg a b hw b1=>
  cases hw.p.symm.trans hp
  exact⟨gm (by decide +kernel) p2,decide_eq_false (λz=>by have:=z.2;rw [p3] at this;simp only [length_cons] at this;lia),.other (by decide +kernel) (by decide +kernel) (by decide +kernel),.other (by decide +kernel) (by decide +kernel) (by decide +kernel) (by decide +kernel)⟩
 | @start t s r hd f fs nm es hw=>
  cases hw.p.symm.trans hp
  exact⟨gm (by decide +kernel) p2,eQ (by decide +kernel),.other (by decide +kernel) (by decide +kernel) (by decide +kernel),.other (by decide +kernel) (by decide +kernel) (by decide +kernel) (by decide +kernel)⟩
 | @plain t s r hd f fs x' ds' hw ok=>
  cases hw.p.symm.trans hp
  simp only [bw] at ok
  have n9:∀y∈plW,y∉(["tool","store","row","hand","else"]:List Str)/\y≠Str.ofString "if"/\y≠Str.ofString "while":=by decide +kernel
  obtain⟨m1,m2,m3⟩:=n9 _ ok.1
  have m4:=m1
  simp only [mem_cons,not_or,not_mem_nil,not_false_eq_true,and_true] at m4
  obtain⟨h1,h2,h3,h4,h5⟩:=m4
  exact⟨gm m1 p2,eQ ⟨m2,m3⟩,.other h1 h2 h3,.other h1 h2 h3 h4⟩
theorem RowE.parts{k:Nat}{row:Str}{st st':PS}(h:RowE k row st st'):∃x ds,Rw row x ds:=by
 cases h with
 | tool h=>exact⟨_,_,h⟩
 | store h=>exact⟨_,_,h⟩
 | row h=>exact⟨_,_,h⟩
 | hand h=>exact⟨_,_,h⟩
 | els h=>exact⟨_,_,h⟩
 | fin h=>exact⟨_,_,h⟩
 | finH h=>exact⟨_,_,h⟩
 | whl h=>exact⟨_,_,h⟩
 | iff h=>exact⟨_,_,h⟩
 | start h=>exact⟨_,_,h⟩
 | plain h=>exact⟨_,_,h⟩
end
section
variable{K:PySem.W.Frag}{H:Hp}
theorem nj{vs:List V}:∀{os:List (Str×List PyData)},RpL K H vs (os.map bM)->Ns H vs (os.map (·.1)):=by
 induction vs with
 | nil=>intro os t;cases os with | nil=>exact .nil | cons o os=>cases t
 | cons a vs ih=>
  intro os t
  cases os with
  | nil=>cases t
  | cons o os=>
   cases t with
   | cons h r=>
    cases h with
    | tup h1 r1=>cases r1 with | cons a r1=>cases a;exact .cons h1 (ih r)
theorem xg{vs:List V}:∀{os:List Hd},RpL K H vs (os.map hdD)->Ns H vs (os.map (·.1)):=by
 induction vs with
 | nil=>intro os t;cases os with | nil=>exact .nil | cons o os=>cases t
 | cons a vs ih=>
  intro os t
  cases os with
  | nil=>cases t
  | cons o os=>
   cases t with
   | cons h r=>
    cases h with
    | tup h1 r1=>cases r1 with | cons a r1=>cases a;exact .cons h1 (ih r)
end
theorem vF{K:PySem.W.Frag}{ob:Hg->Addr->HO}{F:Hp}:∀{fs:List Fm} {hv:List V},Fms K ob F fs->fs≠[]->∃x,Ns F (fM fs hv) [x]
 | [],_,_,h=>absurd rfl h
 | f::fs,hv,h,_=>by
  obtain⟨fo,fi,fr⟩:=h
  cases fs with
  | nil=>
   have ih:=fi.mpr rfl
   have fh:=fo.h
   cases hh:f.h with
   | wh=>rw [hh] at ih;exact absurd ih id
   | th=>rw [hh] at ih;exact absurd ih id
   | el=>rw [hh] at ih;exact absurd ih id
   | ha x ns nl=>
    rw [hh] at fh
    exact⟨x,.cons fh.1 .nil⟩
  | cons g r=>exact vF (hv:=[.ref f.t]) fr (by simp)
theorem _root_.K07.Ns.upS{H H':Hp}{vs:List V}{l:List Str}(t:Ns H vs l)(g:Same H H'):Ns H' vs l:=t.up g
structure Fd(K:PySem.W.Frag)(H H':Hp)(g:Pg)(pr:Addr)(tl sl rl hl:Addr)(ta sa ra hv:List V)(Cn Ch:List Addr):Prop where
 same:Same H H'
 pr:H' pr=some (.tup [.ref tl,.ref sl,.ref rl,.ref hl])
 t:H' tl=some (.lst ta)
 s:H' sl=some (.lst sa)
 r:H' rl=some (.lst ra)
 h:H' hl=some (.lst hv)
 rt:RpL K H' ta (g.t.map bM)
 rs:RpL K H' sa (g.s.map bM)
 rr:RpL K H' ra (g.r.map bM)
 rh:RpL K H' hv (g.h.map hdD)
 cr:CtR H' ra Cn
 ch:CtH H' g.h hv Ch
 nd:(tl::sl::rl::hl::(Cn++Ch)).Nodup
 new:∀a∈tl::sl::rl::hl::(Cn++Ch),H a=none
 hg:∀h∈g.h,fK h.2.2 6/\mW h.1 h.2.1
 cn:(g.h.flatMap λh=>orB h.2.2).length<=200
end K07.D
namespace K07
open PySem L2
def gq(t:Str):Bool:=(bq t).isSome || (bf t).isSome
def run:List Str->Bool->Nat->Bool
 | [],_,_=>false
 | t::r,true,d=>if t=Str.ofString "(" then decide (d+1<=5)&&run r true (d+1) else (bc t).isSome&&run r false d
 | t::r,false,d=>if t=Str.ofString ")" then decide (1<=d)&&run r false (d-1) else if gq t=true then run r true d else decide (t=Str.ofString "")&&decide (d=0)
structure Fw(d:Nat)(P:List Str->Prop)(f:Pz):Prop where
 ok:∀ts e rest,f ts=some (e,rest)->run ts true d=run rest false d/\P rest
 no:∀ts,f ts=none->run ts true d=false
theorem dh{t:Str}{o:Op}(h:bq t=some o):gq t=true/\t≠Str.ofString ")":=by
 unfold bq at h
 split at h
 ·rename_i e;subst e;exact⟨by decide +kernel,by decide +kernel⟩
 ·cases h
theorem vG{t:Str}{o:Op}(h:bf t=some o):gq t=true/\t≠Str.ofString ")":=by
 unfold bf at h
 split at h
 ·rename_i e;subst e;exact⟨by decide +kernel,by decide +kernel⟩
 ·split at h
  ·rename_i e;subst e;exact⟨by decide +kernel,by decide +kernel⟩
  ·cases h
theorem Cu{t:Str}{r:List Str}{d:Nat}(h:gq t=true/\t≠Str.ofString ")"):run (t::r) false d=run r true d:=by
 rw [run,if_neg h.2,if_pos h.1]
theorem kA{d:Nat}{P:List Str->Prop}{f:Pz}{sg:Str->Option Op}(h:Fw d P f)(hl:Len f)(hs:∀t o,sg t=some o->gq t=true/\t≠Str.ofString ")"):∀(n:Nat) (e:Tr) (rest:List Str),rest.length<=n->P rest->
 (∀e' r',cu f sg n e rest=some (e',r')->run rest false d=run r' false d/\P r'/\dM sg r')/\(cu f sg n e rest=none->run rest false d=false)
 | 0,e,[],hn,hp=>⟨λe' r' hf=>by cases hf;exact⟨rfl,hp,trivial⟩,λhf=>nomatch hf⟩
 | 0,e,t::r,hn,hp=>absurd hn (by rw [length_cons];lia)
 | n+1,e,[],hn,hp=>⟨λe' r' hf=>by cases hf;exact⟨rfl,hp,trivial⟩,λhf=>nomatch hf⟩
 | n+1,e,t::r,hn,hp=>by
  rw [cu]
  cases ht:sg t with
  | none=>exact⟨λe' r' hf=>by cases hf;exact⟨rfl,hp,ht⟩,λhf=>nomatch hf⟩
  | some o=>
   dsimp only
   rw [Cu (hs t o ht)]
   cases hr:f r with
   | none=>exact And.intro (λe' r' hf=>by cases hf) (λ_=>h.no r hr)
   | some p=>
    obtain⟨e2,r2⟩:=p
    dsimp only
    obtain⟨h1,h2⟩:=h.ok r e2 r2 hr
    have hlt:=hl _ _ _ hr
    rw [length_cons] at hn
    rw [h1]
    exact kA h hl hs n _ r2 (by lia) h2
theorem gW{d:Nat}{P:List Str->Prop}{f:Pz}{sg:Str->Option Op}(h:Fw d P f)(hl:Len f)(hs:∀t o,sg t=some o->gq t=true/\t≠Str.ofString ")"):Fw d (λr=>P r/\dM sg r) (bn f sg):=by
 refine⟨λts e rest hf=>?_,λts hf=>?_⟩
 ·unfold bn at hf
  cases hr:f ts with
  | none=>rw [hr] at hf;cases hf
  | some p=>
   obtain⟨e1,r1⟩:=p
   rw [hr] at hf
   dsimp only at hf
   obtain⟨h1,h2⟩:=h.ok ts e1 r1 hr
   rw [h1]
   exact(kA h hl hs _ e1 r1 (le_refl _) h2).1 e rest hf
 ·unfold bn at hf
  cases hr:f ts with
  | none=>exact h.no ts hr
  | some p=>
   obtain⟨e1,r1⟩:=p
   rw [hr] at hf
   dsimp only at hf
   obtain⟨h1,h2⟩:=h.ok ts e1 r1 hr
   rw [h1]
   exact(kA h hl hs _ e1 r1 (le_refl _) h2).2 hf
def lJ(r:List Str):Prop:=dM bq r/\dM bf r
theorem xh{r:List Str}{d:Nat}(h:lJ r)(hp:∀t r',r=t::r'->t≠Str.ofString ")")(hd:d≠0):run r false d=false:=by
 cases r with
 | nil=>rfl
 | cons t r'=>
  have h1:bq t=none:=h.1
  have h2:bf t=none:=h.2
  have e:gq t=false:=by unfold gq;rw [h1,h2];rfl
  rw [run,if_neg (hp t r' rfl),if_neg (by rw [e];exact Bool.false_ne_true)]
  rw [decide_eq_false hd,Bool.and_false]
theorem kU{d:Nat}{sub:Pz}(h:d+1<=5->Fw (d+1) lJ sub)(h5:¬d+1<=5->∀l,sub l=none):Fw d (λ_=>True) (bV sub):=by
 refine⟨λts e rest hf=>?_,λts hf=>?_⟩
 ·cases ts with
  | nil=>cases hf
  | cons t r=>
   rw [cS] at hf
   refine⟨?_,trivial⟩
   by_cases c:t=Str.ofString "("
   ·rw [if_pos c] at hf
    by_cases hd:d+1<=5
    ·cases hs:sub r with
     | none=>rw [hs] at hf;cases hf
     | some p=>
      obtain⟨e1,r1⟩:=p
      rw [hs] at hf
      obtain⟨h1,h2⟩:=(h hd).ok r e1 r1 hs
      cases r1 with
      | nil=>cases hf
      | cons t1 r1=>
       unfold fI at hf
       dsimp only at hf
       split at hf
       ·rename_i c1
        cases hf
        rw [run,if_pos c,h1,run,if_pos c1,decide_eq_true hd,Bool.true_and,decide_eq_true (by lia),Bool.true_and]
        rfl
       ·cases hf
    ·rw [h5 hd] at hf;cases hf
   ·rw [if_neg c] at hf
    cases hl:bc t with
    | none=>rw [hl] at hf;cases hf
    | some u=>
     rw [hl] at hf
     cases hf
     rw [run,if_neg c,hl]
     rfl
 ·cases ts with
  | nil=>rfl
  | cons t r=>
   rw [cS] at hf
   by_cases c:t=Str.ofString "("
   ·rw [if_pos c] at hf
    rw [run,if_pos c]
    by_cases hd:d+1<=5
    ·rw [decide_eq_true hd,Bool.true_and]
     cases hs:sub r with
     | none=>exact(h hd).no r hs
     | some p=>
      obtain⟨e1,r1⟩:=p
      rw [hs] at hf
      obtain⟨h1,h2⟩:=(h hd).ok r e1 r1 hs
      rw [h1]
      refine xh h2 (λt1 r2 e z=>?_) (by lia)
      subst e
      unfold fI at hf
      dsimp only at hf
      rw [if_pos z] at hf
      cases hf
    ·rw [decide_eq_false hd,Bool.false_and]
   ·rw [if_neg c] at hf
    cases hl:bc t with
    | none=>rw [run,if_neg c,hl];rfl
    | some u=>rw [hl] at hf;cases hf
theorem qD:∀k,k<=5->Fw (5-k) lJ (smF k)
 | 0,_=>by
  have h0:Fw 5 (λ_=>True) (bV (iA 0)):=kU (λh=>absurd h (by decide)) λ_ _=>rfl
  have h1:=gW h0 (dF (fX 0)) λt o=>dh
  have h2:=gW h1 (gF (dF (fX 0))) λt o=>vG
  rw [kn]
  exact⟨λts e rest hf=>⟨(h2.ok ts e rest hf).1,(h2.ok ts e rest hf).2.1.2,(h2.ok ts e rest hf).2.2⟩,h2.no⟩
 | k+1,hk=>by
  have ih:=qD k (by lia)
  have e:5-k=5-(k+1)+1:=by lia
  rw [e] at ih
  have h0:Fw (5-(k+1)) (λ_=>True) (bV (iA (k+1))):=kU (λ_=>ih) λh=>absurd (show 5-(k+1)+1<=5 by lia) h
  have h1:=gW h0 (dF (fX (k+1))) λt o=>dh
  have h2:=gW h1 (gF (dF (fX (k+1)))) λt o=>vG
  rw [kn]
  exact⟨λts e rest hf=>⟨(h2.ok ts e rest hf).1,(h2.ok ts e rest hf).2.1.2,(h2.ok ts e rest hf).2.2⟩,h2.no⟩
theorem kB(w:Str):(dr w).isSome=(decide (w.length<=60)&&run (bv w) true 0):=by
 unfold dr
 by_cases hl:60<w.length
 ·rw [if_pos hl,decide_eq_false (by lia)];rfl
 ·rw [if_neg hl,decide_eq_true (by lia),Bool.true_and]
  have h:=qD 5 (le_refl _)
  cases hs:smF 5 (bv w) with
  | none=>rw [h.no _ hs];rfl
  | some p=>
   obtain⟨e,r⟩:=p
   obtain⟨h1,h2⟩:=h.ok _ _ _ hs
   have h1:run (bv w) true 0=run r false 0:=h1
   rw [h1]
   cases r with
   | nil=>rfl
   | cons t r=>
    have a1:bq t=none:=h2.1
    have a2:bf t=none:=h2.2
    have eo:gq t=false:=by unfold gq;rw [a1,a2];rfl
    dsimp only
    by_cases c:t=Str.ofString ""
    ·rw [if_pos c,run,if_neg (by rw [c];decide +kernel),if_neg (by rw [eo];exact Bool.false_ne_true),decide_eq_true c]
     rfl
    ·rw [if_neg c,run]
     by_cases c2:t=Str.ofString ")"
     ·rw [if_pos c2];rfl
     ·rw [if_neg c2,if_neg (by rw [eo];exact Bool.false_ne_true),decide_eq_false c];rfl
end K07
namespace K07.D
open PySem L2
theorem iE:∀(T:List Str) (due:Bool) (d:Nat),(∀t∈T,t≠Str.ofString "")->run (T++[Str.ofString ""]) due d=true->∀r,run (T++r) due d=run r false 0
 | [],due,d,_,h,r=>by
  cases due with
  | true=>
   have:run [Str.ofString ""] true d=true:=h
   rw [run,if_neg (by decide +kernel),nR] at this
   cases this
  | false=>
   have h:run [Str.ofString ""] false d=true:=h
   rw [run,if_neg (by decide +kernel),if_neg (by decide +kernel)] at h
   simp only [and_eq_true,decide_eq_true_eq] at h
   rw [h.2];rfl
 | t::T,due,d,ne,h,r=>by
  have nt:=ne t (mem_cons_self ..)
  have nT:∀t∈T,t≠Str.ofString "":=λx hx=>ne x (mem_cons_of_mem _ hx)
  have h:run (t::(T++[Str.ofString ""])) due d=true:=h
  show run (t::(T++r)) due d=_
  cases due with
  | true=>
   rw [run] at h⊢
   by_cases c:t=Str.ofString "("
   ·rw [if_pos c] at h⊢
    simp only [and_eq_true] at h
    rw [h.1,Bool.true_and]
    exact iE T true (d+1) nT h.2 r
   ·rw [if_neg c] at h⊢
    simp only [and_eq_true] at h
    rw [h.1,Bool.true_and]
    exact iE T false d nT h.2 r
  | false=>
   rw [run] at h⊢
   by_cases c:t=Str.ofString ")"
   ·rw [if_pos c] at h⊢
    simp only [and_eq_true] at h
    rw [h.1,Bool.true_and]
    exact iE T false (d-1) nT h.2 r
   ·rw [if_neg c] at h⊢
    by_cases c2:gq t=true
    ·rw [if_pos c2] at h⊢
     exact iE T true d nT h r
    ·rw [if_neg c2,decide_eq_false nt] at h
     cases h
theorem jD{u:Str}(h1:u≠Str.ofString "(")(h2:u≠Str.ofString ")")(h3:gq u=false)(h4:u≠Str.ofString "")(h5:bc u=none):∀(A:List Str) (due:Bool) (d:Nat),(∀t∈A,t≠Str.ofString "")->run (A++[u,Str.ofString ""]) due d=false
 | [],due,d,_=>by
  show run [u,Str.ofString ""] due d=false
  cases due with
  | true=>rw [run,if_neg h1,h5];rfl
  | false=>rw [run,if_neg h2,if_neg (by rw [h3];exact Bool.false_ne_true),decide_eq_false h4];rfl
 | t::A,due,d,ne=>by
  have nt:=ne t (mem_cons_self ..)
  have nA:∀t∈A,t≠Str.ofString "":=λx hx=>ne x (mem_cons_of_mem _ hx)
  show run (t::(A++[u,Str.ofString ""])) due d=false
  cases due with
  | true=>
   rw [run]
   split
   ·rw [jD h1 h2 h3 h4 h5 A _ _ nA,Bool.and_false]
   ·rw [jD h1 h2 h3 h4 h5 A _ _ nA,Bool.and_false]
  | false=>
   rw [run]
   split
   ·rw [jD h1 h2 h3 h4 h5 A _ _ nA,Bool.and_false]
   ·split
    ·exact jD h1 h2 h3 h4 h5 A _ _ nA
    ·rw [decide_eq_false nt];rfl
def sg8:List Nat:=[43,42,40,33,46,61,60,45]
theorem tX{x:Str}{t:Tr}(h:bc x=some t):∀c∈x.cps.toList,c∉sg8:=by
 have no:∀{c:Nat},(48<=c/\c<=57)\/(97<=c/\c<=122)->c∉sg8:=λh m=>by
  simp only [sg8,mem_cons,not_mem_nil,or_false] at m
  lia
 unfold bc at h
 split at h
 ·rename_i e;rw [e];decide +kernel
 split at h
 ·rename_i e;rw [e];decide +kernel
 split at h
 ·rename_i e
  unfold aW at e
  simp only [and_eq_true,decide_eq_true_eq] at e
  exact λc hc=>no (.inr (jx (List.all_eq_true.mp e.2 c hc)))
 split at h
 ·rename_i e
  unfold cV at e
  simp only [and_eq_true,decide_eq_true_eq] at e
  exact λc hc=>no (.inl (fW (List.all_eq_true.mp e.2 c hc)))
 ·cases h
theorem hU(x:Str)(c:Nat):(x++(⟨#[c]⟩:Str)).cps.toList=x.cps.toList++[c]:=by rw [aG]
theorem vH{l:List Str}:∀t∈fil l,t≠Str.ofString "":=λt ht=>by
 unfold fil at ht
 have:=(List.mem_filter.mp ht).2
 simpa using this
theorem vI{x:Str}{t:Tr}{c:Nat}(h:dr x=some t)(hc:c∈sg8):dr (x++⟨#[c]⟩)=none:=by
 have h0:=kB x
 rw [h] at h0
 have h0:=h0.symm
 simp only [Option.isSome_some,and_eq_true] at h0
 have h1:run (fil (bj (bT x.cps.toList))++[Str.ofString ""]) true 0=true:=h0.2
 have e2:=kB (x++⟨#[c]⟩)
 have et:bv (x++⟨#[c]⟩)=fil (bj (bh (bT x.cps.toList) c))++[Str.ofString ""]:=by
  unfold bv
  rw [hU,kS]
  rfl
 rw [et] at e2
 generalize bT x.cps.toList=s at h1 e2
 obtain⟨A,u⟩:=s
 have key:run (fil (bj (bh (A,u) c))++[Str.ofString ""]) true 0=false:=by
  cases hs:isL "+-*()" c with
  | true=>
   have e:bh (A,u) c=(A++[u]++[⟨#[c]⟩],Str.ofString ""):=by unfold bh;rw [if_pos hs]
   have n:(⟨#[c]⟩:Str)≠Str.ofString "":=λz=>by
    have:=congrArg (λx:Str=>x.cps.size) z
    rw [dX] at this
    exact absurd this (by simp)
   rw [e]
   have e3:fil (bj (A++[u]++[⟨#[c]⟩],Str.ofString ""))++[Str.ofString ""]=fil (bj (A,u))++[⟨#[c]⟩,Str.ofString ""]:=by
    unfold bj
    rw [fY,iO,fY,kJ n];simp
   rw [e3,iE _ _ _ vH h1]
   have:∀c∈sg8,isL "+-*()" c=true->run [⟨#[c]⟩,Str.ofString ""] false 0=false:=by decide +kernel
   exact this c hc hs
  | false=>
   have e:bh (A,u) c=(A,u++⟨#[c]⟩):=by unfold bh;rw [if_neg (by rw [hs];exact Bool.false_ne_true)]
   have m:c∈(u++(⟨#[c]⟩:Str)).cps.toList:=by rw [hU];simp
   have nes:∀s:Str,(∀d∈s.cps.toList,isL "+-*()" d=true)->u++(⟨#[c]⟩:Str)≠s:=λs q z=>by
    have:=q c (by rw [<-z];exact m)
    rw [hs] at this;cases this
   have n:u++(⟨#[c]⟩:Str)≠Str.ofString "":=nes _ (by decide +kernel)
   rw [e]
   have e3:fil (bj (A,u++⟨#[c]⟩))++[Str.ofString ""]=fil A++[u++⟨#[c]⟩,Str.ofString ""]:=by
    unfold bj
    rw [fY,kJ n];simp
   rw [e3]
   refine jD (nes _ (by decide +kernel)) (nes _ (by decide +kernel)) ?_ n ?_ _ _ _ vH
   ·unfold gq bq bf
    rw [if_neg (nes _ (by decide +kernel)),if_neg (nes _ (by decide +kernel)),if_neg (nes _ (by decide +kernel))];rfl
   ·cases hl:bc (u++(⟨#[c]⟩:Str)) with
    | none=>rfl
    | some t=>exact absurd hc (tX hl c m)
 rw [key,Bool.and_false] at e2
 exact Option.not_isSome_iff_eq_none.mp (by rw [e2];exact Bool.false_ne_true)
theorem vJ{k x:Str}{d:PyData}{c:Nat}(h:aF k x=some d)(hc:c∈sg8):aF k (x++⟨#[c]⟩)=none:=by
 have m:c∈(x++(⟨#[c]⟩:Str)).cps.toList:=by rw [hU];simp
 have num:cV (x++⟨#[c]⟩)=false:=by
  cases q:cV (x++⟨#[c]⟩) with
  | false=>rfl
  | true=>
   unfold cV at q
   simp only [and_eq_true,decide_eq_true_eq] at q
   have:=fW (List.all_eq_true.mp q.2 c m)
   simp only [sg8,mem_cons,not_mem_nil,or_false] at hc
   lia
 have nam:aW (x++⟨#[c]⟩)=false:=by
  cases q:aW (x++⟨#[c]⟩) with
  | false=>rfl
  | true=>
   unfold aW at q
   simp only [and_eq_true,decide_eq_true_eq] at q
   have:=jx (List.all_eq_true.mp q.2 c m)
   simp only [sg8,mem_cons,not_mem_nil,or_false] at hc
   lia
 unfold aF at h⊢
 by_cases c1:k=Str.ofString "expression"
 ·rw [if_pos c1] at h⊢
  obtain⟨t,e,_⟩:=Option.map_eq_some_iff.mp h
  rw [vI e hc];rfl
 ·rw [if_neg c1] at h⊢
  rw [if_neg (λz=>by rw [num] at z;exact absurd z.2 Bool.false_ne_true),if_neg (λz=>by rw [nam] at z;exact absurd z.2 Bool.false_ne_true)]
  refine if_neg λz=>?_
  have e1:k=Str.ofString "sign":=z.1
  rw [if_neg (λy=>by rw [e1] at y;exact absurd y.1 (by decide +kernel)),if_neg (λy=>by rw [e1] at y;exact absurd y.1 (by decide +kernel))] at h
  split at h
  ·rename_i y
   have l1:x.length=1:=by rcases y.2 with e | e<;>rw [e]<;>decide +kernel
   have l2:(x++(⟨#[c]⟩:Str)).length=1:=by rcases z.2 with e | e<;>rw [e]<;>decide +kernel
   rw [bC,l1] at l2
   exact absurd (show 1+1=1 from l2) (by decide)
  ·cases h
theorem iR{row w:Str}{ds:List PyData}(h:aZ row=some (w,ds)):∃r ks,PySem.Txt.split row ⟨#[32]⟩=w::r/\bi (w::r)=some ks/\dy (zipWith aF ks r)=some ds:=by
 unfold aZ at h
 split at h
 ·cases h
 ·rename_i x r e
  split at h
  ·cases h
  ·rename_i ks hk
   obtain⟨es,e1,e2⟩:=Option.map_eq_some_iff.mp h
   cases e2
   exact⟨r,ks,e,hk,e1⟩
theorem dI{x:Str}{r:List Str}(h:∀y∈x::r,32∉y.cps.toList)(hn:∀ks,bi (x::r)=some ks->none∈zipWith aF ks r):aZ (aR (x::r))=none:=by
 unfold aZ aR
 rw [jP 32 (cons_ne_nil _ _) h]
 simp only
 cases hk:bi (x::r) with
 | none=>rfl
 | some ks=>simp only;rw [ku (hn ks hk)];rfl
theorem tY{w:Str}{r r':List Str}(h:r.length=r'.length):bi (w::r)=bi (w::r'):=by
 unfold bi
 simp only [h]
theorem eH(row:Str):row=aR (PySem.Txt.split row ⟨#[32]⟩):=(PySem.StrLaws.join_split row ⟨#[32]⟩).symm
theorem iF{row x:Str}(h:x∈PySem.Txt.split row ⟨#[32]⟩):32∉x.cps.toList:=PySem.StrLaws.split_free row 32 x h
theorem qE(c:Nat):∀{a b:List (List Nat)},a≠[]->b≠[]->jn c (a++b)=jn c a++c::jn c b
 | [],_,h,_=>absurd rfl h
 | [x],b,_,hb=>by
  obtain⟨y,r,rfl⟩:=List.exists_cons_of_ne_nil hb
  rfl
 | x::y::r,b,_,hb=>by
  show x++c::jn c ((y::r)++b)=(x++c::jn c (y::r))++c::jn c b
  rw [qE c (by simp) hb];simp
theorem jW{a b:List Str}(ha:a≠[])(hb:b≠[]):aR a++Str.ofString " "++aR b=aR (a++b):=dc (by
 unfold aR
 rw [aG,aG,mB,bJ,bJ,bJ,map_append,qE 32 (by simpa using ha) (by simpa using hb)]
 simp)
theorem qF(x:Str):aR [x]=x:=rfl
theorem kN(c:Nat)(e:List Nat):∀(a:List (List Nat)) (x:List Nat),jn c (a++[x])++e=jn c (a++[x++e])
 | [],x=>rfl
 | [y],x=>by show(y++c::x)++e=y++c::(x++e);simp
 | y::z::r,x=>by
  show(y++c::jn c ((z::r)++[x]))++e=y++c::jn c ((z::r)++[x++e])
  rw [<-kN c e (z::r) x];simp
theorem vK(a:List Str)(x e:Str):aR (a++[x])++e=aR (a++[x++e]):=dc (by
 unfold aR
 rw [aG,bJ,bJ,map_append,map_append,map_singleton,map_singleton,kN,aG])
theorem xi(k:Str):aF k (Str.ofString "")=none:=by
 have e1:dr (Str.ofString "")=none:=Option.not_isSome_iff_eq_none.mp (by rw [kB];decide +kernel)
 have e2:cV (Str.ofString "")=false:=by decide +kernel
 have e3:aW (Str.ofString "")=false:=by decide +kernel
 unfold aF
 by_cases c1:k=Str.ofString "expression"
 ·rw [if_pos c1,e1];rfl
 ·rw [if_neg c1,if_neg (λz=>by rw [e2] at z;exact absurd z.2 Bool.false_ne_true),if_neg (λz=>by rw [e3] at z;exact absurd z.2 Bool.false_ne_true)]
  exact if_neg λz=>absurd z.2 (by decide +kernel)
theorem qG{ks r:List Str}{x:Str}(hl:ks.length=(r++[x]).length)(h:∀k,ks[r.length]? =some k->aF k x=none):none∈zipWith aF ks (r++[x]):=by
 have lk:r.length<ks.length:=by rw [hl,length_append,length_singleton];lia
 have e:(zipWith aF ks (r++[x]))[r.length]? =some none:=by
  rw [getElem?_zipWith,getElem?_eq_getElem lk,getElem?_append_right (le_refl _),sub_self]
  simp only [List.getElem?_cons_zero]
  rw [h _ (getElem?_eq_getElem lk)]
 exact mem_of_getElem? e
theorem r6{x:Str}{l:List Str}(h:fixL.lookup x=some l):x∈fixL.map (·.1):=by
 have:∀{L:List (Str×List Str)},L.lookup x=some l->x∈L.map (·.1):=λ{L}=>by
  induction L with
  | nil=>intro h;cases h
  | cons p L ih=>
   intro h
   rw [lookup_cons] at h
   split at h
   ·rename_i e;rw [map_cons,beq_iff_eq.mp e];exact mem_cons_self ..
   ·rw [map_cons];exact mem_cons_of_mem _ (ih h)
 exact this h
theorem yY:∀x∈fixL.map (·.1),∀c∈x.cps.toList,97<=c/\c<=122:=by decide +kernel
theorem jX{x:Str}{r ks:List Str}(h:bi (x::r)=some ks):∃l,fixL.lookup x=some l/\l.length+(bD x).2.1<=r.length/\r.length<=l.length+(bD x).2.2:=by
 cases e:fixL.lookup x with
 | none=>rw [gU e] at h;cases h
 | some l=>
  rw [fJ e] at h
  split at h
  ·rename_i q;exact⟨l,rfl,q.1,q.2⟩
  ·cases h
theorem yZ{row w:Str}{ds:List PyData}{c:Nat}(h:aZ row=some (w,ds))(hc:c∈sg8\/c=32):aZ (row++⟨#[c]⟩)=none:=by
 obtain⟨r,ks,e,hk,ha⟩:=iR h
 have fr:∀y∈w::r,32∉y.cps.toList:=λy hy=>iF (by rw [e];exact hy)
 rw [eH row,e]
 rcases hc with hc | rfl
 ·have n32:c≠32:=λz=>by rw [z] at hc;revert hc;decide
  have fr1:∀{x:Str},32∉x.cps.toList->32∉(x++(⟨#[c]⟩:Str)).cps.toList:=λhx m=>by
   rw [hU] at m
   rcases List.mem_append.mp m with m | m
   ·exact hx m
   ·exact n32 (List.mem_singleton.mp m).symm
  rcases List.eq_nil_or_concat r with rfl | ⟨r',l,rfl⟩
  ·rw [show aR [w]++(⟨#[c]⟩:Str)=aR [w++⟨#[c]⟩] from rfl]
   refine dI (λy hy=>by rw [List.mem_singleton.mp hy];exact fr1 (fr w (mem_cons_self ..))) λks' hk'=>?_
   obtain⟨l,hl,_⟩:=jX hk'
   have:=yY _ (r6 hl) c (by rw [hU];simp)
   simp only [sg8,mem_cons,not_mem_nil,or_false] at hc
   lia
  ·rw [List.concat_eq_append] at hk ha fr⊢
   have e1:aR (w::(r'++[l]))++(⟨#[c]⟩:Str)=aR (w::(r'++[l++⟨#[c]⟩])):=vK (w::r') l ⟨#[c]⟩
   rw [e1]
   refine dI (λy hy=>?_) λks' hk'=>?_
   ·rcases List.mem_cons.mp hy with rfl | hy
    ·exact fr _ (mem_cons_self ..)
    ·rcases List.mem_append.mp hy with hy | hy
     ·exact fr y (mem_cons_of_mem _ (mem_append_left _ hy))
     ·rw [List.mem_singleton.mp hy];exact fr1 (fr l (by simp))
   ·rw [tY (r':=r'++[l]) (by simp),hk] at hk'
    cases hk'
    refine qG (by rw [kx hk];simp) λk kk=>?_
    have am:=qB ha
    have e2:(zipWith aF ks (r'++[l]))[r'.length]? =some (aF k l):=by
     rw [getElem?_zipWith,kk,getElem?_append_right (le_refl _),sub_self];rfl
    cases hp:aF k l with
    | some d=>exact vJ hp hc
    | none=>
     rw [hp] at e2
     have:dy (zipWith aF ks (r'++[l]))=none:=ku (mem_of_getElem? e2)
     rw [ha] at this;cases this
 ·have e1:aR (w::r)++(⟨#[32]⟩:Str)=aR ((w::r)++[Str.ofString ""]):=by
   have:=jW (a:=w::r) (b:=[Str.ofString ""]) (by simp) (by simp)
   rw [qF,show Str.ofString " " =(⟨#[32]⟩:Str) by decide +kernel] at this
   rw [<-this]
   exact dc (by rw [aG,aG,aG,dX];simp)
  rw [e1]
  refine dI (x:=w) (r:=r++[Str.ofString ""]) (λy hy=>?_) λks' hk'=>qG (by rw [kx hk']) λk _=>xi k
  rcases List.mem_cons.mp hy with rfl | hy
  ·exact fr _ (mem_cons_self ..)
  ·rcases List.mem_append.mp hy with hy | hy
   ·exact fr y (mem_cons_of_mem _ hy)
   ·rw [List.mem_singleton.mp hy,dX];simp
theorem xj(row:Str):aZ (Str.ofString " "++row)=none:=by
 have e1:Str.ofString " "++row=aR (Str.ofString ""::PySem.Txt.split row ⟨#[32]⟩):=by
  have:=jW (a:=[Str.ofString ""]) (b:=PySem.Txt.split row ⟨#[32]⟩) (by simp) (jQ row 32)
  rw [qF,<-eH] at this
  rw [show Str.ofString ""::PySem.Txt.split row ⟨#[32]⟩= [Str.ofString ""]++PySem.Txt.split row ⟨#[32]⟩ from rfl,<-this]
  exact dc (by rw [aG,aG,aG,dX];simp)
 rw [e1]
 refine dI (λy hy=>?_) λks' hk'=>?_
 ·rcases List.mem_cons.mp hy with rfl | hy
  ·rw [dX];simp
  ·exact iF hy
 ·rw [gU (by decide +kernel)] at hk';cases hk'
def tl3:List Str:=["start","hand","row"]
theorem r8{w:Str}(h:w∉tl3):bD w=(Str.ofString "",0,0):=by
 simp only [tl3,mem_cons,not_mem_nil,or_false,not_or] at h
 unfold bD tailL
 rw [lookup_cons,show(w==Str.ofString "row")=false from by simpa using h.2.2,lookup_cons,show(w==Str.ofString "hand")=false from by simpa using h.2.1,lookup_cons,show(w==Str.ofString "start")=false from by simpa using h.1]
 rfl
theorem je{w:Str}{r r' ks:List Str}(h:bi (w::r)=some ks)(nt:w∉tl3)(hl:r'.length≠r.length):bi (w::r')=none:=by
 obtain⟨l,hl1,a,b⟩:=jX h
 rw [r8 nt] at a b
 rw [fJ hl1,r8 nt]
 simp only [add_zero] at a b⊢
 exact if_neg λz=>by lia
theorem y0{row w:Str}{ds:List PyData}(h:aZ row=some (w,ds))(nt:w∉tl3){m:Nat}(h1:1<=m)(h2:m<(PySem.Txt.split row ⟨#[32]⟩).length):aZ (aR ((PySem.Txt.split row ⟨#[32]⟩).take m))=none:=by
 obtain⟨r,ks,e,hk,_⟩:=iR h
 rw [e] at h2⊢
 obtain⟨n,rfl⟩:∃n,m=n+1:=⟨m-1,by lia⟩
 rw [take_succ_cons]
 rw [length_cons] at h2
 refine dI (λy hy=>iF (by rw [e];exact mem_of_mem_take (i:=n+1) (by rw [take_succ_cons];exact hy))) λks' hk'=>?_
 rw [je hk nt (by rw [length_take];lia)] at hk'
 cases hk'
theorem y8:∀x∈fixL.map (·.1),∀n:Nat,n<8->n<x.length->fixL.lookup ⟨(x.cps.toList.take n).toArray⟩=none:=by decide +kernel
theorem y9:∀x∈fixL.map (·.1),x.length<=8:=by decide +kernel
theorem qH{a b w:Str}{ds:List PyData}(h:aZ (a++b)=some (w,ds))(nt:w∉tl3):aZ (a++Str.ofString " "++b)=none:=by
 obtain⟨r,ks,e,hk,_⟩:=iR h
 rcases List.eq_nil_or_concat (PySem.Txt.split a ⟨#[32]⟩) with z | ⟨A,la,eA⟩
 ·exact absurd z (jQ a 32)
 rw [List.concat_eq_append] at eA
 obtain⟨fb,B,eB⟩:=List.exists_cons_of_ne_nil (jQ b 32)
 have fa:∀y∈A++[la],32∉y.cps.toList:=λy hy=>iF (by rw [eA];exact hy)
 have fb':∀y∈fb::B,32∉y.cps.toList:=λy hy=>iF (by rw [eB];exact hy)
 have ej:a++Str.ofString " "++b=aR ((A++[la])++(fb::B)):=by
  rw [<-jW (by simp) (by simp),<-eA,<-eB,<-eH,<-eH]
 have ew:w::r=A++(la++fb)::B:=by
  rw [<-e]
  have e1:a++b=aR (A++(la++fb)::B):=by
   have ea:=eH a
   have eb:=eH b
   rw [eA] at ea
   rw [eB] at eb
   rw [ea,eb]
   refine dc ?_
   unfold aR
   rw [aG,bJ,bJ,bJ,map_append,map_append,map_singleton,map_cons,map_cons,aG]
   cases B with
   | nil=>exact kN 32 _ _ _
   | cons b1 B=>
    show jn 32 _++(fb.cps.toList++32::jn 32 _)=_
    have e5:=qE 32 (a:=(A.map λt=>t.cps.toList)++[la.cps.toList++fb.cps.toList]) (b:=(b1::B).map λt=>t.cps.toList) (by simp) (by simp)
    rw [<-append_assoc,kN,show(A.map λt=>t.cps.toList)++(la.cps.toList++fb.cps.toList)::(b1::B).map (λt=>t.cps.toList)=((A.map λt=>t.cps.toList)++[la.cps.toList++fb.cps.toList])++(b1::B).map (λt=>t.cps.toList) by simp,e5]
    rfl
  rw [e1]
  unfold aR
  rw [jP 32 (by simp)]
  intro y hy
  rcases List.mem_append.mp hy with hy | hy
  ·exact fa y (mem_append_left _ hy)
  ·rcases List.mem_cons.mp hy with rfl | hy
   ·rw [aG]
    intro m
    rcases List.mem_append.mp m with m | m
    ·exact fa la (by simp) m
    ·exact fb' fb (by simp) m
   ·exact fb' y (by simp [hy])
 rw [ej]
 have frs:∀y∈(A++[la])++(fb::B),32∉y.cps.toList:=λy hy=>(List.mem_append.mp hy).elim (fa y) (fb' y)
 cases A with
 | cons a0 A=>
  have ew:w::r=a0::(A++(la++fb)::B):=ew
  injection ew with e1 e2
  subst e1 e2
  refine dI (x:=w) (r:=(A++[la])++(fb::B)) frs λks' hk'=>?_
  rw [je hk nt (by simp only [length_append,length_cons,length_nil];lia)] at hk'
  cases hk'
 | nil=>
  have ew:w::r=(la++fb)::B:=ew
  injection ew with e1 e2
  subst e1 e2
  refine dI (x:=la) (r:=fb::r) frs λks' hk'=>?_
  by_cases ef:fb.length=0
  ·have:la++fb=la:=dc (by rw [aG,List.eq_nil_of_length_eq_zero (l:=fb.cps.toList) (by rw [bW];exact ef),append_nil])
   rw [this] at hk nt
   rw [je hk nt (by simp)] at hk'
   cases hk'
  ·obtain⟨l,hl,_⟩:=jX hk
   have m:=r6 hl
   have l8:=y9 _ m
   rw [bC] at l8
   have:=y8 _ m la.length (by lia) (by rw [bC];lia)
   have e3:(⟨((la++fb).cps.toList.take la.length).toArray⟩:Str)=la:=by
    refine dc ?_
    show((la++fb).cps.toList.take la.length)=_
    rw [aG,<-bW,List.take_left]
   rw [e3] at this
   rw [gU this] at hk'
   cases hk'
theorem qW{t x:Str}{ds:List PyData}(h:aZ t=some (x,ds)):x.length<=t.length:=by
 unfold aZ at h
 split at h
 ·cases h
 ·rename_i y r e
  split at h
  ·cases h
  ·obtain⟨d,_,e2⟩:=Option.map_eq_some_iff.mp h
   cases e2
   exact(oa (by rw [e];exact mem_cons_self)).1
theorem Reach.take{rows:List Str}{st:PS}(h:Reach rows st)(n:Nat):∃st',Reach (rows.take n) st':=by
 induction h generalizing n with
 | nil=>exact⟨_,by rw [take_nil];exact .nil⟩
 | @snoc rows row st st' h e ih=>
  rcases Nat.lt_or_ge rows.length n with l | l
  ·exact⟨st',by rw [take_of_length_le (by rw [length_append,length_singleton];lia)];exact h.snoc e⟩
  ·rw [List.take_append_of_le_length l]
   exact ih n
section
variable{P:Program}{w:World}{K:PySem.W.Frag}{mg:Str->Option Value}{base:Heap}
def vL(C:Nat->Addr):Sp:=λvs H Q E=>∃(t:Str) (pre rest:List Str) (y:Str) (st:PS),vs= [.str t]/\t.length<=1000000/\PySem.Txt.split t ⟨#[10]⟩=pre++y::rest/\(pre++y::rest).length<=120/\y.length<=9000/\Reach pre st/\aZ y=none/\∀H',Same H H'->E (.ref (C 0)) none H'
def RdP(K:PySem.W.Frag)(t:Str)(c:Cl)(rv:List V)(H0:Hp)(n:Nat)(f:Nat->PS)(i:Nat)(σ:St)(H':Hp):Prop:=∃v4 v5 v6 Hb hv fs,σ= [some (.str t),some (.ref c.ws),some (.ref c.pr),some (.ref c.bd),v4,v5,v6]/\i<=n/\RZ K H0 c rv i H' (f i) Hb hv fs
theorem za{C:Nat->Addr}{t1:Tok}(D:DefAt K mg "read" pV ["text"])(hlen:mg "len" =none)(henumerate:mg "enumerate" =none)(hMR:mg "MOST_ROWS" =some (.int 120 t1))(O_TooLong:cB K mg "TooLong" (C 2))(O_Open:cB K mg "Open" (C 6))
 (G_parts_of:OkR P w K mg base 24 "parts_of" ["row"] (BA K (C 0))) (G_check_place:OkR P w K mg base 1 "check_place" ["k","word","program","bodies"] (BB (C 1))) (G_check_depth:OkR P w K mg base 1 "check_depth" ["k","word","bodies"] (BC (C 3))) (G_check_measure:OkR P w K mg base 1 "check_measure" ["k","parts"] (BD (C 4))) (G_check_twice:OkR P w K mg base 1 "check_twice" ["k","parts","program"] (BE (C 5))) (G_lay_down:OkD P w K mg base 2 "lay_down" ["k","parts","program","bodies"] (Ct K)):OkR P w K mg base 25 "read" ["text"] (vL C):=by
 refine D.okR sc_read (λvs H Q E h=>?_) (λfu cdv A outer s H vs Q E hr h=>?_)
 ·obtain⟨_,_,_,_,_,rfl,_⟩:=h;rfl
 obtain⟨t,pre,rest,y,st,rfl,tl,es,lr,ly,rch,hn,q⟩:=h
 generalize er:pre++y::rest=rows at es lr
 obtain⟨f,f0,fn,fi⟩:=rch.get
 have fi:=PLift.up fi
 have f0:=PLift.up f0
 clear fn
 clear rch
 have big:3000000<=sizeLine:=by unfold sizeLine;decide
 have sl:=kt t 10
 refine⟨_,(af (ai (i:=1) sc_read.nd rfl (Or.inl rfl) (lP PySem.F.plainAttrs_str PySem.F.slot_str_split PySem.F.type_str_split lu (pv 0) (aa ac ad)))
 (af (aB (aj jF (aN aQ rfl hlen PySem.boot_len (aa (pv 1) ad)) (aU (v:=.int 120) rfl hMR ⟨_,rfl⟩) (ap _))
 (ah (bS bx rfl O_TooLong rfl (aa ac ad)))
 ay)
 (af (ai (i:=2) sc_read.nd rfl (Or.inl rfl) (az (aa (ak ad) (aa (ak ad) (aa (ak ad) (aa (ak ad) ad))))))
 (af (ai (i:=3) sc_read.nd rfl (Or.inl rfl) (ak ad))
 (af (hZ k9 rfl (ww rfl henumerate (aa (pv 1) ad) ae) (dO 2 rfl (aD (aw (i:=4) sc_read.nd rfl (Or.inl rfl)) (aD (aw (i:=5) sc_read.nd rfl (Or.inl rfl)) bO)))
 (af (ai (i:=6) sc_read.nd rfl (Or.inl rfl) (br G_parts_of cA hr rfl (aa (pv 5) ad)))
 (af (aS (br G_check_place cA hr rfl (aa (pv 4) (aa (ao av (pv 6) ae (λ_ _=>rfl)) (aa (pv 2) (aa (pv 3) ad))))))
 (af (aS (br G_check_depth cA hr rfl (aa (pv 4) (aa (ao av (pv 6) ae (λ_ _=>rfl)) (aa (pv 3) ad)))))
 (af (aS (br G_check_measure cA hr rfl (aa (pv 4) (aa (pv 6) ad))))
 (af (aS (br G_check_twice cA hr rfl (aa (pv 4) (aa (pv 6) (aa (pv 2) ad)))))
 (ah (aS (br G_lay_down.toR cA hr rfl (aa (pv 4) (aa (pv 6) (aa (pv 2) (aa (pv 3) ad)))))))))))))
 (af (aB (oS (pv 3) (λ_=>rfl))
 (ah (bS bx rfl O_Open rfl (aa ac ad)))
 ay)
 (ah (ax (pv 2))))))))),?_⟩
 walk_at "rz"
 rw [show Str.ofString "\n" =⟨#[10]⟩ by decide +kernel]
 refine⟨_,_,rfl,rfl,by decide,by lia,by lia,λws H1 hws g1 h1=>?_⟩
 rw [es] at h1 sl
 clear es
 have h1w:=PLift.up h1
 walk_at "rz"
 have lm:(rows.map V.str).length=rows.length:=length_map ..
 refine aY (λc1=>absurd c1 (by rw [lm];lia)) λc1=>?_
 clear c1
 walk_at "rz"
 intro a1 A1 ha1 f1 k1
 have k1':=PLift.up k1
 clear h1 k1
 walk_at "rz"
 intro a2 A2 ha2 f2 k2
 have k2':=PLift.up k2
 clear k2
 walk_at "rz"
 intro a3 A3 ha3 f3 k3
 have k3':=PLift.up k3
 clear k3
 walk_at "rz"
 intro a4 A4 ha4 f4 k4
 have k4':=PLift.up k4
 clear k4
 walk_at "rz"
 intro pr A5 ha5 f5 k5
 have k5':=PLift.up k5
 clear k5
 walk_at "rz"
 intro bd A6 ha6 f6 k6
 have k6':=PLift.up k6
 clear k6
 walk_at "rz"
 refine jm ?_
 simp only [uR]
 walk_at "rz"
 have f16:=f1.trans (f2.trans (f3.trans (f4.trans (f5.trans f6))))
 have i0:RZ K H ⟨ws,pr,a1,a2,a3,a4,bd⟩ (rows.map V.str) 0 A6 (f 0) (K07.D.frz ws a4 bd [] A6) [] []:=by
  rw [f0.down]
  have m:∀{x y:Addr} {A B:Hp} {o:HO},A x=some o->Same A B->B y=none->x≠y:=λh g hn z=>by rw [<-z,g _ _ h] at hn;cases hn
  have f15:=f2.trans (f3.trans (f4.trans (f5.trans f6)))
  have f35:=f3.trans (f4.trans (f5.trans f6))
  have f45:=f4.trans (f5.trans f6)
  have f55:=f5.trans f6
  have n1:H a1=none:=g1.free ha1
  have n2:H a2=none:=g1.free (f1.free ha2)
  have n3:H a3=none:=g1.free (f1.free (f2.free ha3))
  have n4:H a4=none:=g1.free (f1.free (f2.free (f3.free ha4)))
  have n6:H bd=none:=g1.free (f1.free (f2.free (f3.free (f4.free (f5.free ha6)))))
  have w1:=m h1w.down (Same.refl _) ha1
  have w2:=m h1w.down f1 ha2
  have w3:=m h1w.down (f1.trans f2) ha3
  have w4:=m h1w.down (f1.trans (f2.trans f3)) ha4
  have w5:=m h1w.down (f1.trans (f2.trans (f3.trans f4))) ha5
  have w6:=m h1w.down (f1.trans (f2.trans (f3.trans (f4.trans f5)))) ha6
  have q12:=m k1'.down (Same.refl _) ha2
  have q13:=m k1'.down f2 ha3
  have q14:=m k1'.down (f2.trans f3) ha4
  have q16:=m k1'.down (f2.trans (f3.trans (f4.trans f5))) ha6
  have q23:=m k2'.down (Same.refl _) ha3
  have q24:=m k2'.down f3 ha4
  have q26:=m k2'.down (f3.trans (f4.trans f5)) ha6
  have q34:=m k3'.down (Same.refl _) ha4
  have q36:=m k3'.down (f4.trans f5) ha6
  have q45:=m k4'.down (Same.refl _) ha5
  have q46:=m k4'.down f5 ha6
  have q56:=m k5'.down (Same.refl _) ha6
  have no:∀a u,a≠ws->a≠a4->a≠bd->A6 a=some u->K07.D.frz ws a4 bd [] A6 a=some u:=λa u n1 n2 n3 e=>aL (λm=>by
   simp only [keys,mem_cons,not_mem_nil,or_false] at m
   rcases m with m | m | m
   ·exact n1 m
   ·exact n2 m
   ·exact n3 m) e
  refine⟨⟨?_,f16 _ _ h1w.down,f55 _ _ k4'.down,k6'.down,trivial,Same.refl _,trivial,.nil,(λh hm=>by cases hm),by simp [gj,ps0],by simp,[],[],⟨rfl,rfl⟩,rfl,λa=>by simp,λa ha=>by cases ha⟩,rfl,⟨λa u e=>no a u (λz=>by rw [z,hws] at e;cases e) (λz=>by rw [z,n4] at e;cases e) (λz=>by rw [z,n6] at e;cases e) (f16 _ _ (g1 _ _ e)),no _ _ w5.symm q45.symm q56 (f6 _ _ k5'.down),⟨q12,q13,q23⟩,?_,[],[],[],[],no _ _ w1.symm q14 q16 (f15 _ _ k1'.down),no _ _ w2.symm q24 q26 (f35 _ _ k2'.down),no _ _ w3.symm q34 q36 (f45 _ _ k3'.down),.nil,.nil,.nil,rfl,λa=>by simp,λa ha=>by cases ha⟩,by simp [ps0]⟩
  ·show [ws,a4,bd].Nodup
   simp [w4,w6,q46]
  ·intro a ha
   simp only [Cl.g,mem_cons,not_mem_nil,or_false] at ha
   rcases ha with rfl | rfl | rfl | rfl
   ·exact n4
   ·exact n1
   ·exact n2
   ·exact n3
 clear f16 k1' k2' k3' k4' k5' k6' f1 f2 f3 f4 f5 f6 ha1 ha2 ha3 ha4 ha5 ha6
 generalize hc:(⟨ws,pr,a1,a2,a3,a4,bd⟩:Cl)=c at i0
 have ep:pr=c.pr:=by rw [<-hc]
 have eb:bd=c.bd:=by rw [<-hc]
 have ew:ws=c.ws:=by rw [<-hc]
 have ea:a4=c.hl:=by rw [<-hc]
 clear hc
 subst ep eb ew ea
 refine⟨⟨_,SqL.of i0.z.rwa⟩,uS (rows.map V.str) (RdP K t c (rows.map V.str) H pre.length f) ⟨none,none,none,_,_,_,rfl,zero_le _,i0⟩ (λi σ H2 _ z=>?_) (λi x σ H2 p H3 hx z hp g3 h3=>?_) λσ H2 z=>?_⟩
 ·obtain⟨_,_,_,_,_,_,_,_,i2⟩:=z
  exact SqL.of i2.z.rwa
 ·obtain⟨v4,v5,v6,Hb,hv,fs,rfl,li,i2⟩:=z
  rw [getElem?_map] at hx
  obtain⟨row,hrow,rfl⟩:=Option.map_eq_some_iff.mp hx
  rw [<-er] at hrow
  rcases (Nat.lt_or_ge i pre.length).symm with ge | lt
  ·have ei:i=pre.length:=by lia
   subst ei
   rw [getElem?_append_right (le_refl _),sub_self] at hrow
   cases hrow
   have sm:=i2.g.same.trans ((i2.z.base.trans cI).trans g3)
   walk_at "rz"
   exact⟨_,rfl,ly,λx ds ep=>(by rw [hn] at ep;cases ep),λ_ H4 g4=>q _ (sm.trans g4)⟩
  rw [List.getElem?_append_left lt] at hrow
  have re:=fi.down i row hrow
  have hi:i<rows.length:=by rw [<-er,length_append];lia
  have lrow:=re.ok.1
  obtain⟨x0,ds0,rw0⟩:=re.parts
  walk_at "rz"
  have i3:=i2.up g3 (le_refl _)
  refine⟨row,rfl,by lia,λx ds ep p4 H4 ys hp4 g4 h4 rp=>?_,λen H4 g4=>by rw [rw0.p] at en;cases en⟩
  have lx:x.length<=9000:=le_trans (qW ep) (by lia)
  have i4:=i3.up g4 (le_refl _)
  have rpP:=PLift.up (rp.mono rC)
  have epP:=PLift.up ep
  have reP:=PLift.up re
  clear rp ep hp4 h3 re rw0
  walk_at "rz"
  have lv:=i4.z.lv
  have l4:=i4.l
  have hfl:(f i).fs.length=fs.length:=by rw [i4.f,length_map]
  have hll:=i4.z.hdc.len
  rw [length_map] at hll
  obtain⟨nh,nsH,lnh,nhe⟩:∃nh,Ns H4 (hv++fM fs []) nh/\nh.length<=200/\(fs= []->nh=(f i).hd.map (·.1)):=by
   have n1:Ns H4 hv ((f i).hd.map (·.1)):=(xg i4.z.hdc).up cI
   cases fs with
   | nil=>exact⟨_,by rw [show fM [] []= [] from rfl,append_nil];exact n1,by rw [length_map];lia,λ_=>rfl⟩
   | cons f1 r1=>
    obtain⟨y,n2⟩:=vF (hv:=[]) i4.z.fm (by simp)
    exact⟨_,n1.app (n2.up cI),by rw [length_append,length_map,length_singleton];lia,λe=>by cases e⟩
  have ck:=chk (hE:=(hv++fM fs []).isEmpty) (bE:=((fs.map λf=>V.ref f.o).reverse).isEmpty) (kd:=((f i).fs.head?.map λp=>wP p.h).getD "") (n:=fs.length) (nh:=nh) reP.down epP.down rpP.down (λe1 e2=>by
   have e3:fs= []:=List.eq_nil_of_length_eq_zero (by rw [<-hfl,e2];rfl)
   have e4:hv= []:=List.eq_nil_of_length_eq_zero (by rw [hll,e1];rfl)
   rw [e3,e4];rfl) (by rw [i4.f];cases fs<;>simp) (by rw [hfl]) (λf1 r1 e=>by rw [e];rfl) (λe=>nhe (List.eq_nil_of_length_eq_zero (by rw [<-hfl,e];rfl))) lv
  have ckP:=PLift.up ck
  have prh:=(i4.frz i4.g.pr).1
  refine⟨i+1,x,c.pr,c.bd,c.tl,c.sl,c.rl,c.hl,_,_,_,rfl,by lia,by lia,prh,i4.z.hsa,by have:=nsH.length;lia,i4.z.opa,by rw [length_reverse,length_map];lia,λne=>?_,λpt H5 g5=>?_,λpf H5 g5=>by rw [ck.place] at pf;cases pf⟩
  ·cases fs with
   | nil=>exact absurd rfl ne
   | cons f1 r1=>
    refine⟨f1.o,[.ref f1.c,esV f1.h.es],by rw [map_cons,reverse_cons];exact eX _ _,?_⟩
    have:=cI _ _ i4.z.fm.1.o
    rw [this,i4.f]
    show some (obR f1.h f1.c)=some (.tup [.str (wP f1.h.ph),.ref f1.c,esV f1.h.es])
    rw [DL]
    rfl
  have i5:=i4.up g5 (le_refl _)
  have h5:=g5 _ _ h4
  have nsH5:=nsH.up g5
  clear pt h4 ck prh nsH
  walk_at "rz"
  refine⟨i+1,x,c.bd,_,rfl,by lia,i5.z.opa,by rw [length_reverse,length_map];lia,λpt H6 g6=>?_,λpf H6 g6=>by rw [length_reverse,length_map,ckP.down.deep] at pf;cases pf⟩
  have i6:=i5.up g6 (le_refl _)
  have h6:=g6 _ _ h5
  clear pt h5
  walk_at "rz"
  refine⟨i+1,x,p4,ys,_,rfl,by lia,h6,ckP.down.meas,λpt H7 g7=>?_,λpf H7 g7=>by cases pf⟩
  have i7:=i6.up g7 (le_refl _)
  have h7:=g7 _ _ h6
  clear h6 pt
  walk_at "rz"
  obtain⟨ta,sa,ra,Cn,t1',t2',t3',r1',r2',r3',_⟩:=i7.g.ex
  have gB:Same (out c.g Hb) H7:=λa u e=>(i7.frz (cI _ _ e)).1
  refine⟨i+1,x,p4,c.pr,c.tl,c.sl,c.rl,c.hl,ys,ta,sa,ra,_,_,_,_,_,_,rfl,by lia,h7,(i7.frz i7.g.pr).1,⟨(i7.frz t1').1,(nj r1').up gB,by rw [length_map];lia⟩,⟨(i7.frz t2').1,(nj r2').up gB,by rw [length_map];lia⟩,⟨(i7.frz t3').1,(nj r3').up gB,by rw [length_map];lia⟩,⟨i7.z.hsa,nsH5.up (g6.trans g7),by lia⟩,ckP.down.twice,λpt2 H8 g8=>?_,λpf H8 g8=>by cases pf⟩
  have i8:=i7.up g8 (le_refl _)
  have h8:=g8 _ _ h7
  clear h7 t1' t2' t3' r1' r2' r3' pt2
  walk_at "rz"
  refine⟨i+1,i,p4,row,x,ys,_,H,c,_,_,_,_,_,_,rfl,h8,epP.down,rpP.down.mono (g5.trans (g6.trans (g7.trans g8))),i8,by lia,reP.down,λH9 Hb' hv' fs' i9=>?_⟩
  exact⟨_,_,_,_,_,_,rfl,by lia,i9⟩
 ·obtain⟨v4,v5,v6,Hb,hv,fs,rfl,li,i2⟩:=z
  rw [lm,<-er,length_append,length_cons] at li
  lia
end
theorem Cv(l:List Str):Txt.join (Str.ofString "\n") l=Str.join ⟨#[10]⟩ l:=by
 show Builtin.Str.glued (Str.ofString "\n") l=_
 rw [StrLaws.glued_eq_join,show Str.ofString "\n" =⟨#[10]⟩ by decide +kernel]
def jf(t:Str):Prop:=t.length<=3000/\10∉t.cps.toList
theorem zc{l:List Str}(h:∀x∈l,jf x):(l.map (·.length)).sum<=3000*l.length:=by
 induction l with
 | nil=>exact le_refl _
 | cons x l ih=>
  have a:=(h x (mem_cons_self ..)).1
  have b:=ih λy hy=>h y (mem_cons_of_mem _ hy)
  rw [map_cons,sum_cons,length_cons];lia
def mC:Option Nat->List Bool
 | none=>[]
 | some c=>(List.range 12).map λk=>decide (k=c)
structure Kcs(K:PySem.W.Frag)(C:Nat->Addr)(B:Addr):Prop where
 pl:∀i,i<=6->j8 K (C i)
 ex:∀i,i<=6->PySem.W.exmOne K (.ref (C i)) (.ref B)=some true
 ve:∀i,i<=6->kitOne K (.ref (C i)) (.type "ValueError")=some true
 is:∀i,i<=6->∀j,j<=10->kitOne K (.ref (C i)) (.ref (C j))=some (decide (j=i))
structure Nmd(mg:Str->Option Value)(x:Str)(D:Addr):Prop where
 gl:mg x=some (.ref D)
section
variable{P:Program}{w:World}{K:PySem.W.Frag}{mg:Str->Option Value}{base:Heap}
def vM(K:PySem.W.Frag):Sp:=λvs H Q _=>∃(a:Addr) (ns:List Int) (k:Nat),vs= [.ref a,.int (k:Nat)]/\SqL K H a (ns.map V.int)/\∀c:Int,Q (.int c) H
theorem ze(D:DefAt K mg "_law_cell_at" fS ["script","k"])(hlen:mg "len" =none):OkD P w K mg base 1 "_law_cell_at" ["script","k"] (vM K):=by
 refine D.ok mo (λvs H Q E h=>?_) (λf cdv A outer s H vs Q E hr h=>?_)
 ·obtain⟨_,_,_,rfl,_⟩:=h;rfl
 obtain⟨a,ns,k,rfl,hS,q⟩:=h
 refine⟨_,(af (aB (aj gR (pv 1) (aN ig rfl hlen PySem.boot_len (aa (pv 0) ad)) (ap _))
 (ah (ax (ao rn (pv 0) (pv 1) (λ_ _=>rfl))))
 ay)
 (ah (ax ae))),?_⟩
 walk_at "rz"
 refine⟨_,.inl hS,?_⟩
 walk_at "rz"
 refine aY (λc=>?_) λc=>?_
 ·rw [length_map] at c
  have hk:k<ns.length:=by lia
  walk_at "rz"
  exact⟨_,hS,.int ns[k],bU (j:=k) (by rw [getElem?_map,getElem?_eq_getElem hk];rfl),q _⟩
 ·walk_at "rz"
def xR:Sp:=λvs H Q _=>∃(l:Addr) (pre rest:List Str) (y:Str) (st:PS),vs= [.ref l]/\H l=some (.lst ((pre++y::rest).map V.str))/\(pre++y::rest).length<=120/\(∀x∈pre++y::rest,jf x)/\Reach pre st/\aZ y=none/\∀p H',H p=none->Same H H'->H' p=some (.lst ((mC (some 0)).map V.bl))->Q (.ref p) H'
theorem tZ{C:Nat->Addr}{B:Addr}(D:DefAt K mg "_law_refused" fV ["rows"])(hisinstance:mg "isinstance" =none)(hValueError:mg "ValueError" =none)(kc:Kcs K C B)(O_RunError:Nmd mg "RunError" B)
 (O_NoRow:Nmd mg "NoRow" (C 0)) (O_NoPlace:Nmd mg "NoPlace" (C 1)) (O_TooLong:Nmd mg "TooLong" (C 2)) (O_TooDeep:Nmd mg "TooDeep" (C 3)) (O_NoMeasure:Nmd mg "NoMeasure" (C 4)) (O_Twice:Nmd mg "Twice" (C 5)) (O_Open:Nmd mg "Open" (C 6)) (O_NoLog:Nmd mg "NoLog" (C 7)) (O_NoForm:Nmd mg "NoForm" (C 8)) (O_NoneYet:Nmd mg "NoneYet" (C 9)) (O_NoThing:Nmd mg "NoThing" (C 10))
 (G_read:OkR P w K mg base 25 "read" ["text"] (vL C)):OkD P w K mg base 26 "_law_refused" ["rows"] xR:=by
 refine D.ok sc__law_refused (λvs H Q E h=>?_) (λf cdv A outer s H vs Q E hr h=>?_)
 ·obtain⟨_,_,_,_,_,rfl,_⟩:=h;rfl
 obtain⟨l,pre,rest,y,st,rfl,hl,lr,hx,rch,hn,q⟩:=h
 have ne:pre++y::rest≠[]:=by simp
 have ly:=(hx y (by simp)).1
 have rchP:=PLift.up rch
 have hnP:=PLift.up hn
 clear rch hn
 generalize er:pre++y::rest=rows at *
 have big:2000000<=sizeLine:=by unfold sizeLine;decide
 refine⟨_,(af (ai (i:=1) sc__law_refused.nd rfl (Or.inl rfl) (ak ad))
 (af (yq (i:=2) rfl rfl rfl (yp G_read hr rfl (aa (gY ac (pv 0)) ad)) rfl O_RunError.gl sc__law_refused.nd rfl rfl (λ_=>
 (af (ai (i:=1) sc__law_refused.nd rfl (Or.inl rfl) (ak (aa (aN (id:="isinstance") (r:=eL K) bB rfl hisinstance (by decide +kernel) (aa (pv 2) (aa (aU (v:=.ref (C 0)) rfl O_NoRow.gl rfl) ad))) (aa (aN (id:="isinstance") (r:=eL K) bB rfl hisinstance (by decide +kernel) (aa (pv 2) (aa (aU (v:=.ref (C 1)) rfl O_NoPlace.gl rfl) ad))) (aa (aN (id:="isinstance") (r:=eL K) bB rfl hisinstance (by decide +kernel) (aa (pv 2) (aa (aU (v:=.ref (C 2)) rfl O_TooLong.gl rfl) ad))) (aa (aN (id:="isinstance") (r:=eL K) bB rfl hisinstance (by decide +kernel) (aa (pv 2) (aa (aU (v:=.ref (C 3)) rfl O_TooDeep.gl rfl) ad))) ad))))))
 (af (ai (i:=1) sc__law_refused.nd rfl (Or.inl rfl) (ag aV (pv 1) (ak (aa (aN (id:="isinstance") (r:=eL K) bB rfl hisinstance (by decide +kernel) (aa (pv 2) (aa (aU (v:=.ref (C 4)) rfl O_NoMeasure.gl rfl) ad))) (aa (aN (id:="isinstance") (r:=eL K) bB rfl hisinstance (by decide +kernel) (aa (pv 2) (aa (aU (v:=.ref (C 5)) rfl O_Twice.gl rfl) ad))) (aa (aN (id:="isinstance") (r:=eL K) bB rfl hisinstance (by decide +kernel) (aa (pv 2) (aa (aU (v:=.ref (C 6)) rfl O_Open.gl rfl) ad))) (aa (aN (id:="isinstance") (r:=eL K) bB rfl hisinstance (by decide +kernel) (aa (pv 2) (aa (aU (v:=.ref (C 7)) rfl O_NoLog.gl rfl) ad))) ad)))))))
 (af (ai (i:=1) sc__law_refused.nd rfl (Or.inl rfl) (ag aV (pv 1) (ak (aa (aN (id:="isinstance") (r:=eL K) bB rfl hisinstance (by decide +kernel) (aa (pv 2) (aa (aU (v:=.ref (C 8)) rfl O_NoForm.gl rfl) ad))) (aa (aN (id:="isinstance") (r:=eL K) bB rfl hisinstance (by decide +kernel) (aa (pv 2) (aa (aU (v:=.ref (C 9)) rfl O_NoneYet.gl rfl) ad))) (aa (aN (id:="isinstance") (r:=eL K) bB rfl hisinstance (by decide +kernel) (aa (pv 2) (aa (aU (v:=.ref (C 10)) rfl O_NoThing.gl rfl) ad))) ad))))))
 (ah (ai (i:=1) sc__law_refused.nd rfl (Or.inl rfl) (ag aV (pv 1) (ak (aa (uc (aN (id:="isinstance") (r:=pe K) oh rfl hisinstance (by decide +kernel) (aa (pv 2) (aa (x5 (n:="ValueError") (T:="ValueError") rfl hValueError (by decide +kernel)) ad)))) ad))))))))))
 (ah (ax (pv 1))))),?_⟩
 walk_at "ro"
 intro p1 H1 hp1 g1 h1
 have hl1:=g1 _ _ hl
 have rw':=zc hx
 refine⟨rows,hl1,PyProof.Rows.joinOk_of_weight (by lia) (by decide +kernel),?_⟩
 rw [Cv]
 have spl:PySem.Txt.split (Str.join ⟨#[10]⟩ rows) ⟨#[10]⟩=rows:=jP 10 ne λy hy=>(hx y hy).2
 have tl0:(Str.join ⟨#[10]⟩ rows).length<=1000000:=by
  rw [<-bW,bJ]
  have:=tP 10 (n:=3000) (rows.map λt=>t.cps.toList) λx hx'=>by obtain⟨t,ht,rfl⟩:=List.mem_map.mp hx';rw [bW];exact(hx t ht).1
  rw [length_map] at this
  lia
 refine⟨_,pre,rest,y,st,rfl,tl0,by rw [spl,er],by rw [er];exact lr,by lia,rchP.down,hnP.down,λH2 g2=>?_⟩
 ·have cl:0<=6:=by decide
  have pl:=kc.pl 0 cl
  have is:=kc.is 0 cl
  refine⟨C 0,rfl,kc.ex 0 cl,λxe H3 hx3 g3 h3=>⟨_,h3,pl,_,is 0 (by decide),_,h3,pl,_,is 1 (by decide),_,h3,pl,_,is 2 (by decide),_,h3,pl,_,is 3 (by decide),λp4 H4 hp4 g4 h4=>?_⟩⟩
  have k4:=g4 _ _ h3
  refine⟨_,k4,pl,_,is 4 (by decide),_,k4,pl,_,is 5 (by decide),_,k4,pl,_,is 6 (by decide),_,k4,pl,_,is 7 (by decide),λp5 H5 hp5 g5 h5=>?_⟩
  refine⟨_,g5 _ _ h4,_,h5,by simp only [length_cons,length_append,length_nil];lia,λp6 H6 hp6 g6 h6=>?_⟩
  have k6:=g6 _ _ (g5 _ _ k4)
  refine⟨_,k6,pl,_,is 8 (by decide),_,k6,pl,_,is 9 (by decide),_,k6,pl,_,is 10 (by decide),λp7 H7 hp7 g7 h7=>⟨_,g7 _ _ h6,_,h7,by simp only [length_cons,length_append,length_nil];lia,λp8 H8 hp8 g8 h8=>?_⟩⟩
  have k8:=g8 _ _ (g7 _ _ k6)
  refine⟨_,k8,pl,_,kc.ve 0 cl,λp9 H9 hp9 g9 h9=>⟨_,g9 _ _ h8,_,h9,by simp only [length_cons,length_append,length_nil];lia,λp10 H10 hp10 g10 h10=>?_⟩⟩
  have g09:=g1.trans (g2.trans (g3.trans (g4.trans (g5.trans (g6.trans (g7.trans (g8.trans g9)))))))
  refine q _ _ (g09.free hp10) (g09.trans g10) ?_
  rw [h10]
  have e11:decide (11=0)=false:=decide_eq_false (by lia)
  simp only [mC,List.range,List.range.loop,map_cons,map_nil,e11]
  rfl
end
def cU(t:Str):Bool:=(aZ t).isNone&&(decide (t.length<=2000)&& !(t.cps.toList.contains 10))
theorem sf{t:Str}(h:cU t=true):aZ t=none/\jf t:=by
 unfold cU at h
 rw [and_eq_true,and_eq_true] at h
 obtain⟨a,b,c⟩:=h
 have b:t.length<=2000:=by simpa using b
 exact⟨Option.isNone_iff_eq_none.mp a,by lia,by simpa using c⟩
theorem DM{l:List Str}{i:Int}(h0:0<=i)(h1:i<l.length):∃x,atI (l.map V.str) i=some (.str x)/\x∈l:=by
 obtain⟨j,rfl⟩:=eq_ofNat_of_zero_le h0
 have hj:j<l.length:=by lia
 exact⟨l[j],bU (by rw [getElem?_map,getElem?_eq_getElem hj];rfl),getElem_mem hj⟩
theorem cj{l m:List Str}(h:∀x∈l,cU x=true)(h2:∀x∈m,cU x=true):∀x∈l++m,cU x=true:=λx hx=>by
 rcases List.mem_append.mp hx with z | z
 ·exact h x z
 ·exact h2 x z
section
variable{P:Program}{w:World}{K:PySem.W.Frag}{mg:Str->Option Value}{base:Heap}
def t0:Sp:=λvs H Q _=>∃c:Int,vs= [.int c]/\∀t H',cU t=true->Same H H'->Q (.str t) H'
theorem Cw(D:DefAt K mg "_law_bad" jM ["cell"])(G__law_stir:OkD P w K mg base 1 "_law_stir" ["cell","k"] dC)(hlen:mg "len" =none):OkD P w K mg base 2 "_law_bad" ["cell"] t0:=by
 refine D.ok sc__law_bad (λvs H Q E h=>?_) (λf cdv A outer s H vs Q E hr h=>?_)
 ·obtain⟨_,rfl,_⟩:=h;rfl
 obtain⟨cc,rfl,q⟩:=h
 have big:2000000<=sizeLine:=by unfold sizeLine;decide
 have lz:∀l:List Str,(l.map V.str).length=l.length:=λl=>length_map ..
 refine⟨_,(af (ai (i:=1) sc__law_bad.nd rfl (Or.inl rfl) (ak (aa ac (aa ac (aa ac (aa ac (aa ac (aa ac (aa ac (aa ac (aa ac (aa ac (aa ac ad)))))))))))))
 (af (ai (i:=1) sc__law_bad.nd rfl (Or.inl rfl) (ag aV (pv 1) (ak (aa ac (aa ac (aa ac (aa ac (aa ac (aa ac (aa ac (aa ac (aa ac (aa ac ad)))))))))))))
 (af (ai (i:=1) sc__law_bad.nd rfl (Or.inl rfl) (ag aV (pv 1) (ak (aa ac (aa ac (aa ac (aa ac (aa ac (aa ac (aa ac (aa ac (aa ac ad))))))))))))
 (af (ai (i:=1) sc__law_bad.nd rfl (Or.inl rfl) (ag aV (pv 1) (ak (aa ac (aa ac (aa ac (aa ac (aa ac (aa ac (aa ac (aa ac ad)))))))))))
 (af (ai (i:=1) sc__law_bad.nd rfl (Or.inl rfl) (ag aV (pv 1) (ak (aa ac (aa ac (aa ac (aa ac (aa ac (aa ac (aa ac (aa ac ad)))))))))))
 (af (ai (i:=1) sc__law_bad.nd rfl (Or.inl rfl) (ag aV (pv 1) (ak (aa ac (aa ac (aa ac (aa ac (aa ac (aa ac (aa ac (aa ac ad)))))))))))
 (af (ai (i:=1) sc__law_bad.nd rfl (Or.inl rfl) (ag aV (pv 1) (ak (aa ac (aa ac (aa ac (aa ac (aa ac (aa ac (aa ac (aa ac (aa ac (aa ac ad)))))))))))))
 (af (ai (i:=1) sc__law_bad.nd rfl (Or.inl rfl) (ag aV (pv 1) (ak (aa ac (aa ac (aa ac (aa ac (aa ac (aa ac (aa ac (aa ac ad)))))))))))
 (af (ai (i:=1) sc__law_bad.nd rfl (Or.inl rfl) (ag aV (pv 1) (ak (aa ac (aa ac (aa ac (aa ac (aa ac (aa ac (aa ac ad))))))))))
 (af (ai (i:=1) sc__law_bad.nd rfl (Or.inl rfl) (ag aV (pv 1) (ak (aa ac (aa ac (aa (ag aq ac (ag fB ac ae)) (aa ac (aa ac (aa ac (aa ac ad))))))))))
 (af (ai (i:=1) sc__law_bad.nd rfl (Or.inl rfl) (ag aV (pv 1) (ak (aa ac (aa ac (aa ac (aa ac (aa ac (aa ac (aa ac (aa ac (aa ac ad))))))))))))
 (af (ai (i:=1) sc__law_bad.nd rfl (Or.inl rfl) (ag aV (pv 1) (ak (aa ac (aa ac (aa ac (aa ac (aa ac (aa ac (aa ac (aa (ag fB ac ae) ad)))))))))))
 (af (ai (i:=1) sc__law_bad.nd rfl (Or.inl rfl) (ag aV (pv 1) (ak (aa (ag aq (ag aq ac (ag fB ac ae)) ac) (aa (ag aq (ag aq (ag aq ac (ag fB ac ae)) ac) (ag fB ac ae)) (aa ac (aa ac ad)))))))
 (af (ai (i:=1) sc__law_bad.nd rfl (Or.inl rfl) (ag aV (pv 1) (ak (aa ac (aa ac (aa ac (aa ac (aa ac (aa ac ad)))))))))
 (af (ai (i:=1) sc__law_bad.nd rfl (Or.inl rfl) (ag aV (pv 1) (ak (aa ac (aa ac (aa ac (aa ac (aa ac (aa ac ad)))))))))
 (af (ai (i:=1) sc__law_bad.nd rfl (Or.inl rfl) (ag aV (pv 1) (ak (aa ac (aa ac (aa ac (aa ac (aa ac (aa ac ad)))))))))
 (ah (ax (ao av (pv 1) (ag aI (aA G__law_stir hr rfl (aa (pv 0) (aa ae ad))) (aN aQ rfl hlen PySem.boot_len (aa (pv 1) ad))) (λ_ _=>rfl)))))))))))))))))))),?_⟩
 walk_at "rz"
 refine⟨by lia,λb0 B0 hb0 gb0 kb0=>?_⟩
 obtain⟨Y0,e0,d0,c0⟩:∃Ls:List Str,B0 b0=some (.lst (Ls.map V.str))/\(∀x∈Ls,cU x=true)/\Ls.length=11:=⟨[_,_,_,_,_,_,_,_,_,_,_],kb0,by decide +kernel,rfl⟩
 have g0:=gb0
 clear kb0
 walk_at "rz"
 refine⟨by lia,λa1 A1 ha1 ga1 ka1=>?_⟩
 have f1:=ga1 _ _ e0
 have z1:=lz Y0
 walk_at "rz"
 refine⟨by lia,λb1 B1 hb1 gb1 kb1=>?_⟩
 obtain⟨Y1,e1,d1,c1⟩:∃Ls:List Str,B1 b1=some (.lst (Ls.map V.str))/\(∀x∈Ls,cU x=true)/\Ls.length=21:=⟨Y0++[_,_,_,_,_,_,_,_,_,_],by rw [kb1,map_append];rfl,cj d0 (by decide +kernel),by rw [length_append,c0];rfl⟩
 have g1:=g0.trans (ga1.trans gb1)
 clear kb1 ka1 f1 e0 d0 c0 z1
 walk_at "rz"
 simp only [L2.start,map_cons,map_nil,length_cons,length_nil,replicate,cons_append,nil_append,set_cons_zero,set_cons_succ]
 refine⟨by lia,λa2 A2 ha2 ga2 ka2=>?_⟩
 have f2:=ga2 _ _ e1
 have z1:=lz Y1
 walk_at "rz"
 refine⟨by lia,λb2 B2 hb2 gb2 kb2=>?_⟩
 obtain⟨Y2,e2,d2,c2⟩:∃Ls:List Str,B2 b2=some (.lst (Ls.map V.str))/\(∀x∈Ls,cU x=true)/\Ls.length=30:=⟨Y1++[_,_,_,_,_,_,_,_,_],by rw [kb2,map_append];rfl,cj d1 (by decide +kernel),by rw [length_append,c1];rfl⟩
 have g2:=g1.trans (ga2.trans gb2)
 clear kb2 ka2 f2 e1 d1 c1 z1
 walk_at "rz"
 simp only [L2.start,map_cons,map_nil,length_cons,length_nil,replicate,cons_append,nil_append,set_cons_zero,set_cons_succ]
 refine⟨by lia,λa3 A3 ha3 ga3 ka3=>?_⟩
 have f3:=ga3 _ _ e2
 have z1:=lz Y2
 walk_at "rz"
 refine⟨by lia,λb3 B3 hb3 gb3 kb3=>?_⟩
 obtain⟨Y3,e3,d3,c3⟩:∃Ls:List Str,B3 b3=some (.lst (Ls.map V.str))/\(∀x∈Ls,cU x=true)/\Ls.length=38:=⟨Y2++[_,_,_,_,_,_,_,_],by rw [kb3,map_append];rfl,cj d2 (by decide +kernel),by rw [length_append,c2];rfl⟩
 have g3:=g2.trans (ga3.trans gb3)
 clear kb3 ka3 f3 e2 d2 c2 z1
 walk_at "rz"
 simp only [L2.start,map_cons,map_nil,length_cons,length_nil,replicate,cons_append,nil_append,set_cons_zero,set_cons_succ]
 refine⟨by lia,λa4 A4 ha4 ga4 ka4=>?_⟩
 have f4:=ga4 _ _ e3
 have z1:=lz Y3
 walk_at "rz"
 refine⟨by lia,λb4 B4 hb4 gb4 kb4=>?_⟩
 obtain⟨Y4,e4,d4,c4⟩:∃Ls:List Str,B4 b4=some (.lst (Ls.map V.str))/\(∀x∈Ls,cU x=true)/\Ls.length=46:=⟨Y3++[_,_,_,_,_,_,_,_],by rw [kb4,map_append];rfl,cj d3 (by decide +kernel),by rw [length_append,c3];rfl⟩
 have g4:=g3.trans (ga4.trans gb4)
 clear kb4 ka4 f4 e3 d3 c3 z1
 walk_at "rz"
 simp only [L2.start,map_cons,map_nil,length_cons,length_nil,replicate,cons_append,nil_append,set_cons_zero,set_cons_succ]
 refine⟨by lia,λa5 A5 ha5 ga5 ka5=>?_⟩
 have f5:=ga5 _ _ e4
 have z1:=lz Y4
 walk_at "rz"
 refine⟨by lia,λb5 B5 hb5 gb5 kb5=>?_⟩
 obtain⟨Y5,e5,d5,c5⟩:∃Ls:List Str,B5 b5=some (.lst (Ls.map V.str))/\(∀x∈Ls,cU x=true)/\Ls.length=54:=⟨Y4++[_,_,_,_,_,_,_,_],by rw [kb5,map_append];rfl,cj d4 (by decide +kernel),by rw [length_append,c4];rfl⟩
 have g5:=g4.trans (ga5.trans gb5)
 clear kb5 ka5 f5 e4 d4 c4 z1
 walk_at "rz"
 simp only [L2.start,map_cons,map_nil,length_cons,length_nil,replicate,cons_append,nil_append,set_cons_zero,set_cons_succ]
 refine⟨by lia,λa6 A6 ha6 ga6 ka6=>?_⟩
 have f6:=ga6 _ _ e5
 have z1:=lz Y5
 walk_at "rz"
 refine⟨by lia,λb6 B6 hb6 gb6 kb6=>?_⟩
 obtain⟨Y6,e6,d6,c6⟩:∃Ls:List Str,B6 b6=some (.lst (Ls.map V.str))/\(∀x∈Ls,cU x=true)/\Ls.length=64:=⟨Y5++[_,_,_,_,_,_,_,_,_,_],by rw [kb6,map_append];rfl,cj d5 (by decide +kernel),by rw [length_append,c5];rfl⟩
 have g6:=g5.trans (ga6.trans gb6)
 clear kb6 ka6 f6 e5 d5 c5 z1
 walk_at "rz"
 simp only [L2.start,map_cons,map_nil,length_cons,length_nil,replicate,cons_append,nil_append,set_cons_zero,set_cons_succ]
 refine⟨by lia,λa7 A7 ha7 ga7 ka7=>?_⟩
 have f7:=ga7 _ _ e6
 have z1:=lz Y6
 walk_at "rz"
 refine⟨by lia,λb7 B7 hb7 gb7 kb7=>?_⟩
 obtain⟨Y7,e7,d7,c7⟩:∃Ls:List Str,B7 b7=some (.lst (Ls.map V.str))/\(∀x∈Ls,cU x=true)/\Ls.length=72:=⟨Y6++[_,_,_,_,_,_,_,_],by rw [kb7,map_append];rfl,cj d6 (by decide +kernel),by rw [length_append,c6];rfl⟩
 have g7:=g6.trans (ga7.trans gb7)
 clear kb7 ka7 f7 e6 d6 c6 z1
 walk_at "rz"
 simp only [L2.start,map_cons,map_nil,length_cons,length_nil,replicate,cons_append,nil_append,set_cons_zero,set_cons_succ]
 refine⟨by lia,λa8 A8 ha8 ga8 ka8=>?_⟩
 have f8:=ga8 _ _ e7
 have z1:=lz Y7
 walk_at "rz"
 refine⟨by lia,λb8 B8 hb8 gb8 kb8=>?_⟩
 obtain⟨Y8,e8,d8,c8⟩:∃Ls:List Str,B8 b8=some (.lst (Ls.map V.str))/\(∀x∈Ls,cU x=true)/\Ls.length=79:=⟨Y7++[_,_,_,_,_,_,_],by rw [kb8,map_append];rfl,cj d7 (by decide +kernel),by rw [length_append,c7];rfl⟩
 have g8:=g7.trans (ga8.trans gb8)
 clear kb8 ka8 f8 e7 d7 c7 z1
 walk_at "rz"
 simp only [L2.start,map_cons,map_nil,length_cons,length_nil,replicate,cons_append,nil_append,set_cons_zero,set_cons_succ]
 repeat (refine⟨by first | (unfold MulOk;decide +kernel) | decide +kernel,?_⟩;try walk_at "rz")
 intro a9 A9 ha9 ga9 ka9
 have f9:=ga9 _ _ e8
 have z1:=lz Y8
 walk_at "rz"
 refine⟨by lia,λb9 B9 hb9 gb9 kb9=>?_⟩
 obtain⟨Y9,e9,d9,c9⟩:∃Ls:List Str,B9 b9=some (.lst (Ls.map V.str))/\(∀x∈Ls,cU x=true)/\Ls.length=86:=⟨Y8++[_,_,_,_,_,_,_],by rw [kb9,map_append];rfl,cj d8 (by decide +kernel),by rw [length_append,c8];rfl⟩
 have g9:=g8.trans (ga9.trans gb9)
 clear kb9 ka9 f9 e8 d8 c8 z1
 walk_at "rz"
 simp only [L2.start,map_cons,map_nil,length_cons,length_nil,replicate,cons_append,nil_append,set_cons_zero,set_cons_succ]
 refine⟨by lia,λa10 A10 ha10 ga10 ka10=>?_⟩
 have f10:=ga10 _ _ e9
 have z1:=lz Y9
 walk_at "rz"
 refine⟨by lia,λb10 B10 hb10 gb10 kb10=>?_⟩
 obtain⟨Y10,e10,d10,c10⟩:∃Ls:List Str,B10 b10=some (.lst (Ls.map V.str))/\(∀x∈Ls,cU x=true)/\Ls.length=95:=⟨Y9++[_,_,_,_,_,_,_,_,_],by rw [kb10,map_append];rfl,cj d9 (by decide +kernel),by rw [length_append,c9];rfl⟩
 have g10:=g9.trans (ga10.trans gb10)
 clear kb10 ka10 f10 e9 d9 c9 z1
 walk_at "rz"
 simp only [L2.start,map_cons,map_nil,length_cons,length_nil,replicate,cons_append,nil_append,set_cons_zero,set_cons_succ]
 repeat (refine⟨by first | (unfold MulOk;decide +kernel) | decide +kernel,?_⟩;try walk_at "rz")
 intro a11 A11 ha11 ga11 ka11
 have f11:=ga11 _ _ e10
 have z1:=lz Y10
 walk_at "rz"
 refine⟨by lia,λb11 B11 hb11 gb11 kb11=>?_⟩
 obtain⟨Y11,e11,d11,c11⟩:∃Ls:List Str,B11 b11=some (.lst (Ls.map V.str))/\(∀x∈Ls,cU x=true)/\Ls.length=103:=⟨Y10++[_,_,_,_,_,_,_,_],by rw [kb11,map_append];rfl,cj d10 (by decide +kernel),by rw [length_append,c10];rfl⟩
 have g11:=g10.trans (ga11.trans gb11)
 clear kb11 ka11 f11 e10 d10 c10 z1
 walk_at "rz"
 simp only [L2.start,map_cons,map_nil,length_cons,length_nil,replicate,cons_append,nil_append,set_cons_zero,set_cons_succ]
 repeat (refine⟨by first | (unfold MulOk;decide +kernel) | decide +kernel,?_⟩;try walk_at "rz")
 intro a12 A12 ha12 ga12 ka12
 have f12:=ga12 _ _ e11
 have z1:=lz Y11
 walk_at "rz"
 refine⟨by lia,λb12 B12 hb12 gb12 kb12=>?_⟩
 obtain⟨Y12,e12,d12,c12⟩:∃Ls:List Str,B12 b12=some (.lst (Ls.map V.str))/\(∀x∈Ls,cU x=true)/\Ls.length=107:=⟨Y11++[_,_,_,_],by rw [kb12,map_append];rfl,cj d11 (by decide +kernel),by rw [length_append,c11];rfl⟩
 have g12:=g11.trans (ga12.trans gb12)
 clear kb12 ka12 f12 e11 d11 c11 z1
 walk_at "rz"
 simp only [L2.start,map_cons,map_nil,length_cons,length_nil,replicate,cons_append,nil_append,set_cons_zero,set_cons_succ]
 intro a13 A13 ha13 ga13 ka13
 have f13:=ga13 _ _ e12
 have z1:=lz Y12
 walk_at "rz"
 refine⟨by lia,λb13 B13 hb13 gb13 kb13=>?_⟩
 obtain⟨Y13,e13,d13,c13⟩:∃Ls:List Str,B13 b13=some (.lst (Ls.map V.str))/\(∀x∈Ls,cU x=true)/\Ls.length=113:=⟨Y12++[_,_,_,_,_,_],by rw [kb13,map_append];rfl,cj d12 (by decide +kernel),by rw [length_append,c12];rfl⟩
 have g13:=g12.trans (ga13.trans gb13)
 clear kb13 ka13 f13 e12 d12 c12 z1
 walk_at "rz"
 simp only [L2.start,map_cons,map_nil,length_cons,length_nil,replicate,cons_append,nil_append,set_cons_zero,set_cons_succ]
 intro a14 A14 ha14 ga14 ka14
 have f14:=ga14 _ _ e13
 have z1:=lz Y13
 walk_at "rz"
 refine⟨by lia,λb14 B14 hb14 gb14 kb14=>?_⟩
 obtain⟨Y14,e14,d14,c14⟩:∃Ls:List Str,B14 b14=some (.lst (Ls.map V.str))/\(∀x∈Ls,cU x=true)/\Ls.length=119:=⟨Y13++[_,_,_,_,_,_],by rw [kb14,map_append];rfl,cj d13 (by decide +kernel),by rw [length_append,c13];rfl⟩
 have g14:=g13.trans (ga14.trans gb14)
 clear kb14 ka14 f14 e13 d13 c13 z1
 walk_at "rz"
 simp only [L2.start,map_cons,map_nil,length_cons,length_nil,replicate,cons_append,nil_append,set_cons_zero,set_cons_succ]
 intro a15 A15 ha15 ga15 ka15
 have f15:=ga15 _ _ e14
 have z1:=lz Y14
 walk_at "rz"
 refine⟨by lia,λb15 B15 hb15 gb15 kb15=>?_⟩
 obtain⟨Y15,e15,d15,c15⟩:∃Ls:List Str,B15 b15=some (.lst (Ls.map V.str))/\(∀x∈Ls,cU x=true)/\Ls.length=125:=⟨Y14++[_,_,_,_,_,_],by rw [kb15,map_append];rfl,cj d14 (by decide +kernel),by rw [length_append,c14];rfl⟩
 have g15:=g14.trans (ga15.trans gb15)
 clear kb15 ka15 f15 e14 d14 c14 z1
 walk_at "rz"
 simp only [L2.start,map_cons,map_nil,length_cons,length_nil,replicate,cons_append,nil_append,set_cons_zero,set_cons_succ]
 have z1:=lz Y15
 refine⟨cc,70,rfl,by decide,by decide,λm em m0 m1=>?_⟩
 clear em
 walk_at "rz"
 refine⟨by decide,?_⟩
 rw [z1,c15]
 obtain⟨x,ex,mx⟩:=DM (l:=Y15) (i:=m%125) (by lia) (by lia)
 have dx:=d15 x mx
 clear c15 d15 z1 mx
 walk_at "rz"
 exact⟨_,ex,q x _ dx g15⟩
end
theorem DN{l:List Nat}{i:Int}(h0:0<=i)(h1:i<l.length):∃x,atI l i=some x/\x∈l:=by
 obtain⟨j,rfl⟩:=eq_ofNat_of_zero_le h0
 have hj:j<l.length:=by lia
 exact⟨l[j],bU (by rw [getElem?_eq_getElem hj]),getElem_mem hj⟩
theorem zg{x:Str}{l:List Str}{p:Addr}{H:Hp}{Q:VK}(h:H p=some (.lst (l.map V.str)))(q:Q (.bl (decide (x∈l))) H):o9 false (.str x) (.ref p) H Q:=
 ⟨p,_,rfl,.inr h,rfl,jV l,by rw [if_neg (by decide),iB];exact q⟩
theorem vN{x:Str}{j:Int}(h:0<=j)(h1:j<=x.length):PySem.Txt.slice x none (some j)++PySem.Txt.slice x (some j) none=x:=dc (by
 have e:PySem.Txt.slice x none (some j)=⟨((x.cps.toList.drop 0).take (j-0).toNat).toArray⟩:=PySem.StrLaws.sliceText_to ⟨h,by rw [bW];exact h1⟩
 have e2:=PySem.StrLaws.sliceText_from (x:=x) (i:=j) ⟨h,by rw [bW];exact h1⟩
 have e2:PySem.Txt.slice x (some j) none=_:=e2
 rw [aG,e,e2]
 simp only [List.toList_toArray,drop_zero,Int.sub_zero]
 rw [take_of_length_le (l:=List.drop _ _) (by rw [length_drop];lia),take_append_drop])
theorem vO{l:List Str}{n:Nat}(h:n<=l.length):cw (l.map V.str) none (some (n:Int))=(l.take n).map V.str:=by
 unfold cw
 rw [HT.mE,HT.kZ,length_map,Nat.min_eq_left h,drop_zero,Nat.sub_zero,map_take]
theorem xk{l:List Str}{n:Nat}(h:n<=l.length):cw (l.map V.str) (some (n:Int)) none=(l.drop n).map V.str:=by
 unfold cw
 rw [HT.mE,HT.kZ,length_map,Nat.min_eq_left h,map_drop]
 exact take_of_length_le (by rw [length_drop,length_map];exact le_refl _)
theorem Cy{l:List Str}{n:Nat}{row:Str}(e:row=aR l):(aR (l.take n)).length<=row.length/\∀c∈(aR (l.take n)).cps.toList,c∈row.cps.toList:=by
 by_cases z:n=0
 ·subst z
  rw [List.take_zero]
  exact⟨zero_le _,λc hc=>by cases hc⟩
 by_cases z2:l.drop n= []
 ·have:l.take n=l:=by
   have:=take_append_drop n l
   rw [z2,append_nil] at this
   exact this
  rw [this,e]
  exact⟨le_refl _,λc hc=>hc⟩
 by_cases z3:l.take n= []
 ·rw [z3];exact⟨zero_le _,λc hc=>by cases hc⟩
 have f:=jW z3 z2
 rw [take_append_drop,<-e] at f
 rw [<-f]
 exact⟨by rw [bC,bC];lia,λc hc=>by rw [aG,aG];exact mem_append_left _ (mem_append_left _ hc)⟩
theorem Cz(l:List Str):Txt.join ⟨#[32]⟩ l=aR l:=by
 show Builtin.Str.glued _ l=_
 rw [StrLaws.glued_eq_join]
 rfl
theorem DO(c:Nat)(l:List (List Nat)):(l.map List.length).sum+l.length<=(jn c l).length+1:=by
 induction l with
 | nil=>exact zero_le _
 | cons x l ih=>
  cases l with
  | nil=>simp [jn]
  | cons y l=>
   show _<=(x++c::jn c (y::l)).length+1
   simp only [map_cons,sum_cons,length_append,length_cons] at ih⊢
   lia
theorem zh(l:List Str):(l.map (·.length)).sum+l.length<=(aR l).length+1:=by
 have:=DO 32 (l.map λt=>t.cps.toList)
 unfold aR
 rw [<-bW,bJ]
 rw [map_map,length_map] at this
 exact this
theorem CA(l:List Str)(n:Nat):((l.take n).map (·.length)).sum+(l.take n).length<=(l.map (·.length)).sum+l.length:=by
 induction l generalizing n with
 | nil=>rw [take_nil];exact le_refl _
 | cons x l ih=>
  cases n with
  | zero=>exact zero_le _
  | succ n=>
   rw [take_succ_cons,map_cons,map_cons,sum_cons,sum_cons,length_cons,length_cons]
   have:=ih n
   lia
section
variable{P:Program}{w:World}{K:PySem.W.Frag}{mg:Str->Option Value}{base:Heap}
def xS:Sp:=λvs H Q _=>∃(row x:Str) (ds:List PyData) (kind cell:Int),vs= [.str row,.int kind,.int cell]/\aZ row=some (x,ds)/\kM row/\∀t H',aZ t=none->jf t->Same H H'->Q (.str t) H'
theorem CB(D:DefAt K mg "_law_spoilt" gP ["row","kind","cell"])(hlen:mg "len" =none)(G__law_stir:OkD P w K mg base 1 "_law_stir" ["cell","k"] dC):OkD P w K mg base 2 "_law_spoilt" ["row","kind","cell"] xS:=by
 refine D.ok sc__law_spoilt (λvs H Q E h=>?_) (λf cdv A outer s H vs Q E hr h=>?_)
 ·obtain⟨_,_,_,_,_,rfl,_⟩:=h;rfl
 obtain⟨row,x,ds,kind,cell,rfl,hp,ok,q⟩:=h
 have big:3000000<=sizeLine:=by unfold sizeLine;decide
 have lrow:=ok.1
 have okP:=PLift.up ok
 have hpP:=PLift.up hp
 obtain⟨r,ks,es,_,_⟩:=iR hp
 clear ok hp
 refine⟨_,(af (ai (i:=3) sc__law_spoilt.nd rfl (Or.inl rfl) (lP PySem.F.plainAttrs_str PySem.F.slot_str_split PySem.F.type_str_split lu (pv 0) (aa ac ad)))
 (af (aB (aj aJ (pv 1) ae (ap _))
 (ah (ax (ag aq (pv 0) (ao jh ac (ag aI (aA G__law_stir hr rfl (aa (pv 2) (aa ae ad))) ae) (λ_ _=>rfl)))))
 ay)
 (af (aB (aj dR (ao av (pv 3) ae (λ_ _=>rfl)) (ak (aa ac (aa ac (aa ac ad)))) (by with_unfolding_all rfl))
 (ah (ax (ag aq ac (pv 0))))
 ay)
 (af (aB (PW.pt (dJ (aj aJ (pv 1) ae (ap _)) (cY (aj jF (aN aQ rfl hlen PySem.boot_len (aa (pv 3) ad)) ae (ap _)))))
 (ah (ax (gY ac (bg fQ (pv 3) bz (bA (ag aM ae (ag aI (aA G__law_stir hr rfl (aa (pv 2) (aa ae ad))) (ag gE (aN aQ rfl hlen PySem.boot_len (aa (pv 3) ad)) ae))))))))
 ay)
 (af (ai (i:=4) sc__law_spoilt.nd rfl (Or.inl rfl) (ag aI (aA G__law_stir hr rfl (aa (pv 2) (aa ae ad))) (ag aM (aN dQ rfl hlen PySem.boot_len (aa (pv 0) ad)) ae)))
 (ah (ax (ag aq (ag aq (bg ka (pv 0) bz (bA (pv 4))) ac) (bg ka (pv 0) (bA (pv 4)) bz))))))))),?_⟩
 walk_at "rz"
 have sl:=kt row 32
 have sp1:(⟨#[32]⟩:Str).length=1:=rfl
 have sp2:(⟨#[32]⟩:Str)=Str.ofString " ":=by decide +kernel
 have sp2P:=PLift.up sp2
 clear sp2
 rw [<-sp2P.down]
 refine⟨_,_,rfl,rfl,by decide,by lia,by lia,λws H1 hws g1 h1=>?_⟩
 have esP:=PLift.up es
 clear es
 refine aY (λc1=>?_) λc1=>?_
 ·walk_at "rz"
  refine⟨cell,71,rfl,by decide,by decide,λm em m0 m1=>?_⟩
  clear em
  walk_at "rz"
  rw [show(Str.ofString "+*(!. =<-").cps.toList= [43,42,40,33,46,32,61,60,45] by decide +kernel]
  obtain⟨c,ec,mc⟩:=DN (l:=[43,42,40,33,46,32,61,60,45]) (i:=m%9) (by lia) (by simp only [length_cons,length_nil];lia)
  have mcP:=PLift.up mc
  clear mc
  refine ⟨by have : (Str.ofString "+*(!. =<-").length ≤ 9 := by decide +kernel
             lia,c,ec,?_⟩
  walk_at "rz"
  have mc:=mcP.down
  refine⟨by show _+1<=_;lia,q _ _ (yZ hpP.down ?_) ⟨by rw [bC];show _+1<=_;lia,?_⟩ g1⟩
  ·simp only [mem_cons,not_mem_nil,or_false,sg8] at mc⊢
   lia
  ·rw [hU]
   intro z
   rcases List.mem_append.mp z with z | z
   ·exact okP.down.2 z
   ·rw [mem_singleton] at z
    rw [<-z] at mc
    revert mc
    decide
 have le1:=congrArg List.length esP.down
 rw [esP.down] at h1
 have h1P:=PLift.up h1
 clear h1
 walk_at "rz"
 refine⟨_,.inr h1P.down,.str x,bU (j:=0) rfl,?_⟩
 walk_at "rz"
 intro p2 H2 hp2 g2 h2
 have h2':H2 p2=some (.lst (tl3.map V.str)):=h2
 refine zg h2' ?_
 have n1P:=PLift.up (g2 _ _ h1P.down)
 have g12:=g1.trans g2
 clear h2 h2'
 refine⟨_,rfl,?_⟩
 by_cases nt:x∈tl3
 ·rw [decide_eq_true nt]
  refine cX ?_
  walk_at "rz"
  refine⟨by lia,q _ _ (by rw [sp2P.down];exact xj row) ⟨by rw [bC];lia,λz=>?_⟩ g12⟩
  rw [aG] at z
  rcases List.mem_append.mp z with z | z
  ·revert z;decide
  ·exact okP.down.2 z
 rw [decide_eq_false nt]
 refine cK ?_
 walk_at "rz"
 have lx:((x::r).map V.str).length=r.length+1:=by rw [length_map,length_cons]
 refine aY (λc4=>?_) λc4=>?_
 ·walk_at "rz"
  refine⟨_,.inr n1P.down,?_⟩
  rw [lx]
  walk_at "rz"
  refine aY (λc5=>?_) λc5=>?_
  ·walk_at "rz"
   refine⟨cell,72,rfl,by decide,by decide,λm em m0 m1=>?_⟩
   clear em
   walk_at "rz"
   refine⟨_,.inr n1P.down,?_⟩
   rw [lx]
   walk_at "rz"
   refine⟨by lia,?_⟩
   obtain⟨n,hn⟩:=eq_ofNat_of_zero_le (show 0<=1+m%(((r.length+1:Nat):Int)-1) by have:=emod_nonneg m (show(((r.length+1:Nat):Int)-1)≠0 by lia);lia)
   have n1:1<=n:=by have:=emod_nonneg m (show(((r.length+1:Nat):Int)-1)≠0 by lia);lia
   have n2:n<r.length+1:=by have:=emod_lt_of_pos m (show 0<(((r.length+1:Nat):Int)-1) by lia);lia
   walk_at "rz"
   refine⟨_,.inr ⟨n1P.down,λp3 H3 hp3 g3 h3=>?_⟩⟩
   rw [hn,vO (by rw [length_cons];lia)] at h3
   walk_at "rz"
   refine⟨_,rfl,PyProof.Rows.joinOk_of_weight ?_ (by decide +kernel),?_⟩
   ·have a:=CA (x::r) n
    have b:=zh (x::r)
    rw [<-esP.down,<-eH] at b
    rw [esP.down] at b
    lia
   rw [Cz]
   have js:=Cy (n:=n) (eH row)
   have sw:=y0 (m:=n) hpP.down nt n1 (by rw [esP.down,length_cons];exact n2)
   rw [esP.down] at js sw
   exact q _ _ sw ⟨by lia,λz=>okP.down.2 (js.2 _ z)⟩ (g12.trans g3)
  walk_at "rz"
  refine⟨cell,73,rfl,by decide,by decide,λm em m0 m1=>?_⟩
  clear em
  walk_at "rz"
  refine⟨by lia,?_⟩
  walk_at "rz"
  refine⟨by lia,?_⟩
  walk_at "rz"
  have j0:=emod_nonneg m (show(row.length:Int)+1≠0 by lia)
  have j1:=emod_lt_of_pos m (show 0<(row.length:Int)+1 by lia)
  have s1:=PLift.up (oI (x:=row) j0 (by lia))
  have s2:=PLift.up (mV (x:=row) j0 (by lia))
  have s3:=PLift.up (vN (x:=row) j0 (by lia))
  refine⟨by lia,?_⟩
  walk_at "rz"
  refine⟨by rw [s1.down.1];lia,?_⟩
  walk_at "rz"
  refine⟨by lia,?_⟩
  walk_at "rz"
  have l1:=s1.down.1
  have l2:=s2.down.1
  refine⟨by rw [bC,sp1,l1,l2];lia,q _ _ (by rw [sp2P.down];exact qH (by rw [s3.down];exact hpP.down) nt) ⟨by rw [bC,bC,sp1,l1,l2];lia,λz=>?_⟩ g12⟩
  rw [aG,aG] at z
  rcases List.mem_append.mp z with z | z
  ·rcases List.mem_append.mp z with z | z
   ·exact okP.down.2 (s1.down.2 _ z)
   ·revert z;decide
  ·exact okP.down.2 (s2.down.2 _ z)
 walk_at "rz"
 refine⟨cell,73,rfl,by decide,by decide,λm em m0 m1=>?_⟩
 clear em
 walk_at "rz"
 refine⟨by lia,?_⟩
 walk_at "rz"
 refine⟨by lia,?_⟩
 walk_at "rz"
 have j0:=emod_nonneg m (show(row.length:Int)+1≠0 by lia)
 have j1:=emod_lt_of_pos m (show 0<(row.length:Int)+1 by lia)
 have s1:=PLift.up (oI (x:=row) j0 (by lia))
 have s2:=PLift.up (mV (x:=row) j0 (by lia))
 have s3:=PLift.up (vN (x:=row) j0 (by lia))
 refine⟨by lia,?_⟩
 walk_at "rz"
 refine⟨by rw [s1.down.1];lia,?_⟩
 walk_at "rz"
 refine⟨by lia,?_⟩
 walk_at "rz"
 have l1:=s1.down.1
 have l2:=s2.down.1
 refine⟨by rw [bC,sp1,l1,l2];lia,q _ _ (by rw [sp2P.down];exact qH (by rw [s3.down];exact hpP.down) nt) ⟨by rw [bC,bC,sp1,l1,l2];lia,λz=>?_⟩ g12⟩
 rw [aG,aG] at z
 rcases List.mem_append.mp z with z | z
 ·rcases List.mem_append.mp z with z | z
  ·exact okP.down.2 (s1.down.2 _ z)
  ·revert z;decide
 ·exact okP.down.2 (s2.down.2 _ z)
end
def CdP(d:Nat)(i:Nat)(ys:List V)(σ1:St)(H':Hp):Prop:=ys=(List.range i).map (λ(k:Nat)=>V.bl (decide (k=d)))/\∃v0,σ1= [v0]
theorem zi:SeqAt.shaped (.list ((mC (some 0)).map PyData.bool))=true:=by decide +kernel
theorem nq{K:PySem.W.Frag}{H:Hp}:∀bs:List Bool,RpL K H (bs.map V.bl) (bs.map PyData.bool)
 | []=>.nil
 | b::bs=>.cons (.bl b) (nq bs)
theorem zj{K:PySem.W.Frag}{H:Hp}{x y:V}{d:PyData}{Kx:VK}(hx:Rp K H x d)(hy:Rp K H y d)(sh:SeqAt.shaped d=true)(k:Kx (.bl true) H):Aa K x y H Kx:=by
 have h:=sh
 unfold SeqAt.shaped at h
 rw [and_eq_true] at h
 refine⟨d,d,hx,hy,sh,sh,?_⟩
 rw [PySem.SeqAt.eqv_refl d h.1]
 exact k
theorem si{n j:Nat}(h:j<n):ixN n (j:Int)=some j:=by
 unfold ixN
 rw [if_pos (by lia),if_pos (by lia),toNat_natCast]
theorem vP(xs:List V)(n:Nat):cw xs (some (n:Int)) none=xs.drop n:=by
 unfold cw
 rw [HT.mE,HT.kZ]
 rcases Nat.le_total n xs.length with h | h
 ·rw [Nat.min_eq_left h]
  exact take_of_length_le (by rw [length_drop];exact le_refl _)
 ·rw [Nat.min_eq_right h,List.drop_length,List.drop_of_length_le h,take_nil]
theorem Reach.rows{rows:List Str}{st:PS}(h:Reach rows st):∀x∈rows,kM x/\∃w ds,aZ x=some (w,ds):=by
 induction h with
 | nil=>intro x hx;cases hx
 | snoc _ e ih=>
  intro x hx
  rcases List.mem_append.mp hx with hx | hx
  ·exact ih x hx
  ·rw [List.mem_singleton.mp hx]
   obtain⟨w,ds,r⟩:=e.parts
   exact⟨e.ok,w,ds,r.p⟩
def LwI(a:Addr)(v2 v3 v4 v5:Option V)(σ:St)(H:Hp):Prop:=∃(l:Addr) (pre rest:List Str) (y:Str) (st:PS),σ= [some (.ref a),some (.ref l),v2,v3,v4,v5]/\H l=some (.lst ((pre++y::rest).map V.str))/\(pre++y::rest).length<=120/\(∀x∈pre++y::rest,jf x)/\Reach pre st/\aZ y=none
section
variable{P:Program}{w:World}{K:PySem.W.Frag}{mg:Str->Option Value}{base:Heap}
def oB(K:PySem.W.Frag):Sp:=λvs H Q _=>∃(a:Addr) (ns:List Int),vs= [.ref a]/\SqL K H a (ns.map V.int)/\ns.length<=63/\∀H',Q (.bl true) H'
theorem CC{fa:Addr}{fd0:FuncData}(F:Fun K "law" "law" tF fa fd0)(hlen:mg "len" =none)(hrange:mg "range" =none)
 (G__law_cell_at:OkD P w K mg base 1 "_law_cell_at" ["script","k"] (vM K)) (G__law_built:OkD P w K mg base 10 "_law_built" ["script","head"] (Cr K)) (G__law_bad:OkD P w K mg base 2 "_law_bad" ["cell"] t0) (G__law_spoilt:OkD P w K mg base 2 "_law_spoilt" ["row","kind","cell"] xS) (G__law_refused:OkD P w K mg base 26 "_law_refused" ["rows"] xR):fP P w K mg base CX0 27 fa fd0 ["script"] (oB K):=by
 refine F.ok sc_law (λvs H Q E h=>?_) (λcdv A outer s H vs Q E hr h=>?_)
 ·obtain⟨_,_,rfl,_⟩:=h;rfl
 obtain⟨a,ns,rfl,sq,l63,q⟩:=h
 have big:2000000<=sizeLine:=by unfold sizeLine;decide
 have hu64:=hr.units
 refine⟨_,(af (bQ (aA G__law_built hr rfl (aa (bg Ai (pv 0) (bA ae) bz) (aa (aA G__law_cell_at hr rfl (aa (pv 0) (aa ae ad))) ad))) (gZ 2 rfl (aD (aw (i:=1) sc_law.nd rfl (Or.inl rfl)) (aD (aw (i:=2) sc_law.nd rfl (Or.inl rfl)) bO))))
 (af (ai (i:=3) sc_law.nd rfl (Or.inl rfl) (ag aI (aA G__law_cell_at hr rfl (aa (pv 0) (aa ae ad))) (ag aM (aN aQ rfl hlen PySem.boot_len (aa (pv 1) ad)) ae)))
 (af (ai (i:=4) sc_law.nd rfl (Or.inl rfl) (ag aI (aA G__law_cell_at hr rfl (aa (pv 0) (aa ae ad))) ae))
 (af (ai (i:=5) sc_law.nd rfl (Or.inl rfl) (aA G__law_cell_at hr rfl (aa (pv 0) (aa ae ad))))
 (af (cL (aB (PW.pt (iG (aj gR (pv 4) ae (ap _)) (hW (aj aJ (pv 3) (aN aQ rfl hlen PySem.boot_len (aa (pv 1) ad)) (ap _)))))
 (ah (ai (i:=1) sc_law.nd rfl (Or.inl rfl) (ag aV (ag aV (bg fQ (pv 1) bz (bA (pv 3))) (ak (aa (aA G__law_bad hr rfl (aa (pv 5) ad)) ad))) (bg fQ (pv 1) (bA (pv 3)) bz))))
 (ah (cL (aB (aj aJ (pv 4) ae (ap _))
 (ah (bQ (aA G__law_bad hr rfl (aa (pv 5) ad)) (lL (pv 1) (pv 3) iL)))
 (ah (bQ (aA G__law_spoilt hr rfl (aa (ao av (pv 1) (pv 3) (λ_ _=>rfl)) (aa (pv 4) (aa (pv 5) ad)))) (lL (pv 1) (pv 3) iL))))))))
 (ah (ax (bZ (Ab hu64) (aA G__law_refused hr rfl (aa (pv 1) ad)) (eZ (bL 1 (N:=["k"]) (cap:=[]) rfl rfl rfl rfl (by decide +kernel) rfl rfl rfl) rfl (dP rfl hrange (aa ae ad)) (λ_ _ _ _=>(aw (i:=0) (show List.Nodup (α:=Str) ["k"] by decide +kernel) rfl (Or.inl (lookup_relabel_local rfl)) (Or.inr (lookup_relabel_local rfl)))) (λ_ _ _ _=>dB) (λ_ _ _ _=>(bZ aJ (pv 0) ae (ap _)))) (ap _))))))))),?_⟩
 walk_at "rz"
 have cd:=vP (ns.map V.int) 3
 rw [<-map_drop] at cd
 refine⟨a,_,rfl,sq,λp0 H0 hp0 g0 h0=>?_⟩
 rw [show((3:Int))=((3:Nat):Int) from rfl,cd] at h0
 have sq0:=L2.SqL.keep sq g0
 clear cd sq
 refine⟨a,ns,3,rfl,sq0,λhd=>?_⟩
 refine⟨p0,ns.drop 3,hd,rfl,SqL.of h0,by rw [length_drop];lia,λp1 rp pv1 H1 g ts g1 h1 hrp tne lts rch _ _=>?_⟩
 have rchP:=PLift.up rch
 have tneP:=PLift.up tne
 have hrpP:=PLift.up hrp
 have sq1:=L2.SqL.keep sq0 g1
 have rok:=λx hx=>(Reach.rows rch x hx)
 have rokP:=PLift.up rok
 clear rch tne hrp sq0 h0 rok
 walk_at "rz"
 refine⟨a,ns,0,rfl,sq1,λat0=>?_⟩
 have lt0:(ts.map V.str).length=ts.length:=length_map ..
 refine⟨_,.inr hrpP.down,?_⟩
 rw [lt0]
 walk_at "rz"
 refine⟨by lia,?_⟩
 walk_at "rz"
 refine⟨a,ns,1,rfl,sq1,λk0=>?_⟩
 walk_at "rz"
 refine⟨a,ns,2,rfl,sq1,λcell=>?_⟩
 walk_at "rz"
 simp only [L2.start,map_cons,map_nil,length_cons,length_nil,replicate,cons_append,nil_append,set_cons_zero,set_cons_succ]
 have j0:=emod_nonneg at0 (show(ts.length:Int)+1≠0 by lia)
 have j1:=emod_lt_of_pos at0 (show 0<(ts.length:Int)+1 by lia)
 generalize at0%((ts.length:Int)+1)=j at j0 j1⊢
 generalize k0%6=kd
 obtain⟨n,rfl⟩:=eq_ofNat_of_zero_le j0
 have nl:n<=ts.length:=by lia
 clear j0 j1
 have ins:∀y,cU y=true->(ts.take n++y::ts.drop n).length<=120/\(∀x∈ts.take n++y::ts.drop n,jf x)/\aZ y=none:=λy hy=>by
  obtain⟨b1,b2⟩:=sf hy
  refine⟨by rw [length_append,length_cons,length_take,length_drop];lia,λx hx=>?_,b1⟩
  have r3:∀x∈ts,jf x:=λx hx=>⟨by have:=(rokP.down x hx).1.1;lia,(rokP.down x hx).1.2⟩
  rcases List.mem_append.mp hx with hx | hx
  ·exact r3 x (mem_of_mem_take hx)
  ·rcases List.mem_cons.mp hx with rfl | hx
   ·exact b2
   ·exact r3 x (List.mem_of_mem_drop hx)
 have insP:=PLift.up ins
 obtain⟨st,rt⟩:=rchP.down.take n
 have rtP:=PLift.up rt
 clear rt ins
 have put:∀y:Str,n<ts.length->aZ y=none->jf y->(ts.take n++y::ts.drop (n+1)).length<=120/\(∀x∈ts.take n++y::ts.drop (n+1),jf x)/\((ts.map V.str).set n (.str y))=(ts.take n++y::ts.drop (n+1)).map V.str:=λy hn b1 b2=>by
  refine⟨by rw [length_append,length_cons,length_take,length_drop];lia,λx hx=>?_,?_⟩
  ·have r3:∀x∈ts,jf x:=λx hx=>⟨by have:=(rokP.down x hx).1.1;lia,(rokP.down x hx).1.2⟩
   rcases List.mem_append.mp hx with hx | hx
   ·exact r3 x (mem_of_mem_take hx)
   ·rcases List.mem_cons.mp hx with rfl | hx
    ·exact b2
    ·exact r3 x (List.mem_of_mem_drop hx)
  ·rw [<-List.map_set,List.set_eq_take_append_cons_drop,if_pos hn]
 have putP:=PLift.up put
 clear put
 have X:kX (tOp oD (tOp oD (tSl sL (cJ 1) kE (oy (cJ 3))) (oA (gS (sN t0 (gS (cJ 5) jH)) jH))) (tSl sL (cJ 1) (oy (cJ 3)) kE)) (gr 1) {nx:=LwI a (some pv1) (some (.int n)) (some (.int kd)) (some (.int cell)),rt:=Q} [some (.ref a),some (.ref rp),some pv1,some (.int n),some (.int kd),some (.int cell)] H1:=by
  walk_at "rz"
  refine⟨_,.inr ⟨hrpP.down,λp2 H2 hp2 g2 h2=>?_⟩⟩
  rw [vO nl] at h2
  have h2P:=PLift.up h2
  clear h2
  walk_at "rz"
  refine⟨cell,rfl,λy H3 hy g3=>?_⟩
  have hyP:=PLift.up hy
  clear hy
  walk_at "rz"
  intro p4 H4 hp4 g4 h4
  have h4P:=PLift.up h4
  clear h4
  walk_at "rz"
  refine⟨_,(g3.trans g4) _ _ h2P.down,_,h4P.down,by simp only [length_map,length_take,length_cons,length_nil];lia,λp5 H5 hp5 g5 h5=>?_⟩
  have h5':H5 p5=some (.lst ((ts.take n++[y]).map V.str)):=by rw [h5,map_append];rfl
  have h5P:=PLift.up h5'
  clear h5 h5'
  have g25:=g2.trans (g3.trans (g4.trans g5))
  walk_at "rz"
  refine⟨_,.inr ⟨g25 _ _ hrpP.down,λp6 H6 hp6 g6 h6=>?_⟩⟩
  rw [xk nl] at h6
  have h6P:=PLift.up h6
  clear h6
  walk_at "rz"
  refine⟨_,g6 _ _ h5P.down,_,h6P.down,by simp only [length_map,length_append,length_take,length_drop,length_cons,length_nil];lia,λp7 H7 hp7 g7 h7=>?_⟩
  rw [<-map_append,append_assoc] at h7
  have h7P:=PLift.up h7
  clear h7
  walk_at "rz"
  obtain⟨i1,i2,i3⟩:=insP.down y hyP.down
  exact⟨p7,ts.take n,ts.drop n,y,st,rfl,h7P.down,i1,i2,rtP.down,i3⟩
 refine⟨LwI a (some pv1) (some (.int n)) (some (.int kd)) (some (.int cell)),?_,?_⟩
 ·refine aY (λc1=>?_) λc1=>?_
  ·rw [if_pos trivial];exact X
  walk_at "rz"
  refine⟨_,.inr hrpP.down,?_⟩
  rw [lt0]
  walk_at "rz"
  refine aY (λc2=>?_) λc2=>?_
  ·exact X
  clear X
  have hn:n<ts.length:=by lia
  walk_at "rz"
  refine⟨LwI a (some pv1) (some (.int n)) (some (.int kd)) (some (.int cell)),?_,λ_ _ z=>z⟩
  refine aY (λc3=>?_) λc3=>?_
  ·walk_at "rz"
   refine⟨cell,rfl,λy H3 hy g3=>⟨_,g3 _ _ hrpP.down,n,by rw [lt0];exact si hn,λH4 mu=>?_⟩⟩
   obtain⟨b1,b2⟩:=sf hy
   obtain⟨i1,i2,i3⟩:=putP.down y hn b1 b2
   exact⟨rp,ts.take n,ts.drop (n+1),y,st,rfl,by rw [mu.at_,i3],i1,i2,rtP.down,b1⟩
  ·walk_at "rz"
   obtain⟨rk,xw,ds,pw⟩:=rokP.down ts[n] (getElem_mem hn)
   refine⟨_,.inr hrpP.down,.str ts[n],bU (by rw [getElem?_map,getElem?_eq_getElem hn];rfl),?_⟩
   have pwP:=PLift.up pw
   clear pw
   walk_at "rz"
   refine⟨_,xw,ds,kd,cell,rfl,pwP.down,rk,λy H3 b1 b2 g3=>?_⟩
   have b1P:=PLift.up b1
   clear b1
   walk_at "rz"
   refine⟨_,g3 _ _ hrpP.down,n,by rw [lt0];exact si hn,λH4 mu=>?_⟩
   obtain⟨i1,i2,i3⟩:=putP.down y hn b1P.down b2
   exact⟨rp,ts.take n,ts.drop (n+1),y,st,rfl,by rw [mu.at_,i3],i1,i2,rtP.down,b1P.down⟩
 ·rintro σ' H2 ⟨l,pre,rest,y,st2,rfl,hl,lr,hx,rch,hn⟩
  have hlP:=PLift.up hl
  have hxP:=PLift.up hx
  have rchP:=PLift.up rch
  have hnP:=PLift.up hn
  clear hl hx rch hn
  walk_at "rz"
  refine⟨l,pre,rest,y,st2,rfl,hlP.down,lr,hxP.down,rchP.down,hnP.down,λp6 H6 hp6 g6 h6=>?_⟩
  have h6':=PLift.up h6
  clear h6
  refine cQ ?_
  simp only [iH]
  walk_at "rz"
  refine gy (n:=12) (by decide) (CdP 0) (λH' _=>⟨rfl,_,rfl⟩) ?_ ?_
  ·rintro D i ys σ1 H7 hi at1 ⟨rfl,v0,rfl⟩
   walk_at "rz"
   refine at1.put (Same.refl _) λH8 mu=>⟨?_,_,rfl⟩
   rw [range_succ,map_append]
   congr 1
   show [V.bl _]= [V.bl _]
   congr 2
   exact decide_eq_decide.mpr ⟨λz=>by injection z with z,λz=>by rw [z];rfl⟩
  ·rintro D ys σ1 H7 hD g7 hy hle ⟨rfl,v0,rfl⟩
   have hy':H7 D=some (.lst ((mC (some 0)).map V.bl)):=by rw [hy];unfold mC;rw [map_map];rfl
   exact zj (.lst (g7 _ _ h6'.down) (nq _)) (.lst hy' (nq _)) zi (q _)
end
inductive FEs (w:World):List DictEntry->List (Str×Addr)->Prop
 | nil:FEs w [] []
 | cons {x:Str} {t:Addr} {u:Tok} {es:List DictEntry} {l:List (Str×Addr)}:FEs w es l->FEs w (⟨jY w (.inr x),.str x u,.ref t⟩::es) ((x,t)::l)
inductive FTs (K:PySem.W.Frag):List (Str×List V)->List (Str×Addr)->Prop
 | nil:FTs K [] []
 | cons {x:Str} {t:Addr} {fs:List V} {F:List (Str×List V)} {l:List (Str×Addr)}:(∀H:Hp,SqT K H t fs)->FTs K F l->FTs K ((x,fs)::F) ((x,t)::l)
theorem FTs.get{K:PySem.W.Frag}{F:List (Str×List V)}{l:List (Str×Addr)}(t:FTs K F l):∀{x:Str} {fs:List V},F.lookup x=some fs->∃t,cP (l.map λp=>((.inr p.1:Key),V.ref p.2)) (.inr x)=some (.ref t)/\∀H:Hp,SqT K H t fs:=by
 induction t with
 | nil=>intro x fs e;cases e
 | @cons y t gs F l h r ih=>
  intro x fs e
  rw [lookup_cons] at e
  by_cases z:x=y
  ·subst z
   rw [show(x==x)=true from by simp] at e
   cases e
   refine⟨t,?_,h⟩
   unfold cP
   rw [map_cons,List.find?_cons_of_pos (by simp)]
   rfl
  ·rw [show(x==y)=false from by simpa using z] at e
   obtain⟨t',h1,h2⟩:=ih e
   refine⟨t',?_,h2⟩
   rw [<-h1]
   unfold cP
   rw [map_cons,List.find?_cons_of_neg (by simp only [decide_eq_true_eq];intro q;injection q with q;exact z q.symm)]
theorem FTs.no{K:PySem.W.Frag}{F:List (Str×List V)}{l:List (Str×Addr)}(t:FTs K F l):∀{x:Str},F.lookup x=none->cP (l.map λp=>((.inr p.1:Key),V.ref p.2)) (.inr x)=none:=by
 induction t with
 | nil=>intro x e;rfl
 | @cons y t gs F l h r ih=>
  intro x e
  rw [lookup_cons] at e
  by_cases z:x=y
  ·rw [show(x==y)=true from by simpa using z] at e
   cases e
  ·rw [show(x==y)=false from by simpa using z] at e
   rw [map_cons,oZ (λq=>z (Sum.inr.inj q).symm)]
   exact ih e
theorem FTs.keys{K:PySem.W.Frag}{F:List (Str×List V)}{l:List (Str×Addr)}(t:FTs K F l):l.map (·.1)=F.map (·.1):=by
 induction t with
 | nil=>rfl
 | cons _ _ ih=>rw [map_cons,map_cons,ih]
theorem FEs.dict{w:World}(P:Program){es:List DictEntry}{l:List (Str×Addr)}(t:FEs w es l):(∀e∈es,∃k,(cN P w).is k e.key=true/\e.hash=(cN P w).hash k)/\Pairs (cN P w) es (l.map λp=>((.inr p.1:Key),Value.ref p.2)):=by
 induction t with
 | nil=>exact⟨λe he=>absurd he not_mem_nil,.nil⟩
 | @cons x t u es l r ih=>
  obtain⟨h1,h2⟩:=ih
  have ki:(cN P w).is (.inr x) (.str x u)=true:=by
   show Value.isStrOf x (.str x u)=true
   simp [Value.isStrOf]
  refine⟨λe he=>?_,.cons ki rfl h2⟩
  rcases List.mem_cons.mp he with rfl | he
  ·exact⟨.inr x,ki,rfl⟩
  ·exact h1 e he
theorem vQ{w:World}{K:PySem.W.Frag}{es:List DictEntry}:∀{F:List (Str×List V)},
 (es.map λ(e:DictEntry)=>(e.hash,(match e.key with | Value.str x _=>some x | _=>none),(match e.val with | Value.ref t=>HD.jt K t | _=>none)))=(F.map λp=>(jY w (.inr p.1),some p.1,some (Value.type "tuple",p.2.map some)))->
 (∀p∈F,p.2.length<=1000)->∃l,FEs w es l/\FTs K F l:=by
 induction es with
 | nil=>
  intro F h _
  cases F with
  | nil=>exact⟨[],.nil,.nil⟩
  | cons _ _=>cases h
 | cons e es ih=>
  intro F h hl
  cases F with
  | nil=>cases h
  | cons p F=>
   obtain⟨x,fs⟩:=p
   rw [map_cons,map_cons] at h
   obtain⟨h1,h2⟩:=List.cons.inj h
   obtain⟨l,a,b⟩:=ih h2 λp hp=>hl p (mem_cons_of_mem _ hp)
   obtain⟨hs,ky,vl⟩:=e
   simp only [Prod.mk.injEq] at h1
   obtain⟨rfl,hk,hv⟩:=h1
   cases ky<;>simp only [reduceCtorEq,Option.some.injEq] at hk
   subst hk
   cases vl<;>simp only [reduceCtorEq] at hv
   rename_i t
   exact⟨(_,t)::l,.cons a,.cons (λH=>HD.u0 hv (le_trans (hl _ mem_cons_self) (by decide)) H) b⟩
theorem qI{P:Program}{w:World}{K:PySem.W.Frag}{a:Addr}{F:List (Str×List V)}(e:HD.hG K a=some (Value.type "dict",none, #[],F.map λp=>(jY w (.inr p.1),some p.1,some (Value.type "tuple",p.2.map some))))(ns:(a==sysModules)=false)(nd:((F.map (·.1)).map (Sum.inr:Str->Key)).Nodup)(lf:∀p∈F,p.2.length<=1000):
 ∃kvs,KD P w K a kvs/\(∀x fs,F.lookup x=some fs->∃t,cP kvs (.inr x)=some (.ref t)/\∀H:Hp,SqT K H t fs)/\∀x,F.lookup x=none->cP kvs (.inr x)=none:=by
 unfold HD.hG at e
 split at e
 ·rename_i c d es n sl hk
  simp only [Option.some.injEq,Prod.mk.injEq] at e
  obtain⟨rfl,rfl,rfl,e⟩:=e
  obtain⟨l,fe,ft⟩:=vQ e lf
  obtain⟨h1,h2⟩:=fe.dict P
  refine⟨l.map λp=>((.inr p.1:Key),V.ref p.2),⟨_,l.map λp=>((.inr p.1:Key),Value.ref p.2),hk,ns,?_,λh hh=>⟨_,es,n,hh,⟨rfl,rfl,rfl⟩,rfl,λe he=>h1 e (Array.mem_toList_iff.mpr he),h2,?_⟩⟩,λx fs e=>ft.get e,λx e=>ft.no e⟩
  ·clear h1 h2 fe ft hk ns e
   induction l with
   | nil=>exact .nil
   | cons p l ih=>exact .cons ⟨rfl,rfl⟩ ih
  ·have e:((l.map λp=>((.inr p.1:Key),Value.ref p.2)).map (·.1))=(l.map (·.1)).map (Sum.inr:Str->Key):=by rw [map_map,map_map];rfl
   rw [e,ft.keys]
   exact nd
 ·cases e
def fixV:List (Str×List V):=fixL.map λp=>(p.1,p.2.map V.str)
def tailV:List (Str×List V):=tailL.map λp=>(p.1,[.str p.2.1,.int p.2.2.1,.int p.2.2.2])
theorem fN{α β:Type}(f:α->β)(x:Str):∀l:List (Str×α),(l.map λp=>(p.1,f p.2)).lookup x=(l.lookup x).map f
 | []=>rfl
 | (y,a)::l=>by
  rw [map_cons,lookup_cons,lookup_cons,fN f x l]
  cases (x==y)<;>rfl
theorem CD{P:Program}{w:World}{K:PySem.W.Frag}{a:Addr}(e:HD.hG K a=some (Value.type "dict",none, #[],fixV.map λp=>(jY w (.inr p.1),some p.1,some (Value.type "tuple",p.2.map some))))(ns:(a==sysModules)=false):FxA P w K a:=by
 obtain⟨kvs,kd,g,n⟩:=qI (P:=P) e ns (by decide +kernel) (by decide +kernel)
 refine⟨kvs,kd,λx l h=>g x _ ?_,λx h=>n x ?_⟩
 ·rw [fixV,fN (λl:List Str=>l.map V.str),h];rfl
 ·rw [fixV,fN (λl:List Str=>l.map V.str),h];rfl
theorem CF{P:Program}{w:World}{K:PySem.W.Frag}{a:Addr}(e:HD.hG K a=some (Value.type "dict",none, #[],tailV.map λp=>(jY w (.inr p.1),some p.1,some (Value.type "tuple",p.2.map some))))(ns:(a==sysModules)=false):TlA P w K a:=by
 obtain⟨kvs,kd,g,n⟩:=qI (P:=P) e ns (by decide +kernel) (by decide +kernel)
 refine⟨kvs,kd,λx k i j h=>g x _ ?_,λx h=>n x ?_⟩
 ·rw [tailV,fN (λl:Str×Nat×Nat=>[V.str l.1,.int l.2.1,.int l.2.2]),h];rfl
 ·rw [tailV,fN (λl:Str×Nat×Nat=>[V.str l.1,.int l.2.1,.int l.2.2]),h];rfl
def clsL:List Str:=["NoRow","NoPlace","TooLong","TooDeep","NoMeasure","Twice","Open","NoLog","NoForm","NoneYet","NoThing"]
def Cof(K:PySem.W.Frag)(i:Nat):Addr:=HD.adr K (clsL.getD i "")
theorem dN{n:Nat}{f:Nat->Bool}(h:(List.range n).all f=true){i:Nat}(hi:i<n):f i=true:=List.all_eq_true.mp h i (List.mem_range.mpr hi)
theorem zk{K:PySem.W.Frag}{B:Addr}(h1:((List.range 7).all λi=>HD.kI K (Cof K i))=true)(h2:((List.range 7).all λi=>PySem.W.exmOne K (.ref (Cof K i)) (.ref B)==some true)=true)(h3:((List.range 7).all λi=>kitOne K (.ref (Cof K i)) (.type "ValueError")==some true)=true)(h4:((List.range 7).all λi=>(List.range 11).all λj=>kitOne K (.ref (Cof K i)) (.ref (Cof K j))==some (decide (j=i)))=true):Kcs K (Cof K) B:=
 ⟨λi hi=>HD.u1 (dN h1 (by lia)),λi hi=>beq_iff_eq.mp (dN h2 (by lia)),λi hi=>beq_iff_eq.mp (dN h3 (by lia)),λi hi j hj=>beq_iff_eq.mp (dN (dN h4 (i:=i) (by lia)) (by lia))⟩
def sees:List Nat:=[23,24,25,26,27,28,29,30,31,40,41,42,43,44,45,46,47,48,49,50,52,53,54,55,56,57,58,59,60,61,62,63,64,65,66,67,68,69,70,71,72]
noncomputable def see(p:Program)(K:PySem.W.Frag):=(sees.map λi=>HD.jr K (p.main.body.getD i (.Pass ⟨0,0,0,0⟩)),HD.All [HD.fg K "len",
 HD.fg K "all",
 HD.fg K "int",
 HD.fg K "range",
 HD.fg K "str",
 HD.fg K "isinstance",
 HD.fg K "tuple",
 HD.fg K "zip",
 HD.fg K "max",
 HD.fg K "set",
 HD.fg K "enumerate",
 HD.fg K "list",
 HD.fg K "ValueError",
 HD.isInt K "MOST_LETTERS" (8),
 HD.isInt K "MOST_FIGURES" (6),
 HD.isInt K "MOST_SIGNS" (60),
 HD.isInt K "MOST_BRACKETS" (5),
 HD.isInt K "MOST_ROWS" (120),
 HD.isInt K "MOST_DEEP" (6),
 HD.isInt K "MOST_PIECES" (9),
 HD.isInt K "MOST_LEVEL" (999),
 HD.isInt K "MOST_DRAWN" (999),
 HD.kH K "LETTERS" "abcdefghijklmnopqrstuvwxyz",
 HD.kH K "FIGURES" "0123456789",
 HD.kH K "SIGNS" "+-*()",
 HD.kH K "LAST" "",
 HD.dq K "NO_NAMES",
 HD.dq K "FIXED",
 !(HD.adr K "FIXED" ==sysModules),
 HD.dq K "TAILS",
 !(HD.adr K "TAILS" ==sysModules),
 HD.dq K "NoRow",
 HD.dq K "NoPlace",
 HD.dq K "TooLong",
 HD.dq K "TooDeep",
 HD.dq K "NoMeasure",
 HD.dq K "Twice",
 HD.dq K "Open",
 HD.dq K "NoLog",
 HD.dq K "NoForm",
 HD.dq K "NoneYet",
 HD.dq K "NoThing",
 HD.dq K "RunError",
 ((List.range 7).all λi=>PySem.W.excIn K (Cof K i) veM "ValueError.__new__"),
 ((List.range 7).all λi=>HD.kI K (Cof K i)),
 ((List.range 7).all λi=>PySem.W.exmOne K (.ref (Cof K i)) (.ref (HD.adr K "RunError"))==some true),
 ((List.range 7).all λi=>kitOne K (.ref (Cof K i)) (.type "ValueError")==some true),
 ((List.range 7).all λi=>(List.range 11).all λj=>kitOne K (.ref (Cof K i)) (.ref (Cof K j))==some (decide (j=i)))],
 HD.jt K (HD.adr K "NO_NAMES"),
 HD.hG K (HD.adr K "FIXED"),
 HD.hG K (HD.adr K "TAILS"))
noncomputable def saw(p:Program)(w:World):=(sees.map λi=>HD.kG (HD.cO (p.main.body.getD i (.Pass ⟨0,0,0,0⟩))) (HD.cO (p.main.body.getD i (.Pass ⟨0,0,0,0⟩))) (p.main.body.getD i (.Pass ⟨0,0,0,0⟩)),true,
 (some (Value.type "tuple",K07.noN.map some):Option (Value×List (Option V))),
 (some (Value.type "dict",none, #[],fixV.map λp=>(jY w (.inr p.1),some p.1,some (Value.type "tuple",p.2.map some))):Option (Value×Option Addr×Array (Option Value)×List (Int×Option Str×Option (Value×List (Option V))))),
 (some (Value.type "dict",none, #[],tailV.map λp=>(jY w (.inr p.1),some p.1,some (Value.type "tuple",p.2.map some))):Option (Value×Option Addr×Array (Option Value)×List (Int×Option Str×Option (Value×List (Option V))))))
theorem CG{l:PySem.W.OpenLaw}{w:World}{K:PySem.W.Frag}{h:Heap}{mg:Str->Option Value}{fa:Addr}(S:see PySem.Challenge.pw_rerunyard_k07_rows_of_no_form K=saw PySem.Challenge.pw_rerunyard_k07_rows_of_no_form w)(X:K.In h)(G:h.Ns mainGlobals mg)(hfa:mg "law" =some (.ref fa)):
 ∃fd:FuncData,(∀(s:Shared) (v:Value),BindsTo s fd ⟨[v],[]⟩ [("script",v)])/\∀base:Heap,K.In base->base.Ns mainGlobals mg->fP l.prog w K mg base CX0 27 fa fd ["script"] (oB K):=by
 have E:=congrArg Prod.fst S
 have B:=congrArg (λx=>x.2.1) S
 have C0:=congrArg (λx=>x.2.2.1) S
 have C1:=congrArg (λx=>x.2.2.2.1) S
 have C2:=congrArg (λx=>x.2.2.2.2) S
 clear S
 obtain⟨e,E⟩:=HD.aK E
 have A_is_name:DefAt K mg "is_name" kh ["word"]:=HD.aE X G e rfl λ_ _ _ _ _ _ us hl=>L2.len1 us hl (λ_=>rfl)
 clear e
 obtain⟨e,E⟩:=HD.aK E
 have A_is_number:DefAt K mg "is_number" iU ["word"]:=HD.aE X G e rfl λ_ _ _ _ _ _ us hl=>L2.len1 us hl (λ_=>rfl)
 clear e
 obtain⟨e,E⟩:=HD.aK E
 have A_is_whole:DefAt K mg "is_whole" jI ["word","most"]:=HD.aE X G e rfl λ_ _ _ _ _ _ us hl=>L2.len2 us hl (λ_ _=>rfl)
 clear e
 obtain⟨e,E⟩:=HD.aK E
 have A_expression:DefAt K mg "expression" ir ["word"]:=HD.aE X G e rfl λ_ _ _ _ _ _ us hl=>L2.len1 us hl (λ_=>rfl)
 clear e
 obtain⟨e,E⟩:=HD.aK E
 have A_tokens_of:DefAt K mg "tokens_of" iV ["word"]:=HD.aE X G e rfl λ_ _ _ _ _ _ us hl=>L2.len1 us hl (λ_=>rfl)
 clear e
 obtain⟨e,E⟩:=HD.aK E
 have A_read_sum:DefAt K mg "read_sum" gT ["tokens","at","depth"]:=HD.aE X G e rfl λ_ _ _ _ _ _ us hl=>L2.len3 us hl (λ_ _ _=>rfl)
 clear e
 obtain⟨e,E⟩:=HD.aK E
 have A_read_term:DefAt K mg "read_term" gz ["tokens","at","depth"]:=HD.aE X G e rfl λ_ _ _ _ _ _ us hl=>L2.len3 us hl (λ_ _ _=>rfl)
 clear e
 obtain⟨e,E⟩:=HD.aK E
 have A_read_factor:DefAt K mg "read_factor" eW ["tokens","at","depth"]:=HD.aE X G e rfl λ_ _ _ _ _ _ us hl=>L2.len3 us hl (λ_ _ _=>rfl)
 clear e
 obtain⟨e,E⟩:=HD.aK E
 have A_leaf:DefAt K mg "leaf" pU ["token"]:=HD.aE X G e rfl λ_ _ _ _ _ _ us hl=>L2.len1 us hl (λ_=>rfl)
 clear e
 obtain⟨e,E⟩:=HD.aK E
 have A_read:DefAt K mg "read" pV ["text"]:=HD.aE X G e rfl λ_ _ _ _ _ _ us hl=>L2.len1 us hl (λ_=>rfl)
 clear e
 obtain⟨e,E⟩:=HD.aK E
 have A_parts_of:DefAt K mg "parts_of" jJ ["row"]:=HD.aE X G e rfl λ_ _ _ _ _ _ us hl=>L2.len1 us hl (λ_=>rfl)
 clear e
 obtain⟨e,E⟩:=HD.aK E
 have A_kinds_due:DefAt K mg "kinds_due" iW ["words"]:=HD.aE X G e rfl λ_ _ _ _ _ _ us hl=>L2.len1 us hl (λ_=>rfl)
 clear e
 obtain⟨e,E⟩:=HD.aK E
 have A_part:DefAt K mg "part" pW ["kind","word"]:=HD.aE X G e rfl λ_ _ _ _ _ _ us hl=>L2.len2 us hl (λ_ _=>rfl)
 clear e
 obtain⟨e,E⟩:=HD.aK E
 have A_check_place:DefAt K mg "check_place" gI ["k","word","program","bodies"]:=HD.aE X G e rfl λ_ _ _ _ _ _ us hl=>L2.len4 us hl (λ_ _ _ _=>rfl)
 clear e
 obtain⟨e,E⟩:=HD.aK E
 have A_check_depth:DefAt K mg "check_depth" gJ ["k","word","bodies"]:=HD.aE X G e rfl λ_ _ _ _ _ _ us hl=>L2.len3 us hl (λ_ _ _=>rfl)
 clear e
 obtain⟨e,E⟩:=HD.aK E
 have A_check_measure:DefAt K mg "check_measure" fG ["k","parts"]:=HD.aE X G e rfl λ_ _ _ _ _ _ us hl=>L2.len2 us hl (λ_ _=>rfl)
 clear e
 obtain⟨e,E⟩:=HD.aK E
 have A_check_twice:DefAt K mg "check_twice" gL ["k","parts","program"]:=HD.aE X G e rfl λ_ _ _ _ _ _ us hl=>L2.len3 us hl (λ_ _ _=>rfl)
 clear e
 obtain⟨e,E⟩:=HD.aK E
 have A_lay_down:DefAt K mg "lay_down" jK ["k","parts","program","bodies"]:=HD.aE X G e rfl λ_ _ _ _ _ _ us hl=>L2.len4 us hl (λ_ _ _ _=>rfl)
 clear e
 obtain⟨e,E⟩:=HD.aK E
 have A_statement_of:DefAt K mg "statement_of" fR ["k","parts"]:=HD.aE X G e rfl λ_ _ _ _ _ _ us hl=>L2.len2 us hl (λ_ _=>rfl)
 clear e
 obtain⟨e,E⟩:=HD.aK E
 have A_lay_statement:DefAt K mg "lay_statement" fH ["statement","bodies"]:=HD.aE X G e rfl λ_ _ _ _ _ _ us hl=>L2.len2 us hl (λ_ _=>rfl)
 clear e
 obtain⟨e,E⟩:=HD.aK E
 have A__law_cell_at:DefAt K mg "_law_cell_at" fS ["script","k"]:=HD.aE X G e rfl λ_ _ _ _ _ _ us hl=>L2.len2 us hl (λ_ _=>rfl)
 clear e
 obtain⟨e,E⟩:=HD.aK E
 have A__law_stir:DefAt K mg "_law_stir" iX ["cell","k"]:=HD.aE X G e rfl λ_ _ _ _ _ _ us hl=>L2.len2 us hl (λ_ _=>rfl)
 clear e
 obtain⟨e,E⟩:=HD.aK E
 have A__law_barred:DefAt K mg "_law_barred" gM []:=HD.aE X G e rfl λ_ _ _ _ _ _ us hl=>match us,hl with | [],_=>rfl
 clear e
 obtain⟨e,E⟩:=HD.aK E
 have A__law_names:DefAt K mg "_law_names" iu ["head","k","many"]:=HD.aE X G e rfl λ_ _ _ _ _ _ us hl=>L2.len3 us hl (λ_ _ _=>rfl)
 clear e
 obtain⟨e,E⟩:=HD.aK E
 have A__law_name:DefAt K mg "_law_name" iY ["number"]:=HD.aE X G e rfl λ_ _ _ _ _ _ us hl=>L2.len1 us hl (λ_=>rfl)
 clear e
 obtain⟨e,E⟩:=HD.aK E
 have A__law_leaf:DefAt K mg "_law_leaf" iZ ["number"]:=HD.aE X G e rfl λ_ _ _ _ _ _ us hl=>L2.len1 us hl (λ_=>rfl)
 clear e
 obtain⟨e,E⟩:=HD.aK E
 have A__law_tree:DefAt K mg "_law_tree" ja ["cell","k","deep"]:=HD.aE X G e rfl λ_ _ _ _ _ _ us hl=>L2.len3 us hl (λ_ _ _=>rfl)
 clear e
 obtain⟨e,E⟩:=HD.aK E
 have A__law_worded:DefAt K mg "_law_worded" gN ["tree","more"]:=HD.aE X G e rfl λ_ _ _ _ _ _ us hl=>L2.len2 us hl (λ_ _=>rfl)
 clear e
 obtain⟨e,E⟩:=HD.aK E
 have A__law_deepest:DefAt K mg "_law_deepest" fU ["word"]:=HD.aE X G e rfl λ_ _ _ _ _ _ us hl=>L2.len1 us hl (λ_=>rfl)
 clear e
 obtain⟨e,E⟩:=HD.aK E
 have A__law_expr:DefAt K mg "_law_expr" jb ["cell","k"]:=HD.aE X G e rfl λ_ _ _ _ _ _ us hl=>L2.len2 us hl (λ_ _=>rfl)
 clear e
 obtain⟨e,E⟩:=HD.aK E
 have A__law_good:DefAt K mg "_law_good" jc ["head","k","name"]:=HD.aE X G e rfl λ_ _ _ _ _ _ us hl=>L2.len3 us hl (λ_ _ _=>rfl)
 clear e
 obtain⟨e,E⟩:=HD.aK E
 have A__law_goods:DefAt K mg "_law_goods" iw ["head"]:=HD.aE X G e rfl λ_ _ _ _ _ _ us hl=>L2.len1 us hl (λ_=>rfl)
 clear e
 obtain⟨e,E⟩:=HD.aK E
 have A__law_plain:DefAt K mg "_law_plain" ix ["cell","k"]:=HD.aE X G e rfl λ_ _ _ _ _ _ us hl=>L2.len2 us hl (λ_ _=>rfl)
 clear e
 obtain⟨e,E⟩:=HD.aK E
 have A__law_opener:DefAt K mg "_law_opener" gO ["cell","k"]:=HD.aE X G e rfl λ_ _ _ _ _ _ us hl=>L2.len2 us hl (λ_ _=>rfl)
 clear e
 obtain⟨e,E⟩:=HD.aK E
 have A__law_hand:DefAt K mg "_law_hand" jd ["hands","head","opened"]:=HD.aE X G e rfl λ_ _ _ _ _ _ us hl=>L2.len3 us hl (λ_ _ _=>rfl)
 clear e
 obtain⟨e,E⟩:=HD.aK E
 have A__law_row:DefAt K mg "_law_row" jL ["cell","k","opened","most"]:=HD.aE X G e rfl λ_ _ _ _ _ _ us hl=>L2.len4 us hl (λ_ _ _ _=>rfl)
 clear e
 obtain⟨e,E⟩:=HD.aK E
 have A__law_built:DefAt K mg "_law_built" iy ["script","head"]:=HD.aE X G e rfl λ_ _ _ _ _ _ us hl=>L2.len2 us hl (λ_ _=>rfl)
 clear e
 obtain⟨e,E⟩:=HD.aK E
 have A__law_bad:DefAt K mg "_law_bad" jM ["cell"]:=HD.aE X G e rfl λ_ _ _ _ _ _ us hl=>L2.len1 us hl (λ_=>rfl)
 clear e
 obtain⟨e,E⟩:=HD.aK E
 have A__law_refused:DefAt K mg "_law_refused" fV ["rows"]:=HD.aE X G e rfl λ_ _ _ _ _ _ us hl=>L2.len1 us hl (λ_=>rfl)
 clear e
 obtain⟨e,E⟩:=HD.aK E
 have A__law_spoilt:DefAt K mg "_law_spoilt" gP ["row","kind","cell"]:=HD.aE X G e rfl λ_ _ _ _ _ _ us hl=>L2.len3 us hl (λ_ _ _=>rfl)
 clear e
 obtain⟨e,E⟩:=HD.aK E
 obtain⟨fd,FL,hbi⟩:=HD.yD (st:=tF) (x:="law") (y:="script") X G e rfl hfa λ_ _ _ _ _ _ s v=>.of_eq rfl
 clear e
 clear E
 obtain⟨b,B⟩:=HD.all_cons B
 have hlen:=HD.eO X G b
 clear b
 obtain⟨b,B⟩:=HD.all_cons B
 have hall:=HD.eO X G b
 clear b
 obtain⟨b,B⟩:=HD.all_cons B
 have hint:=HD.eO X G b
 clear b
 obtain⟨b,B⟩:=HD.all_cons B
 have hrange:=HD.eO X G b
 clear b
 obtain⟨b,B⟩:=HD.all_cons B
 have hstr:=HD.eO X G b
 clear b
 obtain⟨b,B⟩:=HD.all_cons B
 have hisinstance:=HD.eO X G b
 clear b
 obtain⟨b,B⟩:=HD.all_cons B
 have htuple:=HD.eO X G b
 clear b
 obtain⟨b,B⟩:=HD.all_cons B
 have hzip:=HD.eO X G b
 clear b
 obtain⟨b,B⟩:=HD.all_cons B
 have hmax:=HD.eO X G b
 clear b
 obtain⟨b,B⟩:=HD.all_cons B
 have hset:=HD.eO X G b
 clear b
 obtain⟨b,B⟩:=HD.all_cons B
 have henumerate:=HD.eO X G b
 clear b
 obtain⟨b,B⟩:=HD.all_cons B
 have hlist:=HD.eO X G b
 clear b
 obtain⟨b,B⟩:=HD.all_cons B
 have hValueError:=HD.eO X G b
 clear b
 obtain⟨b,B⟩:=HD.all_cons B
 obtain⟨tk_MOST_LETTERS,g_MOST_LETTERS⟩:=HD.fF X G b
 clear b
 obtain⟨b,B⟩:=HD.all_cons B
 obtain⟨tk_MOST_FIGURES,g_MOST_FIGURES⟩:=HD.fF X G b
 clear b
 obtain⟨b,B⟩:=HD.all_cons B
 obtain⟨tk_MOST_SIGNS,g_MOST_SIGNS⟩:=HD.fF X G b
 clear b
 obtain⟨b,B⟩:=HD.all_cons B
 obtain⟨tk_MOST_BRACKETS,g_MOST_BRACKETS⟩:=HD.fF X G b
 clear b
 obtain⟨b,B⟩:=HD.all_cons B
 obtain⟨tk_MOST_ROWS,g_MOST_ROWS⟩:=HD.fF X G b
 clear b
 obtain⟨b,B⟩:=HD.all_cons B
 obtain⟨tk_MOST_DEEP,g_MOST_DEEP⟩:=HD.fF X G b
 clear b
 obtain⟨b,B⟩:=HD.all_cons B
 obtain⟨tk_MOST_PIECES,g_MOST_PIECES⟩:=HD.fF X G b
 clear b
 obtain⟨b,B⟩:=HD.all_cons B
 obtain⟨tk_MOST_LEVEL,g_MOST_LEVEL⟩:=HD.fF X G b
 clear b
 obtain⟨b,B⟩:=HD.all_cons B
 obtain⟨tk_MOST_DRAWN,g_MOST_DRAWN⟩:=HD.fF X G b
 clear b
 obtain⟨b,B⟩:=HD.all_cons B
 obtain⟨tk_LETTERS,g_LETTERS⟩:=HD.ml X G b
 clear b
 obtain⟨b,B⟩:=HD.all_cons B
 obtain⟨tk_FIGURES,g_FIGURES⟩:=HD.ml X G b
 clear b
 obtain⟨b,B⟩:=HD.all_cons B
 obtain⟨tk_SIGNS,g_SIGNS⟩:=HD.ml X G b
 clear b
 obtain⟨b,B⟩:=HD.all_cons B
 obtain⟨tk_LAST,g_LAST⟩:=HD.ml X G b
 clear b
 obtain⟨b,B⟩:=HD.all_cons B
 have gl_NN:=PySem.W.mg_of X G (HD.cR b)
 clear b
 obtain⟨b,B⟩:=HD.all_cons B
 have gl_Fx:=PySem.W.mg_of X G (HD.cR b)
 clear b
 obtain⟨b,B⟩:=HD.all_cons B
 have ns_Fx:(HD.adr K "FIXED" ==sysModules)=false:=by simpa using b
 clear b
 obtain⟨b,B⟩:=HD.all_cons B
 have gl_Tl:=PySem.W.mg_of X G (HD.cR b)
 clear b
 obtain⟨b,B⟩:=HD.all_cons B
 have ns_Tl:(HD.adr K "TAILS" ==sysModules)=false:=by simpa using b
 clear b
 obtain⟨b,B⟩:=HD.all_cons B
 have N_NoRow:Nmd mg "NoRow" (Cof K 0):=⟨PySem.W.mg_of X G (HD.cR b)⟩
 clear b
 obtain⟨b,B⟩:=HD.all_cons B
 have N_NoPlace:Nmd mg "NoPlace" (Cof K 1):=⟨PySem.W.mg_of X G (HD.cR b)⟩
 clear b
 obtain⟨b,B⟩:=HD.all_cons B
 have N_TooLong:Nmd mg "TooLong" (Cof K 2):=⟨PySem.W.mg_of X G (HD.cR b)⟩
 clear b
 obtain⟨b,B⟩:=HD.all_cons B
 have N_TooDeep:Nmd mg "TooDeep" (Cof K 3):=⟨PySem.W.mg_of X G (HD.cR b)⟩
 clear b
 obtain⟨b,B⟩:=HD.all_cons B
 have N_NoMeasure:Nmd mg "NoMeasure" (Cof K 4):=⟨PySem.W.mg_of X G (HD.cR b)⟩
 clear b
 obtain⟨b,B⟩:=HD.all_cons B
 have N_Twice:Nmd mg "Twice" (Cof K 5):=⟨PySem.W.mg_of X G (HD.cR b)⟩
 clear b
 obtain⟨b,B⟩:=HD.all_cons B
 have N_Open:Nmd mg "Open" (Cof K 6):=⟨PySem.W.mg_of X G (HD.cR b)⟩
 clear b
 obtain⟨b,B⟩:=HD.all_cons B
 have N_NoLog:Nmd mg "NoLog" (Cof K 7):=⟨PySem.W.mg_of X G (HD.cR b)⟩
 clear b
 obtain⟨b,B⟩:=HD.all_cons B
 have N_NoForm:Nmd mg "NoForm" (Cof K 8):=⟨PySem.W.mg_of X G (HD.cR b)⟩
 clear b
 obtain⟨b,B⟩:=HD.all_cons B
 have N_NoneYet:Nmd mg "NoneYet" (Cof K 9):=⟨PySem.W.mg_of X G (HD.cR b)⟩
 clear b
 obtain⟨b,B⟩:=HD.all_cons B
 have N_NoThing:Nmd mg "NoThing" (Cof K 10):=⟨PySem.W.mg_of X G (HD.cR b)⟩
 clear b
 obtain⟨b,B⟩:=HD.all_cons B
 have N_RunError:Nmd mg "RunError" (HD.adr K "RunError"):=⟨PySem.W.mg_of X G (HD.cR b)⟩
 clear b
 obtain⟨b,B⟩:=HD.all_cons B
 have ex0:((List.range 7).all λi=>PySem.W.excIn K (Cof K i) veM "ValueError.__new__")=true:=b
 clear b
 obtain⟨b,B⟩:=HD.all_cons B
 have kc1:=b
 clear b
 obtain⟨b,B⟩:=HD.all_cons B
 have kc2:=b
 clear b
 obtain⟨b,B⟩:=HD.all_cons B
 have kc3:=b
 clear b
 obtain⟨b,B⟩:=HD.all_cons B
 have kc:=zk kc1 kc2 kc3 b
 clear b
 clear B
 have qNN:∀H:Hp,SqT K H (HD.adr K "NO_NAMES") K07.noN:=HD.u0 C0 (by decide)
 have fx:FxA l.prog w K (HD.adr K "FIXED"):=CD C1 ns_Fx
 have tl:TlA l.prog w K (HD.adr K "TAILS"):=CF C2 ns_Tl
 refine⟨fd,hbi,λbase _ _=>?_⟩
 exact by
  have O_NoRow:cB K mg "NoRow" (Cof K 0):=⟨N_NoRow.gl,dN ex0 (by decide)⟩
  have O_NoPlace:cB K mg "NoPlace" (Cof K 1):=⟨N_NoPlace.gl,dN ex0 (by decide)⟩
  have O_TooLong:cB K mg "TooLong" (Cof K 2):=⟨N_TooLong.gl,dN ex0 (by decide)⟩
  have O_TooDeep:cB K mg "TooDeep" (Cof K 3):=⟨N_TooDeep.gl,dN ex0 (by decide)⟩
  have O_NoMeasure:cB K mg "NoMeasure" (Cof K 4):=⟨N_NoMeasure.gl,dN ex0 (by decide)⟩
  have O_Twice:cB K mg "Twice" (Cof K 5):=⟨N_Twice.gl,dN ex0 (by decide)⟩
  have O_Open:cB K mg "Open" (Cof K 6):=⟨N_Open.gl,dN ex0 (by decide)⟩
  have Gname:=tG (P:=l.prog) (w:=w) (base:=base) A_is_name g_MOST_LETTERS g_LETTERS gl_NN qNN hlen hall
  have Gnum:=pY (P:=l.prog) (w:=w) (base:=base) A_is_number g_MOST_FIGURES (qS A_is_whole g_FIGURES hlen hall)
  have Gleaf:=yG A_leaf Gname Gnum O_NoRow hint
  have Gexpr:=oo A_expression g_MOST_SIGNS g_LAST hlen O_NoRow (qc A_tokens_of g_SIGNS g_LAST) (rM A_read_factor A_read_term A_read_sum g_MOST_BRACKETS O_NoRow Gleaf 5 (le_refl _))
  have Gpart:=yJ A_part Gexpr Gname Gnum hint O_NoRow
  have Gkd:=wI (base:=base) A_kinds_due gl_Fx gl_Tl fx tl hlen O_NoRow
  have Gpo:=wJ A_parts_of Gkd Gpart hzip
  have Gpc:=wK (P:=l.prog) (w:=w) (base:=base) A_check_place hlen O_NoPlace
  have Gdp:=wL (P:=l.prog) (w:=w) (base:=base) A_check_depth hlen g_MOST_DEEP O_TooDeep
  have Gms:=yK (P:=l.prog) (w:=w) (base:=base) A_check_measure hmax g_MOST_PIECES g_MOST_LEVEL g_MOST_DRAWN O_NoMeasure
  have Gtw:=wM (P:=l.prog) (w:=w) (base:=base) A_check_twice hlen hset O_Twice
  have Gso:=yL (P:=l.prog) (w:=w) (base:=base) A_statement_of htuple
  have Gls:=BH (P:=l.prog) (w:=w) (base:=base) A_lay_statement
  have Gld:=yX A_lay_down Gls Gso
  have Grd:=za (C:=Cof K) A_read hlen henumerate g_MOST_ROWS O_TooLong O_Open Gpo Gpc Gdp Gms Gtw Gld
  have Gstir:=yO (P:=l.prog) (w:=w) (base:=base) A__law_stir
  have Gnm:=Di (P:=l.prog) (w:=w) (base:=base) A__law_name
  have Glf:=Dj A__law_leaf Gnm
  have Gtr:=yP A__law_tree Gstir Glf 4
  have Gwd:=vo (P:=l.prog) (w:=w) (base:=base) A__law_worded hlen hstr 4
  have Gde:=Dm (P:=l.prog) (w:=w) (base:=base) A__law_deepest hint hmax
  have Gex:=Do A__law_expr hlen Gstir Gtr Gwd Gde
  have Gba:=vt (P:=l.prog) (w:=w) (base:=base) A__law_barred
  have Gns:=Dr A__law_names hrange Gstir Gba
  have Gop:=Dx A__law_opener Gstir Gex
  have Gpl:=Dy A__law_plain hrange Gstir Gnm Gex
  have Ggo:=Dz A__law_good hrange hstr Gstir
  have Ggd:=DA A__law_goods hrange hlen Gstir Gns Ggo
  have Gha:=DE A__law_hand hlen Gstir Gns
  have Gro:=DH A__law_row hlen hlist Gstir Gop Gpl
  have Gbu:=DJ A__law_built hlen hint Gstir Ggd Gha Gro
  have Gca:=ze (P:=l.prog) (w:=w) (base:=base) A__law_cell_at hlen
  have Gbd:=Cw A__law_bad Gstir hlen
  have Gsp:=CB A__law_spoilt hlen Gstir
  have Gref:=tZ A__law_refused hisinstance hValueError kc N_RunError N_NoRow N_NoPlace N_TooLong N_TooDeep N_NoMeasure N_Twice N_Open N_NoLog N_NoForm N_NoneYet N_NoThing Grd
  exact CC FL hlen hrange Gca Gbu Gbd Gsp Gref
set_option maxRecDepth 1000000 in
theorem zm(h:PySem.Challenge.rw_rerunyard_k07_rows_of_no_form.row.wellSaid=true->PySem.Challenge.rw_rerunyard_k07_rows_of_no_form.row.Holds):PySem.Challenge.rw_rerunyard_k07_rows_of_no_form.Holds:=PySem.W.holds_law (by rw [PySem.W.Fast.te9446332074065402090];kernel_rfl) h
abbrev t5(p:Program)(w:World):Prop:=∀os:OsState,HD.tf p w 200 (HD.tu p (PySem.W.view p [72]) (HD.iq p "law") (λ_=>true) (see p) w) 40 (HD.pP w os) (PySem.W.topStub p)=some (true,PySem.W.openGood (PySem.W.view p [72]) (HD.iq p "law"),saw p w)
theorem DP(w:World):t5 PySem.Challenge.pw_rerunyard_k07_rows_of_no_form (w.withFollow "special-get-raises" false):=λos=>by kernel_rfl
theorem DQ(w:World):t5 PySem.Challenge.pw_rerunyard_k07_rows_of_no_form (w.withFollow "special-get-raises" true):=λos=>by kernel_rfl
theorem Eh(w:World):t5 PySem.Challenge.pw_rerunyard_k07_rows_of_no_form w:=(PySem.W.byRow2 "special-get-raises" (P:=λw=>t5 PySem.Challenge.pw_rerunyard_k07_rows_of_no_form w) DP DQ) w
end K07.D
open PySem PySem.W PyProof.Rows
set_option maxRecDepth 100000 in
set_option maxHeartbeats 0 in
theorem PySem.Challenge.cw_rerunyard_k07_rows_of_no_form_holds : PySem.Challenge.rw_rerunyard_k07_rows_of_no_form.Holds := by
 refine K07.D.zm λsaid=>?_
 refine HD.uY (l:=PySem.Challenge.rw_rerunyard_k07_rows_of_no_form) (i:=72) (N:=8000) (m:=200) (n:=40) (see:=K07.D.see PySem.Challenge.pw_rerunyard_k07_rows_of_no_form) (saw:=K07.D.saw PySem.Challenge.pw_rerunyard_k07_rows_of_no_form) said rfl (λ_=>rfl) rfl rfl K07.D.Eh (by rfl) (by rfl) (by rfl) (by decide +kernel) ⟨rfl,rfl,rfl,rfl,rfl,by decide +kernel⟩ ?hw ?hc
 case hw=>w_witness2
 case hc=>exact HD.wC (l:=PySem.Challenge.rw_rerunyard_k07_rows_of_no_form) (n:=63) (k:=27) (x:="script") (CX:=L2.CX0) (sp:=K07.D.oB) rfl (by decide) rfl ⟨rfl,by decide,by decide⟩ (λw K mg fa h S X G hfa=>K07.D.CG S X G hfa) (λ_ _ a ns hl _ hS=>⟨a,ns,rfl,hS,hl,λ_=>rfl⟩) λ_ _ _ _ z=>z
#print axioms PySem.Challenge.cw_rerunyard_k07_rows_of_no_form_holds
