import PyProof.Rows.All
import Wide.All
import OpenK.AllK
import Wide.FinOn
import Lean
import PyProof.EqAt
import PyProof.EqKinds
import PyProof.TupleCall
import PyProof.ExcAttrAll.ValueError
import PySem.Challenge.RW_rerunyard_k21_whole_goods_by_the_words
set_option genSizeOf false
set_option Elab.async false
set_option linter.all false
set_option maxRecDepth 100000
namespace L2
open PySem PySem.Spec PyProof.Rows
abbrev Key:=Sum Int Str
def keyIs:Key->Value->Bool
 | .inl k,v=>Value.isInt k v
 | .inr x,v=>Value.isStrOf x v
def keyH(w:World):Key->Int
 | .inl k=>hashInt k
 | .inr x=>hashStr w x
theorem keyIs_shape:∀{k:Key} {v:Value},keyIs k v=true->(∃i t,k=Sum.inl i/\v=Value.int i t)\/(∃x t,k=Sum.inr x/\v=Value.str x t)
 | .inl i,v,h=>by
  obtain⟨t,e⟩:=Value.isInt_shape (k:=i) (v:=v) h
  exact .inl ⟨i,t,rfl,e⟩
 | .inr x,v,h=>by
  obtain⟨t,e⟩:=Value.isStrOf_shape (x:=x) (v:=v) h
  exact .inr ⟨x,t,rfl,e⟩
theorem keyIs_int(i:Int)(t:Tok):keyIs (.inl i) (.int i t)=true:=by simp [keyIs,Value.isInt]
theorem keyIs_str(x:Str)(t:Tok):keyIs (.inr x) (.str x t)=true:=by simp [keyIs,Value.isStrOf]
theorem key_ll(a b:Int):decide ((Sum.inl a:Key)=Sum.inl b)=(a==b):=by
 by_cases e:a=b
 ·subst e;simp
 ·have h:¬(Sum.inl a:Key)=Sum.inl b:=λq=>e (Sum.inl.inj q)
  rw [decide_eq_false h]
  exact(beq_eq_false_iff_ne.mpr e).symm
theorem key_rr(a b:Str):decide ((Sum.inr a:Key)=Sum.inr b)=decide (a=b):=by
 by_cases e:a=b
 ·subst e;simp
 ·have h:¬(Sum.inr a:Key)=Sum.inr b:=λq=>e (Sum.inr.inj q)
  rw [decide_eq_false h,decide_eq_false e]
theorem key_lr(a:Int)(b:Str):decide ((Sum.inl a:Key)=Sum.inr b)=false:=decide_eq_false (λq=>nomatch q)
theorem key_rl(a:Str)(b:Int):decide ((Sum.inr a:Key)=Sum.inl b)=false:=decide_eq_false (λq=>nomatch q)
def mixKind(prog:Program)(w:World):PySem.KeyKind prog w Key where
 is:=keyIs
 hash:=keyH w
 inj:=λv a b ha hb=>by
  rcases keyIs_shape ha with ⟨i,t,rfl,rfl⟩ | ⟨x,t,rfl,rfl⟩
  ·rcases keyIs_shape hb with ⟨j,u,rfl,e⟩ | ⟨y,u,rfl,e⟩
   ·injection e with e1 _;rw [e1]
   ·exact nomatch e
  ·rcases keyIs_shape hb with ⟨j,u,rfl,e⟩ | ⟨y,u,rfl,e⟩
   ·exact nomatch e
   ·injection e with e1 _;rw [e1]
 byValue := fun k v h => by
   rcases keyIs_shape h with ⟨i,t,rfl,rfl⟩ | ⟨x,t,rfl,rfl⟩<;>rfl
 pyHash:=λhv h=>by
  rcases keyIs_shape hv with ⟨i,t,rfl,rfl⟩ | ⟨x,t,rfl,rfl⟩
  ·exact wpAny_pyHash_int h
  ·exact wpAny_pyHash_str h
 eqBool:=λhu hv h=>by
  rcases keyIs_shape hu with ⟨i,t,rfl,rfl⟩ | ⟨x,t,rfl,rfl⟩
  ·rcases keyIs_shape hv with ⟨j,u,rfl,rfl⟩ | ⟨y,u,rfl,rfl⟩
   ·rw [key_ll] at h;exact wpAny_eqBool_int h
   ·rw [key_lr] at h;exact SeqAt.EqAt.int_str i t y u _ _ _ _ h
  ·rcases keyIs_shape hv with ⟨j,u,rfl,rfl⟩ | ⟨y,u,rfl,rfl⟩
   ·rw [key_rl] at h;exact SeqAt.EqAt.str_int x t j u _ _ _ _ h
   ·rw [key_rr] at h;exact wpAny_eqBool_str h
 «strs»:=λk x t v h=>by
  rcases keyIs_shape h with ⟨i,u,rfl,e⟩ | ⟨y,u,rfl,e⟩
  ·exact nomatch e
  ·injection e with e1 _
   subst e1
   cases v<;>rfl
theorem mixKind_int(prog:Program)(w:World)(i:Int)(t:Tok):(mixKind prog w).is (.inl i) (.int i t)=true:=keyIs_int i t
theorem mixKind_str(prog:Program)(w:World)(x:Str)(t:Tok):(mixKind prog w).is (.inr x) (.str x t)=true:=keyIs_str x t
end L2
namespace L2
open PySem PySem.Spec PyProof.Rows
inductive V where
 | non | bl (b:Bool) | int (i:Int) | str (x:Str) | byt (b:Array UInt8) | flt (b:UInt64) | ref (a:Addr) | ty (n:String)
 deriving DecidableEq
def RelV:V->Value->Prop
 | .non,u=>u=Value.none
 | .bl b,u=>u=Value.bool b
 | .int i,u=>∃t,u=Value.int i t
 | .str x,u=>∃t,u=Value.str x t
 | .byt b,u=>∃t,u=Value.bytes b t
 | .flt b,u=>∃t,u=Value.float b t
 | .ref a,u=>u=Value.ref a
 | .ty n,u=>u=Value.type n
abbrev Vals:List V->List Value->Prop:=Paired RelV
theorem Vals.length{xs:List V}{us:List Value}(r:Vals xs us):xs.length=us.length:=Paired.length r
theorem Vals.get:∀{xs:List V} {us:List Value} {i:Nat} {x:V},Vals xs us->xs[i]? =some x->∃u,us[i]? =some u/\RelV x u
 | _,_,_,_,.nil,e=>by simp at e
 | _,_,0,_,.cons r _,e=>by simp at e;subst e;exact⟨_,rfl,r⟩
 | _,_,i+1,x,.cons _ t,e=>by
  obtain⟨u,h1,h2⟩:=Vals.get (i:=i) (x:=x) t (by simpa using e)
  exact⟨u,by simpa using h1,h2⟩
theorem Vals.set{x:V}{u:Value}(r:RelV x u):∀{xs:List V} {us:List Value} (i:Nat),Vals xs us->Vals (xs.set i x) (us.set i u)
 | _,_,_,.nil=>.nil
 | _,_,0,.cons _ t=>.cons r t
 | _,_,i+1,.cons q t=>.cons q (Vals.set r i t)
theorem Vals.append:∀{xs ys:List V} {us ws:List Value},Vals xs us->Vals ys ws->Vals (xs++ys) (us++ws)
 | _,_,_,_,.nil,s=>s
 | _,_,_,_,.cons r t,s=>.cons r (Vals.append t s)
theorem Vals.take:∀{xs:List V} {us:List Value} (n:Nat),Vals xs us->Vals (xs.take n) (us.take n)
 | _,_,0,_=>.nil
 | _,_,_+1,.nil=>.nil
 | _,_,n+1,.cons r t=>.cons r (Vals.take n t)
theorem Vals.drop:∀{xs:List V} {us:List Value} (n:Nat),Vals xs us->Vals (xs.drop n) (us.drop n)
 | _,_,0,r=>r
 | _,_,_+1,.nil=>.nil
 | _,_,n+1,.cons _ t=>Vals.drop n t
def RelO:Option V->Option Value->Prop
 | some v,some u=>RelV v u
 | none,none=>True
 | _,_=>False
def KV{κ:Type}:List (κ×V)->List (κ×Value)->Prop:=Paired λ(p:κ×V) (q:κ×Value)=>p.1=q.1/\RelV p.2 q.2
def kV:Key->V
 | .inl i=>.int i
 | .inr x=>.str x
inductive HO where
 | lst (xs:List V)
 | tup (xs:List V)
 | dK (kvs:List (Key×V)) | dT (kvs:List (List Key×V))
 | set (S:Int->Bool) (n:Nat)
 | ins (C dx:Addr) (fs:List (Str×V))
 | own (x:Addr)
 | xd (fs:List (Str×V))
 | met (f x:Addr)
 | rng (lo hi:Int)
 | frz (o:Obj) (u:HO)
 | tbl (ps:Array Value)
 | ext (φ:Heap->Prop)
abbrev Hp:=Addr->Option HO
def upd(H:Hp)(a:Addr)(o:HO):Hp:=λb=>if b=a then some o else H b
theorem upd_same{H:Hp}{a:Addr}{o:HO}:upd H a o a=some o:=by unfold upd;rw [if_pos rfl]
theorem upd_ne{H:Hp}{a b:Addr}{o:HO}(h:b≠a):upd H a o b=H b:=by unfold upd;rw [if_neg h]
theorem ne_of{H:Hp}{a b:Addr}{o u:HO}(h:H a=some o)(h':H b=some u)(d:o≠u):a≠b:=by
 intro e;subst e;rw [h] at h';exact d (Option.some.inj h')
theorem ne_of_none{H:Hp}{a b:Addr}{o:HO}(h:H a=some o)(h':H b=none):a≠b:=by
 intro e;subst e;rw [h] at h';cases h'
section
variable(P:Program)(w:World)
def ObjOk(H:Hp)(h:Heap)(a:Addr):HO->Prop
 | .lst xs=>xs.length<=sizeLine/\∃(its:List Value) (n:Nat),Vals xs its/\h.get? a=some {cls:=.type "list",data:=.seq its.toArray n}
 | .tup xs=>xs.length<=sizeLine/\∃its:List Value,Vals xs its/\IsTup h a its.toArray
 | .dK kvs=>kvs.length<=sizeLine/\(a==sysModules)=false/\∃vs,KV kvs vs/\h.DictOf (mixKind P w) a vs
 | .dT kvs=>kvs.length<=sizeLine/\(a==sysModules)=false/\∃xs:List (List Key×Addr×Value),
  Paired (λ(p:List Key×V) (q:List Key×Addr×Value)=>p.1=q.1/\H q.2.1=some (.tup (p.1.map kV))/\RelV p.2 q.2.2) kvs xs/\
  ∃o es ep,h.get? a=some o/\o.ExactDict/\o.data= .dict es ep/\es.toList=xs.map (entryOfKey (tupleKind (mixKind P w)))/\(xs.map (·.1)).Nodup
 | .set S n=>h.SetOf (intKind P w) a S n
 | .ins C dx fs=>H dx=some (.own a)/\fs.length<=1000/\dx≠a/\h.get? a=some (PySem.W.instObj C dx)/\
  ∃mA,h.Ns1 dx mA/\(∀f,RelO (fs.lookup f) (mA f))/\PySem.Within mA (fs.map (·.1))
 | .own _=>∃o,h.get? a=some o
 | .xd fs=>∃mA,h.Ns1 a mA/\∀f,RelO (fs.lookup f) (mA f)
 | .rng lo hi=>∃t u v,h.get? a=some {cls:=.type "range",data:=.fields #[.int lo t,.int hi u,.int 1 v]}
 | .frz o u=>h.get? a=some o/\ObjOk H h a u
 | .tbl ps=>h.get? a=some {cls:=.none,data:=.fields ps}
 | .met f x=>h.get? a=some (PySem.W.methodObj (.ref f) (.ref x))
 | .ext φ=>φ h/\(∃o,h.get? a=some o)/\∀h1 h2:Heap,φ h1->(∀o,h1.get? a=some o->h2.get? a=some o)->φ h2
def HOk(H:Hp)(h:Heap):Prop:=∀a o,H a=some o->ObjOk P w H h a o
end
section
variable{P:Program}{w:World}{H H':Hp}{h h':Heap}{a:Addr}{o:HO}
theorem ObjOk.lt(x:ObjOk P w H h a o):a<h.objs.size:=by
 cases o with
 | lst xs=>obtain⟨_,_,_,_,e⟩:=x;exact Heap.lt_size e
 | tup xs=>obtain⟨_,_,_,p⟩:=x;exact p.lt
 | dK kvs=>obtain⟨_,_,_,_,o,_,_,e,_⟩:=x;exact Heap.lt_size e
 | dT kvs=>obtain⟨_,_,_,_,o,_,_,e,_⟩:=x;exact Heap.lt_size e
 | set S n=>obtain⟨o,_,_,_,e,_⟩:=x;exact Heap.lt_size e
 | ins C dx fs=>obtain⟨_,_,_,e,_⟩:=x;exact Heap.lt_size e
 | own y=>obtain⟨_,e⟩:=x;exact Heap.lt_size e
 | xd fs=>obtain⟨_,⟨_,_,_,e,_⟩,_⟩:=x;exact Heap.lt_size e
 | rng lo hi=>obtain⟨_,_,_,e⟩:=x;exact Heap.lt_size e
 | frz ob u=>obtain⟨e,_⟩:=x;exact Heap.lt_size e
 | tbl ps=>exact Heap.lt_size (show h.get? a=some _ from x)
 | met f y=>exact Heap.lt_size (show h.get? a=some _ from x)
 | ext φ=>obtain⟨_,⟨_,e⟩,_⟩:=x;exact Heap.lt_size e
theorem Paired.mapP{α β:Type}{F G:α->β->Prop}:∀{l₁:List α} {l₂:List β},Paired F l₁ l₂->(∀a b,F a b->G a b)->Paired G l₁ l₂
 | _,_,.nil,_=>.nil
 | _,_,.cons r t,f=>.cons (f _ _ r) (Paired.mapP t f)
theorem ObjOk.stay(x:ObjOk P w H h a o)(k:∀b u,(b=a\/H b=some (.own a))->h.get? b=some u->h'.get? b=some u)
 (ho:∀b,H b=some (.own a)->H' b=some (.own a)) (ht:∀b xs,H b=some (.tup xs)->H' b=some (.tup xs)):ObjOk P w H' h' a o:=by
 induction o with
 | lst xs=>obtain⟨z,its,n,r,e⟩:=x;exact⟨z,its,n,r,k _ _ (.inl rfl) e⟩
 | tup xs=>obtain⟨z,its,r,ob,e,c⟩:=x;exact⟨z,its,r,ob,k _ _ (.inl rfl) e,c⟩
 | dK kvs=>obtain⟨z,y,vs,r,ob,es,ep,e,c⟩:=x;exact⟨z,y,vs,r,ob,es,ep,k _ _ (.inl rfl) e,c⟩
 | dT kvs=>
  obtain⟨z,y,xs,r,ob,es,ep,e,c⟩:=x
  exact⟨z,y,xs,Paired.mapP r λp q z=>⟨z.1,ht _ _ z.2.1,z.2.2⟩,ob,es,ep,k _ _ (.inl rfl) e,c⟩
 | set S n=>obtain⟨ob,es,ep,t,e,c⟩:=x;exact⟨ob,es,ep,t,k _ _ (.inl rfl) e,c⟩
 | ins C dx fs=>
  obtain⟨d,z,ne,e,mA,⟨od,es,ep,e2,c⟩,r⟩:=x
  exact⟨ho _ d,z,ne,k _ _ (.inl rfl) e,mA,⟨od,es,ep,k _ _ (.inr d) e2,c⟩,r⟩
 | own y=>obtain⟨ob,e⟩:=x;exact⟨ob,k _ _ (.inl rfl) e⟩
 | xd fs=>obtain⟨mA,⟨od,es,ep,e,c⟩,r⟩:=x;exact⟨mA,⟨od,es,ep,k _ _ (.inl rfl) e,c⟩,r⟩
 | rng lo hi=>obtain⟨t,u,v,e⟩:=x;exact⟨t,u,v,k _ _ (.inl rfl) e⟩
 | frz ob u ih=>obtain⟨e,q⟩:=x;exact⟨k _ _ (.inl rfl) e,ih q⟩
 | tbl ps=>
  have e:h.get? a=some {cls:=.none,data:=.fields ps}:=x
  show h'.get? a=some {cls:=.none,data:=.fields ps}
  exact k a _ (.inl rfl) e
 | met f y=>
  have e:h.get? a=some (PySem.W.methodObj (.ref f) (.ref y)):=x
  show h'.get? a=some (PySem.W.methodObj (.ref f) (.ref y))
  exact k a _ (.inl rfl) e
 | ext φ=>obtain⟨p,⟨o,e⟩,st⟩:=x;exact⟨st _ _ p λo q=>k _ _ (.inl rfl) q,⟨o,k _ _ (.inl rfl) e⟩,st⟩
theorem HOk.lt(x:HOk P w H h)(e:H a=some o):a<h.objs.size:=(x a o e).lt
theorem HOk.fresh(x:HOk P w H h)(e:h.objs.size<=a):H a=none:=by
 cases q:H a with
 | none=>rfl
 | some u=>exact absurd (Nat.lt_of_lt_of_le (x.lt q) e) (Nat.lt_irrefl _)
theorem HOk.kept(x:HOk P w H h)(k:∀b u,h.get? b=some u->h'.get? b=some u):HOk P w H h':=λa o e=>
 (x a o e).stay (λb u _ q=>k b u q) (λ_ q=>q) λ_ _ q=>q
theorem HOk.laid(x:HOk P w H h)(k:∀b u,h.get? b=some u->h'.get? b=some u)(hp:h.objs.size<=a)(new:ObjOk P w (upd H a o) h' a o):HOk P w (upd H a o) h':=λb u e=>by
 have hn:=x.fresh hp
 by_cases hb:b=a
 ·subst hb;rw [upd_same] at e;cases e;exact new
 ·rw [upd_ne hb] at e
  exact(x b u e).stay (λc v _ q=>k c v q) (λc q=>by rw [upd_ne (ne_of_none q hn)];exact q) λc xs q=>by rw [upd_ne (ne_of_none q hn)];exact q
end
def Rd(H:Hp)(a:Addr)(u:HO):Prop:=H a=some u\/∃o,H a=some (.frz o u)
theorem Rd.of{H:Hp}{a:Addr}{u:HO}(h:H a=some u):Rd H a u:=.inl h
theorem Rd.ok{P:Program}{w:World}{H:Hp}{h:Heap}{a:Addr}{u:HO}(r:Rd H a u)(x:HOk P w H h):ObjOk P w H h a u:=by
 rcases r with r | ⟨o,r⟩
 ·exact x a u r
 ·obtain⟨_,q⟩:=x a _ r
  exact q
def Mut:Option HO->Prop
 | some (.lst _)=>True
 | some (.dK _)=>True
 | some (.dT _)=>True
 | some (.set _ _)=>True
 | some (.ins _ _ _)=>True
 | some (.ext _)=>True
 | _=>False
section
variable{P:Program}{w:World}{H:Hp}{h h':Heap}{x e:Addr}{o':HO}
theorem HOk.write(ok:HOk P w H h)(mu:Mut (H x))(he:e=x\/H e=some (.own x))(k:∀b u,b≠e->h.get? b=some u->h'.get? b=some u)(heo:∃u,h'.get? e=some u)
 (new:ObjOk P w (upd H x o') h' x o'):HOk P w (upd H x o') h':=λb u q=>by
 have nown:∀c y,H c=some (.own y)->c≠x:=λc y r z=>by subst z;rw [r] at mu;exact mu
 have ntup:∀c xs,H c=some (.tup xs)->c≠x:=λc xs r z=>by subst z;rw [r] at mu;exact mu
 by_cases hb:b=x
 ·subst hb;rw [upd_same] at q;cases q;exact new
 ·rw [upd_ne hb] at q
  by_cases hbe:b=e
  ·have q':H b=some (.own x):=by
    rcases he with z | z
    ·exact absurd (hbe.trans z) hb
    ·rw [hbe];exact z
   rw [q] at q';cases q'
   obtain⟨v,hv⟩:=heo
   exact⟨v,by rw [hbe];exact hv⟩
  ·refine(ok b u q).stay (λc v hc r=>k c v ?_ r) (λc r=>by rw [upd_ne (nown c b r)];exact r) λc xs r=>by rw [upd_ne (ntup c xs r)];exact r
   rcases hc with rfl | hc
   ·exact hbe
   ·rintro rfl
    rcases he with z | z
    ·exact nown c b hc z
    ·rw [hc] at z;cases z;exact hb rfl
end
structure Un(fs ex:List Addr)(H H':Hp)(h h':Heap):Prop where
 keep:∀b o,h.get? b=some o->H b=none->b∉fs->b∉ex->h'.get? b=some o
 slot:∀b o,h.get? b=some o->H b=none->b∈fs->b∉ex->∃sl,h'.get? b=some {o with slots:=sl}
 free:∀b o,h.get? b=some o->H b=none->b∉ex->H' b=none
 there:∀b o,h.get? b=some o->b∉ex->∃o',h'.get? b=some o'
 tups:∀b xs,H b=some (.tup xs)->H' b=some (.tup xs)
 frzs:∀b o u,H b=some (.frz o u)->H' b=some (.frz o u)
 tbls:∀b ps,H b=some (.tbl ps)->∃more,H' b=some (.tbl (ps++more))
section
variable{fs fs' ex ex':List Addr}{H H1 H2:Hp}{h h1 h2 h':Heap}{a x e:Addr}{o:HO}
theorem Un.any(u:Un fs ex H H1 h h1){b:Addr}{ob:Obj}(q:h.get? b=some ob)(n:H b=none)(hx:b∉ex):∃sl,h1.get? b=some {ob with slots:=sl}:=by
 by_cases hb:b∈fs
 ·exact u.slot b ob q n hb hx
 ·exact⟨ob.slots,u.keep b ob q n hb hx⟩
theorem Un.kept(k:∀b u,h.get? b=some u->h'.get? b=some u):Un fs ex H H h h':=
 ⟨λb ob q _ _ _=>k b ob q,λb ob q _ _ _=>⟨ob.slots,k b ob q⟩,λ_ _ _ n _=>n,λb ob q _=>⟨ob,k b ob q⟩,λ_ _ q=>q,λ_ _ _ q=>q,λ_ ps q=>⟨#[],by rw [q];simp⟩⟩
theorem Un.refl:Un fs ex H H h h:=Un.kept λ_ _ q=>q
theorem Un.laid(k:∀b u,h.get? b=some u->h'.get? b=some u)(hp:h.objs.size<=a)(hn:H a=none):Un fs ex H (upd H a o) h h' where
 keep:=λb u q _ _ _=>k b u q
 slot:=λb u q _ _ _=>⟨u.slots,k b u q⟩
 free:=λb u q n _=>by rw [upd_ne (Nat.ne_of_lt (Nat.lt_of_lt_of_le (Heap.lt_size q) hp))];exact n
 there:=λb u q _=>⟨u,k b u q⟩
 tups:=λb xs q=>by rw [upd_ne (ne_of_none q hn)];exact q
 frzs:=λb u xs q=>by rw [upd_ne (ne_of_none q hn)];exact q
 tbls:=λb ps q=>⟨#[],by rw [upd_ne (ne_of_none q hn),q];simp⟩
theorem Un.write(mu:Mut (H x))(he:e=x\/H e=some (.own x))(k:∀b u,b≠e->h.get? b=some u->h'.get? b=some u)(heo:∃u,h'.get? e=some u):Un fs ex H (upd H x o) h h':=by
 have hx:∀b,H b=none->b≠x:=λb n z=>by subst z;rw [n] at mu;exact mu
 have hb:∀b,H b=none->b≠e:=λb n z=>by
  subst z
  rcases he with r | r
  ·exact hx b n r
  ·rw [n] at r;cases r
 have hm:∀b u,H b=some u->¬Mut (some u)->b≠x:=λb u q nm z=>by subst z;rw [q] at mu;exact nm mu
 refine⟨λb u q n _ _=>k b u (hb b n) q,λb u q n _ _=>⟨u.slots,k b u (hb b n) q⟩,λb u q n _=>by rw [upd_ne (hx b n)];exact n,λb u q _=>?_,
  λb xs q=>by rw [upd_ne (hm b _ q λz=>z)];exact q,λb u xs q=>by rw [upd_ne (hm b _ q λz=>z)];exact q,λb ps q=>⟨#[],by rw [upd_ne (hm b _ q λz=>z),q];simp⟩⟩
 by_cases hbe:b=e
 ·subst hbe;exact heo
 ·exact⟨u,k b u hbe q⟩
end
def trk(h:Heap)(H:Hp):List Addr:=(List.range h.objs.size).filter λa=>(H a).isSome
def hidT(h:Heap)(H:Hp):Heap:=PySem.W.hideAll h (trk h H)
theorem hidT_size(h:Heap)(H:Hp):(hidT h H).objs.size=h.objs.size:=PySem.W.hideAll_size _ _
theorem hidT_get{h:Heap}{H:Hp}{b:Addr}{o:Obj}(e:h.get? b=some o)(n:H b=none):(hidT h H).get? b=some o:=
 PySem.W.hideAll_get _ e λhm=>by
  have q:(H b).isSome=true:=(List.mem_filter.mp hm).2
  rw [n] at q;simp at q
theorem of_hidT{h:Heap}{H:Hp}{b:Addr}{o:Obj}(e:(hidT h H).get? b=some o):h.get? b=some o/\H b=none:=by
 have e':h.get? b=some o:=PySem.W.of_hideAll (trk h H) e
 refine⟨e',?_⟩
 cases q:H b with
 | none=>rfl
 | some x=>
  have hm:b∈trk h H:=List.mem_filter.mpr ⟨List.mem_range.mpr (Heap.lt_size e'),by simp [q]⟩
  have z:(hidT h H).get? b=none:=PySem.W.hideAll_none (trk h H) hm
  rw [z] at e;cases e
def allNews(g h:Heap)(L:Addr):List (Addr×Obj):=(List.range h.objs.size).filterMap λa=>if a=L\/(g.get? a).isSome=true then none else (h.get? a).map λo=>(a,o)
def rest(g h:Heap)(L d:Addr):List (Addr×Obj):=(allNews g h L).filter λp=>decide (p.1≠d)
end L2
namespace L2
open PySem PySem.Spec PyProof.Rows
structure Mod(K:PySem.W.Frag)(mg:Str->Option Value)(base:Heap):Prop where
 kin:K.In base
 glob:base.Ns mainGlobals mg
 blt:∃mb,base.Ns builtinsNs mb/\∀x:Str,x≠"__name__"->mb x=bootBuiltins x
 nolimit:base.NoLimit
structure Cx where
 prog:Program
 w:World
 K:PySem.W.Frag
 mg:Str->Option Value
 base:Heap
 A:Around
 N:List Str
 s₀:Shared
 H₀:Hp
 env:Env
 outer:List Env
 stack:List Env
 ex:List Addr
 fn:Str->Bool
 calm:Bool
 pn:List (Addr×Obj)
 xe:Value->Shared->Prop
def frs(l:List Env):List Addr:=l.filterMap (·.frame)
abbrev Cx.fs(X:Cx):List Addr:=frs X.outer
def Vis(sc:Scope)(x:Str):Prop:=sc.names.lookup x=some .local\/sc.names.lookup x=some .cell\/sc.names.lookup x=some .free
def Loc(sc:Scope)(x:Str):Prop:=sc.names.lookup x=some .local\/sc.names.lookup x=some .cell
def Look(env:Env)(h:Heap)(m:Str->Option Value)(x:Str)(u:Value):Prop:=
 (env.kindOf x=some .local/\m x=some u)\/((env.kindOf x=some .cell\/env.kindOf x=some .free)/\∃c,env.cells.lookup x=some c/\h.IsCell c (some u))
structure Cx.Ok(X:Cx):Prop where
 mod:Mod X.K X.mg X.base
 kind:X.env.scope.kind= .function
 glob:X.env.globals=mainGlobals
 blt:X.env.builtins=builtinsNs
 above:X.s₀.heap.objs.size<=X.env.locals
 inj:∀x y c,X.env.cells.lookup x=some c->X.env.cells.lookup y=some c->x=y
 has:∀x,(X.env.kindOf x=some .cell\/X.env.kindOf x=some .free)->∃c,X.env.cells.lookup x=some c
 cab:∀x c,X.fn x=true->X.env.cells.lookup x=some c->X.s₀.heap.objs.size<=c
 hd:X.calm=true->X.A.handled=none
 frames:X.A.frames=some X.stack
 stk:X.stack=X.outer\/(X.stack=X.env::X.outer/\X.env.frame=some X.env.locals)
 exf:∀b∈X.ex,b≠X.env.locals/\∀x c,X.env.cells.lookup x=some c->c≠b
 bs:∀b o,X.base.get? b=some o->X.s₀.heap.get? b=some o/\X.H₀ b=none
 bsz:X.base.objs.size<=X.s₀.heap.objs.size
 noex:∀b o,X.base.get? b=some o->b∉X.ex
 exfs:∀b∈X.ex,b∉X.fs
 funs:X.s₀.heap.FunFrames X.base X.outer
 frf:∀b∈X.fs,X.H₀ b=none
structure Inv(X:Cx)(pins:List (Addr×Obj))(σ:List (Option V))(H:Hp)(s:Shared):Prop where
 ok:X.Ok
 os:s.os=X.s₀.os
 bare:AllBare s.gens
 base:Un X.fs X.ex X.H₀ H X.s₀.heap s.heap
 loc:∃m,s.heap.Ns X.env.locals m/\∀(i:Nat) (x:Str) (v:V),X.N[i]? =some x->σ[i]? =some (some v)->Vis X.env.scope x->∃u,RelV v u/\Look X.env s.heap m x u
 cell:∀x c,X.env.cells.lookup x=some c->∃v,s.heap.IsCell c v
 free:H X.env.locals=none
 freeC:∀x c,X.env.cells.lookup x=some c->H c=none
 pin:∀p∈X.pn++pins,s.heap.get? p.1=some p.2/\H p.1=none/\p.1≠X.env.locals/\p.1∉X.fs/\∀v,p.2.data≠.cell v
 hok:HOk X.prog X.w H s.heap
 len:σ.length=X.N.length
section
variable{X:Cx}{pins:List (Addr×Obj)}{σ:List (Option V)}{H H':Hp}{s:Shared}{h':Heap}
theorem Cx.Ok.nofr(ok:X.Ok){b:Addr}{o:Obj}(e:X.base.get? b=some o):b∉X.fs:=λhb=>by
 have:=(ok.funs.mem hb).1
 rw [e] at this;cases this
theorem Inv.bs(I:Inv X pins σ H s):∀b o,X.base.get? b=some o->s.heap.get? b=some o/\H b=none:=λb o e=>
 ⟨I.base.keep b o (I.ok.bs b o e).1 (I.ok.bs b o e).2 (I.ok.nofr e) (I.ok.noex b o e),I.base.free b o (I.ok.bs b o e).1 (I.ok.bs b o e).2 (I.ok.noex b o e)⟩
theorem Inv.bk(I:Inv X pins σ H s):∀b o,X.base.get? b=some o->s.heap.get? b=some o:=λb o e=>(I.bs b o e).1
theorem Inv.mod(I:Inv X pins σ H s):Mod X.K X.mg X.base:=I.ok.mod
theorem Inv.kIn(I:Inv X pins σ H s):X.K.In s.heap:=I.ok.mod.kin.keeps I.bk
theorem Inv.lt(I:Inv X pins σ H s):X.env.locals<s.heap.objs.size:=let ⟨_,hn,_⟩:=I.loc;hn.lt
theorem Inv.sz(I:Inv X pins σ H s):X.s₀.heap.objs.size<=s.heap.objs.size:=Nat.le_trans I.ok.above (Nat.le_of_lt I.lt)
theorem Inv.nofs(I:Inv X pins σ H s){a:Addr}(h:s.heap.objs.size<=a):a∉X.fs:=λhb=>by
 obtain⟨_,o,ho,_⟩:=I.ok.funs.mem hb
 exact absurd (Nat.lt_of_lt_of_le (Heap.lt_size ho) (Nat.le_trans I.sz h)) (Nat.lt_irrefl _)
theorem Inv.cne(I:Inv X pins σ H s):∀x c,X.env.cells.lookup x=some c->c≠X.env.locals:=λx c e z=>by
 obtain⟨v,o,ho,hd⟩:=I.cell x c e
 obtain⟨m,⟨o',es,ep,ho',hd',_⟩,_⟩:=I.loc
 rw [z,ho'] at ho;cases ho;rw [hd'] at hd;cases hd
theorem Inv.funs(I:Inv X pins σ H s):s.heap.FunFrames X.base X.outer:=by
 have all:∀(l:List Env),(∀b∈frs l,b∈X.fs)->X.s₀.heap.FunFrames X.base l->s.heap.FunFrames X.base l:=by
  intro l
  induction l with
  | nil=>intro _ _;trivial
  | cons env r ih=>
   intro hs hl
   obtain⟨hk,⟨L,o,hf,hn,ho,hd⟩,hr⟩:=hl
   have hL:L∈X.fs:=hs L (by unfold frs;rw [List.filterMap_cons,hf];exact List.mem_cons_self)
   obtain⟨sl,e⟩:=I.base.slot L o ho (I.ok.frf L hL) hL λz=>I.ok.exfs L z hL
   exact⟨hk,⟨L,_,hf,hn,e,hd⟩,ih (λb hb=>hs b (by unfold frs;rw [List.filterMap_cons,hf];exact List.mem_cons_of_mem _ hb)) hr⟩
 exact all X.outer (λ_ hb=>hb) I.ok.funs
theorem Inv.stack(I:Inv X pins σ H s):s.heap.FunFrames X.base X.stack:=by
 rcases I.ok.stk with e | ⟨e,hf⟩
 ·rw [e];exact I.funs
 ·rw [e]
  obtain⟨m,hn,_⟩:=I.loc
  refine .cons (by rw [I.ok.kind];decide) hf hn ?_ I.funs
  exact Heap.get?_none_of_le (Nat.le_trans I.ok.bsz I.ok.above)
theorem Inv.stkSub(I:Inv X pins σ H s):∀b∈frs X.stack,b∈X.env.locals::X.fs:=λb hb=>by
 rcases I.ok.stk with e | ⟨e,hf⟩
 ·rw [e] at hb;exact List.mem_cons_of_mem _ hb
 ·rw [e] at hb
  unfold frs at hb
  rw [List.filterMap_cons,hf] at hb
  exact hb
theorem Inv.stkFree(I:Inv X pins σ H s):∀b∈frs X.stack,H b=none:=λb hb=>by
 rcases List.mem_cons.mp (I.stkSub b hb) with e | hb
 ·rw [e];exact I.free
 ·obtain⟨_,o,ho,_⟩:=I.ok.funs.mem hb
  exact I.base.free b o ho (I.ok.frf b hb) λz=>I.ok.exfs b z hb
theorem Inv.step{g':Array GenState}{t':Nat}{d':Drawn}{ch:List Addr}(I:Inv X pins σ H s)
 (hch:∀b∈ch,(b∈X.ex\/X.s₀.heap.objs.size<=b)/\b≠X.env.locals/\(∀x c,X.env.cells.lookup x=some c->c≠b)/\∀p∈X.pn++pins,p.1≠b)
 (keep:∀b o,b≠X.env.locals->b∉X.fs->b∉ch->s.heap.get? b=some o->H b=none->h'.get? b=some o)
 (slot:∀b o,b≠X.env.locals->b∈X.fs->b∉ch->s.heap.get? b=some o->H b=none->∃sl,h'.get? b=some {o with slots:=sl}) (free:∀b o,b∉ch->s.heap.get? b=some o->H b=none->H' b=none)
 (there:∀b o,b∉ch->s.heap.get? b=some o->∃o',h'.get? b=some o')
 (tups:∀b xs,H b=some (.tup xs)->H' b=some (.tup xs)) (frzs:∀b o u,H b=some (.frz o u)->H' b=some (.frz o u)) (tbls:∀b ps,H b=some (.tbl ps)->∃more,H' b=some (.tbl (ps++more)))
 (ns:∀m,s.heap.Ns X.env.locals m->h'.Ns X.env.locals m) (hok:HOk X.prog X.w H' h') (hg:AllBare g'):
 Inv X pins σ H' {s with heap:=h',gens:=g',drawn:=d',toks:=t'}:=by
 have neL:∀b o,X.s₀.heap.get? b=some o->b≠X.env.locals:=λb o e=>Nat.ne_of_lt (Nat.lt_of_lt_of_le (Heap.lt_size e) I.ok.above)
 have neC:∀b o,X.s₀.heap.get? b=some o->b∉X.ex->b∉ch:=λb o e hx hb=>by
  rcases (hch b hb).1 with z | z
  ·exact hx z
  ·exact absurd (Nat.lt_of_lt_of_le (Heap.lt_size e) z) (Nat.lt_irrefl _)
 have cellK:∀x c,X.env.cells.lookup x=some c->∀v,s.heap.IsCell c v->h'.IsCell c v:=λx c e v ⟨o,ho,hd⟩=>by
  have nch:c∉ch:=λz=>(hch c z).2.2.1 x c e rfl
  by_cases hc:c∈X.fs
  ·obtain⟨sl,q⟩:=slot c o (I.cne x c e) hc nch ho (I.freeC x c e)
   exact⟨_,q,hd⟩
  ·exact⟨o,keep c o (I.cne x c e) hc nch ho (I.freeC x c e),hd⟩
 refine⟨I.ok,I.os,hg,⟨λb o e n hb hx=>?_,λb o e n hb hx=>?_,λb o e n hx=>?_,λb o e hx=>?_,λb xs e=>tups b xs (I.base.tups b xs e),λb o xs e=>frzs b o xs (I.base.frzs b o xs e),λb ps e=>?_⟩,?_,λx c e=>?_,?_,λx c e=>?_,λp hp=>?_,hok,I.len⟩
 ·exact keep b o (neL b o e) hb (neC b o e hx) (I.base.keep b o e n hb hx) (I.base.free b o e n hx)
 ·obtain⟨sl,e1⟩:=I.base.slot b o e n hb hx
  obtain⟨sl',e2⟩:=slot b _ (neL b o e) hb (neC b o e hx) e1 (I.base.free b o e n hx)
  exact⟨sl',e2⟩
 ·obtain⟨o',e1⟩:=I.base.there b o e hx
  exact free b o' (neC b o e hx) e1 (I.base.free b o e n hx)
 ·obtain⟨o',e1⟩:=I.base.there b o e hx
  exact there b o' (neC b o e hx) e1
 ·obtain⟨m1,e1⟩:=I.base.tbls b ps e
  obtain⟨m2,e2⟩:=tbls b _ e1
  exact⟨m1++m2,by rw [e2,Array.append_assoc]⟩
 ·obtain⟨m,hn,hl⟩:=I.loc
  refine⟨m,ns m hn,λi x v e1 e2 e3=>?_⟩
  obtain⟨u,r,l⟩:=hl i x v e1 e2 e3
  refine⟨u,r,?_⟩
  rcases l with l | ⟨k,c,e,z⟩
  ·exact .inl l
  ·exact .inr ⟨k,c,e,cellK x c e _ z⟩
 ·obtain⟨v,z⟩:=I.cell x c e
  exact⟨v,cellK x c e v z⟩
 ·obtain⟨m,⟨o,_,_,ho,_⟩,_⟩:=I.loc
  exact free _ o (λz=>(hch _ z).2.1 rfl) ho I.free
 ·obtain⟨v,o,ho,hd⟩:=I.cell x c e
  exact free c o (λz=>(hch c z).2.2.1 x c e rfl) ho (I.freeC x c e)
 ·obtain⟨e,n,ne,nf,d⟩:=I.pin p hp
  have nch:p.1∉ch:=λz=>(hch p.1 z).2.2.2 p hp rfl
  exact⟨keep p.1 p.2 ne nf nch e n,free p.1 p.2 nch e n,ne,nf,d⟩
theorem Inv.un{t':Nat}(I:Inv X pins σ H s)(u:Un X.fs [] H H' s.heap h')(hok:HOk X.prog X.w H' h'):Inv X pins σ H' {s with heap:=h',toks:=t'}:=by
 obtain⟨m,⟨o,es,ep,ho,r⟩,_⟩:=id I.loc
 obtain⟨sl,hL⟩:=u.any ho I.free (by simp)
 exact I.step (g':=s.gens) (d':=s.drawn) (ch:=[]) (λ_ z=>nomatch z) (λb o _ hb _ e n=>u.keep b o e n hb (by simp)) (λb o _ hb _ e n=>u.slot b o e n hb (by simp)) (λb o _ e n=>u.free b o e n (by simp)) (λb o _ e=>u.there b o e (by simp)) u.tups u.frzs u.tbls (λm' hm=>by
  obtain⟨o',es',ep',ho',r'⟩:=hm
  rw [ho] at ho';cases ho'
  exact⟨_,es',ep',hL,r'⟩) hok I.bare
theorem Inv.call{g':Array GenState}{t':Nat}{d':Drawn}{ch:List Addr}(I:Inv X pins σ H s)(u:Un (frs X.stack) ch H H' s.heap h')(hok:HOk X.prog X.w H' h')(hg:AllBare g')
 (hch:∀b∈ch,(b∈X.ex\/X.s₀.heap.objs.size<=b)/\b≠X.env.locals/\(∀x c,X.env.cells.lookup x=some c->c≠b)/\∀p∈X.pn++pins,p.1≠b):
 Inv X pins σ H' {s with heap:=h',gens:=g',drawn:=d',toks:=t'}:=by
 obtain⟨m,⟨o,es,ep,ho,r⟩,_⟩:=id I.loc
 obtain⟨sl,hL⟩:=u.any ho I.free λz=>(hch _ z).2.1 rfl
 exact I.step (ch:=ch) hch (λb o hL hb hc e n=>u.keep b o e n (λz=>(List.mem_cons.mp (I.stkSub b z)).elim hL hb) hc) (λb o _ _ hc e n=>u.any e n hc) (λb o hc e n=>u.free b o e n hc) (λb o hc e=>u.there b o e hc) u.tups u.frzs u.tbls (λm' hm=>by
  obtain⟨o',es',ep',ho',r'⟩:=hm
  rw [ho] at ho';cases ho'
  exact⟨_,es',ep',hL,r'⟩) hok hg
theorem Inv.turned{t':Nat}{it:Addr}(I:Inv X pins σ H s)(k:∀b o,b≠it->s.heap.get? b=some o->h'.get? b=some o)(hn:H it=none)(hL:it≠X.env.locals)
 (h1:it∈X.ex\/X.s₀.heap.objs.size<=it) (h2:∀x c,X.env.cells.lookup x=some c->c≠it) (h3:∀p∈X.pn++pins,p.1≠it):Inv X pins σ H {s with heap:=h',toks:=t'}:=by
 have nit:∀b u,H b=some u->b≠it:=λb u e z=>by rw [z,hn] at e;cases e
 refine I.step (g':=s.gens) (d':=s.drawn) (ch:=[it]) (λb hb=>?_) (λb o _ _ hc e _=>k b o (λz=>hc (by simp [z])) e) (λb o _ _ hc e _=>⟨o.slots,k b o (λz=>hc (by simp [z])) e⟩) (λ_ _ _ _ n=>n)
  (λb o hc e=>⟨o,k b o (λz=>hc (by simp [z])) e⟩) (λ_ _ e=>e) (λ_ _ _ e=>e) (λb ps e=>⟨#[],by rw [e];simp⟩) (λm hm=>?_) (λb u e=>?_) I.bare
 ·have e:b=it:=by simpa using hb
  subst e
  exact⟨h1,hL,h2,h3⟩
 ·obtain⟨o,es,ep,ho,r⟩:=hm
  exact⟨o,es,ep,k _ o (Ne.symm hL) ho,r⟩
 ·refine(I.hok b u e).stay (λc v hc q=>k c v ?_ q) (λ_ q=>q) λ_ _ q=>q
  rcases hc with z | z
  ·rw [z];exact nit b u e
  ·exact nit c _ z
theorem Inv.tok(I:Inv X pins σ H s)(t:Nat):Inv X pins σ H {s with toks:=t}:=I.un (h':=s.heap) (t':=t) Un.refl I.hok
theorem Inv.kept{t':Nat}(I:Inv X pins σ H s)(k:∀b u,s.heap.get? b=some u->h'.get? b=some u):Inv X pins σ H {s with heap:=h',toks:=t'}:=I.un (Un.kept k) (I.hok.kept k)
theorem Inv.laid{a:Addr}{o:HO}{t':Nat}(I:Inv X pins σ H s)(k:∀b u,s.heap.get? b=some u->h'.get? b=some u)(hp:s.heap.objs.size<=a)(new:ObjOk X.prog X.w (upd H a o) h' a o):
 Inv X pins σ (upd H a o) {s with heap:=h',toks:=t'}:=I.un (Un.laid k hp (I.hok.fresh hp)) (I.hok.laid k hp new)
theorem Inv.write{x e:Addr}{o:HO}{t':Nat}(I:Inv X pins σ H s)(mu:Mut (H x))(he:e=x\/H e=some (.own x))(k:∀b u,b≠e->s.heap.get? b=some u->h'.get? b=some u)(heo:∃u,h'.get? e=some u)
 (new:ObjOk X.prog X.w (upd H x o) h' x o):Inv X pins σ (upd H x o) {s with heap:=h',toks:=t'}:=I.un (Un.write mu he k heo) (I.hok.write mu he k heo new)
theorem Inv.pins_of{pins':List (Addr×Obj)}(I:Inv X pins σ H s)(h:∀p∈pins',s.heap.get? p.1=some p.2/\H p.1=none/\p.1≠X.env.locals/\p.1∉X.fs/\∀v,p.2.data≠.cell v):Inv X pins' σ H s:=
 ⟨I.ok,I.os,I.bare,I.base,I.loc,I.cell,I.free,I.freeC,λp hp=>(List.mem_append.mp hp).elim (λz=>I.pin p (List.mem_append_left _ z)) (h p),I.hok,I.len⟩
theorem nodup_ix{N:List Str}(hN:N.Nodup){i j:Nat}{x:Str}(a:N[i]? =some x)(b:N[j]? =some x):i=j:=by
 obtain⟨h1,e1⟩:=List.getElem?_eq_some_iff.mp a
 obtain⟨h2,e2⟩:=List.getElem?_eq_some_iff.mp b
 exact(List.getElem_inj hN).mp (e1.trans e2.symm)
theorem store_ok2{M:Model}{A:Around}{E:Value->Shared->Prop}{i:Nat}{x:Str}{v:V}{u:Value}{Q:Unit->Shared->Prop}(I:Inv X pins σ H s)(hN:X.N.Nodup)(hi:X.N[i]? =some x)(hx:Loc X.env.scope x)(r:RelV v u)
 (h:∀s',Inv X pins (σ.set i (some v)) H s'->(∃a,Heap.SameBut a s.heap s'.heap/\(a=X.env.locals\/X.env.cells.lookup x=some a))->Q () s') (hf:X.fn x=true\/X.env.scope.names.lookup x=some .local:=by first | exact .inl rfl | exact .inr rfl | assumption):wpAny M A (storeName X.env x u) Q E s:=by
 obtain⟨m,hn,hl⟩:=id I.loc
 have hcls:(X.env.scope.kind== .class || (X.env.scope.kind== .module&&X.env.locals != X.env.globals))=false:=by rw [I.ok.kind];rfl
 have hiσ:i<σ.length:=by rw [I.len];exact(List.getElem?_eq_some_iff.mp hi).1
 have cne:=I.cne
 have tracked:∀{a:Addr} {h':Heap},(∃o,s.heap.get? a=some o/\H a=none)->Heap.SameBut a s.heap h'->HOk X.prog X.w H h':=λ{a h'} ha hs b ob e=>by
  obtain⟨_,_,hfree⟩:=ha
  refine(I.hok b ob e).stay (λc w' hc q=>(hs.2 c ?_).trans q) (λ_ q=>q) λ_ _ q=>q
  rintro rfl
  rcases hc with rfl | hc
  ·rw [hfree] at e;cases e
  ·rw [hfree] at hc;cases hc
 rcases hx with hk | hk
 ·refine wpAny_storeName_local hk hn (λh' hn' hs=>?_) hcls
  obtain⟨oL,_,_,hoL,_⟩:=id hn
  refine h _ ⟨I.ok,I.os,I.bare,⟨λb o e n hb hx=>?_,λb o e n hb hx=>?_,I.base.free,λb o e hx=>?_,I.base.tups,I.base.frzs,I.base.tbls⟩,⟨_,hn',λj y v' e1 e2 e3=>?_⟩,λy c e=>?_,I.free,I.freeC,λp hp=>?_,tracked ⟨oL,hoL,I.free⟩ hs,by simpa using I.len⟩ ⟨_,hs,.inl rfl⟩
  ·exact(hs.2 b (Nat.ne_of_lt (Nat.lt_of_lt_of_le (Heap.lt_size e) I.ok.above))).trans (I.base.keep b o e n hb hx)
  ·obtain⟨sl,e1⟩:=I.base.slot b o e n hb hx
   exact⟨sl,(hs.2 b (Nat.ne_of_lt (Nat.lt_of_lt_of_le (Heap.lt_size e) I.ok.above))).trans e1⟩
  ·obtain⟨o',e1⟩:=I.base.there b o e hx
   exact⟨o',(hs.2 b (Nat.ne_of_lt (Nat.lt_of_lt_of_le (Heap.lt_size e) I.ok.above))).trans e1⟩
  ·by_cases hj:j=i
   ·subst hj
    rw [hi] at e1;cases e1
    rw [List.getElem?_set_self hiσ] at e2
    cases e2
    exact⟨u,r,.inl ⟨hk,by simp⟩⟩
   ·rw [List.getElem?_set_ne (Ne.symm hj)] at e2
    obtain⟨u',r',q⟩:=hl j y v' e1 e2 e3
    refine⟨u',r',?_⟩
    rcases q with ⟨k,e⟩ | ⟨k,c,e,z⟩
    ·refine .inl ⟨k,?_⟩
     have:y≠x:=λe=>hj (nodup_ix hN e1 (e▸hi))
     simp [this,e]
    ·exact .inr ⟨k,c,e,z.sameBut hs (cne y c e)⟩
  ·obtain⟨w',z⟩:=I.cell y c e
   exact⟨w',z.sameBut hs (cne y c e)⟩
  ·obtain⟨e,n,ne,nf,d⟩:=I.pin p hp
   exact⟨(hs.2 p.1 ne).trans e,n,ne,nf,d⟩
 ·have hfn:X.fn x=true:=by
   rcases hf with z | z
   ·exact z
   ·rw [z] at hk;cases hk
  obtain⟨c,hc⟩:=I.ok.has x (.inl hk)
  obtain⟨w',z⟩:=I.cell x c hc
  refine wpAny_storeName_cell I.ok.kind hk hc z (λh' hc' hs=>?_)
  obtain⟨oc,hoc,hocd⟩:=id z
  refine h {s with heap:=h'} ⟨I.ok,I.os,I.bare,⟨λb o e n hb hx=>?_,λb o e n hb hx=>?_,I.base.free,λb o e hx=>?_,I.base.tups,I.base.frzs,I.base.tbls⟩,⟨m,hn.sameBut hs (Ne.symm (cne x c hc)),λj y v' e1 e2 e3=>?_⟩,λy c' e=>?_,I.free,I.freeC,λp hp=>?_,tracked ⟨oc,hoc,I.freeC x c hc⟩ hs,by simpa using I.len⟩ ⟨c,hs,.inr hc⟩
  ·exact(hs.2 b (Nat.ne_of_lt (Nat.lt_of_lt_of_le (Heap.lt_size e) (I.ok.cab x c hfn hc)))).trans (I.base.keep b o e n hb hx)
  ·obtain⟨sl,e1⟩:=I.base.slot b o e n hb hx
   exact⟨sl,(hs.2 b (Nat.ne_of_lt (Nat.lt_of_lt_of_le (Heap.lt_size e) (I.ok.cab x c hfn hc)))).trans e1⟩
  ·obtain⟨o',e1⟩:=I.base.there b o e hx
   exact⟨o',(hs.2 b (Nat.ne_of_lt (Nat.lt_of_lt_of_le (Heap.lt_size e) (I.ok.cab x c hfn hc)))).trans e1⟩
  ·by_cases hj:j=i
   ·subst hj
    rw [hi] at e1;cases e1
    rw [List.getElem?_set_self hiσ] at e2
    cases e2
    exact⟨u,r,.inr ⟨.inl hk,c,hc,hc'⟩⟩
   ·rw [List.getElem?_set_ne (Ne.symm hj)] at e2
    obtain⟨u',r',q⟩:=hl j y v' e1 e2 e3
    refine⟨u',r',?_⟩
    rcases q with q | ⟨k,c',e,z'⟩
    ·exact .inl q
    ·refine .inr ⟨k,c',e,z'.sameBut hs ?_⟩
     rintro rfl
     exact hj (nodup_ix hN e1 (I.ok.inj _ _ _ e hc▸hi))
  ·by_cases hcc:c'=c
   ·subst hcc;exact⟨_,hc'⟩
   ·obtain⟨w2,z2⟩:=I.cell y c' e
    exact⟨w2,z2.sameBut hs hcc⟩
  ·obtain⟨e,n,ne,nf,d⟩:=I.pin p hp
   refine⟨(hs.2 p.1 ?_).trans e,n,ne,nf,d⟩
   intro q
   rw [q,hoc] at e
   have q':oc=p.2:=Option.some.inj e
   exact d w' (by rw [<-q'];exact hocd)
theorem store_ok{M:Model}{A:Around}{E:Value->Shared->Prop}{i:Nat}{x:Str}{v:V}{u:Value}{Q:Unit->Shared->Prop}(I:Inv X pins σ H s)(hN:X.N.Nodup)(hi:X.N[i]? =some x)(hx:Loc X.env.scope x)(r:RelV v u)
 (h:∀s',Inv X pins (σ.set i (some v)) H s'->Q () s') (hf:X.fn x=true\/X.env.scope.names.lookup x=some .local:=by first | exact .inl rfl | exact .inr rfl | assumption):wpAny M A (storeName X.env x u) Q E s:=
 store_ok2 I hN hi hx r (λs' I' _=>h s' I') hf
theorem Inv.call'{s':Shared}{ch:List Addr}(I:Inv X pins σ H s)(ho:s'.os=s.os)(u:Un (frs X.stack) ch H H' s.heap s'.heap)(hok:HOk X.prog X.w H' s'.heap)(hg:AllBare s'.gens)
 (hch:∀b∈ch,(b∈X.ex\/X.s₀.heap.objs.size<=b)/\b≠X.env.locals/\(∀x c,X.env.cells.lookup x=some c->c≠b)/\∀p∈X.pn++pins,p.1≠b):Inv X pins σ H' s':=by
 obtain⟨h',g',d',t',o'⟩:=s'
 have e:o'=s.os:=ho
 subst e
 exact I.call (g':=g') (t':=t') (d':=d') u hok hg hch
end
abbrev XK:=Value->Option Addr->Hp->Prop
abbrev St:=List (Option V)
abbrev VK:=V->Hp->Prop
abbrev TE:=St->Hp->VK->Prop
abbrev TT:=St->Hp->(Bool->Hp->Prop)->Prop
abbrev TA:=St->Hp->(List V->Hp->Prop)->Prop
structure Ends where
 nx:St->Hp->Prop
 rt:VK
 bk:St->Hp->Prop:=λ_ _=>False
 ct:St->Hp->Prop:=λ_ _=>False
abbrev TS:=Ends->St->Hp->Prop
def EP(X:Cx)(pins:List (Addr×Obj))(σ:St)(Q:VK)(u:Value)(s':Shared):Prop:=∃v H',Inv X pins σ H' s'/\RelV v u/\Q v H'
def TP(X:Cx)(pins:List (Addr×Obj))(σ:St)(Q:Bool->Hp->Prop)(b:Bool)(s':Shared):Prop:=∃H',Inv X pins σ H' s'/\Q b H'
def AP(X:Cx)(pins:List (Addr×Obj))(σ:St)(Q:List V->Hp->Prop)(us:List Value)(s':Shared):Prop:=∃vs H',Inv X pins σ H' s'/\Vals vs us/\Q vs H'
def SP(X:Cx)(pins:List (Addr×Obj))(D:Ends)(f:Flow)(s':Shared):Prop:=
 match f with
 | .next=>∃σ' H',Inv X pins σ' H' s'/\D.nx σ' H'
 | .brk=>∃σ' H',Inv X pins σ' H' s'/\D.bk σ' H'
 | .cont=>∃σ' H',Inv X pins σ' H' s'/\D.ct σ' H'
 | .ret u=>∃v σ' H',Inv X pins σ' H' s'/\RelV v u/\D.rt v H'
def PE(X:Cx)(e:Expr)(t:TE):Prop:=
 ∀(pins:List (Addr×Obj)) (s:Shared) (σ:St) (H:Hp) (Q:VK),Inv X pins σ H s->t σ H Q->wpAny (model X.prog X.w) X.A (eval e X.env) (EP X pins σ Q) X.xe s
def PT(X:Cx)(e:Expr)(t:TT):Prop:=
 ∀(pins:List (Addr×Obj)) (s:Shared) (σ:St) (H:Hp) (Q:Bool->Hp->Prop),Inv X pins σ H s->t σ H Q->wpAny (model X.prog X.w) X.A (isTrue e X.env (eval e X.env)) (TP X pins σ Q) X.xe s
def PW(X:Cx)(e:Expr)(t:TT):Prop:=
 ∀(whole:Sem Value) (pins:List (Addr×Obj)) (s:Shared) (σ:St) (H:Hp) (Q:Bool->Hp->Prop),Inv X pins σ H s->t σ H Q->wpAny (model X.prog X.w) X.A (isTrue e X.env whole) (TP X pins σ Q) X.xe s
theorem PW.pt{X:Cx}{e:Expr}{t:TT}(h:PW X e t):PT X e t:=h _
def PA(X:Cx)(es:List Expr)(t:TA):Prop:=
 ∀(pos:Pos) (pins:List (Addr×Obj)) (s:Shared) (σ:St) (H:Hp) (Q:List V->Hp->Prop),Inv X pins σ H s->t σ H Q->wpAny (model X.prog X.w) X.A (spliced (backTo pos (starEach es X.env))) (AP X pins σ Q) X.xe s
def PS(X:Cx)(st:Stmt)(t:TS):Prop:=
 ∀(pins:List (Addr×Obj)) (s:Shared) (σ:St) (H:Hp) (D:Ends),Inv X pins σ H s->t D σ H->wpAny (model X.prog X.w) X.A (exec st X.env) (SP X pins D) X.xe s
def PSs(X:Cx)(st:List Stmt)(t:TS):Prop:=
 ∀(pins:List (Addr×Obj)) (s:Shared) (σ:St) (H:Hp) (D:Ends),Inv X pins σ H s->t D σ H->wpAny (model X.prog X.w) X.A (execs st X.env) (SP X pins D) X.xe s
theorem thn{α:Type}{t:Sem α}{Q Q':α->Shared->Prop}{M:Model}{A:Around}{E:Value->Shared->Prop}{s:Shared}(h:wpAny M A t Q E s)(hQ:∀a s,Q a s->Q' a s):wpAny M A t Q' E s:=wpAny_mono h hQ λ_ _ x=>x
end L2
namespace L2
open PySem PySem.Spec PyProof.Rows
section
variable{X:Cx}
def tVar(i:Nat):TE:=λσ H Q=>∃v,σ[i]? =some (some v)/\Q v H
def tC(v:V):TE:=λ_ H Q=>Q v H
theorem pe_var{i:Nat}{x:Str}{pos:Pos}(hN:X.N[i]? =some x)(hv:Vis X.env.scope x)(hd:(x==("__debug__":Str))=false:=by decide)(hcd:(x==("__classdict__":Str))=false:=by decide):PE X (.Name x pos) (tVar i):=by
 intro pins s σ H Q I h
 obtain⟨v,e,h⟩:=h
 obtain⟨m,hn,hl⟩:=I.loc
 obtain⟨u,r,l⟩:=hl i x v hN e hv
 have fin:EP X pins σ Q u s:=⟨v,H,I,r,h⟩
 rcases l with ⟨hk,hm⟩ | ⟨hk,c,hc,hcell⟩
 ·exact wpAny_Name (wpAny_loadName_local I.ok.kind hk hn hm fin) hd
 ·rcases hk with hk | hk
  ·exact wpAny_Name (wpAny_loadName_cell I.ok.kind hk hc hcell fin) hd
  ·exact wpAny_Name (wpAny_loadName_free I.ok.kind hk hc hcell fin hcd) hd
theorem pe_int{i j pos}:PE X (.Constant (.int i) j pos) (tC (.int i)):=λ_ _ _ H _ I h=>wpAny_Constant_int ⟨.int i,H,I.tok _,⟨_,rfl⟩,h⟩
theorem pe_bl{b j pos}:PE X (.Constant (.bool b) j pos) (tC (.bl b)):=λ_ _ _ H _ I h=>Constant_bool ⟨.bl b,H,I,rfl,h⟩
theorem pe_str{x j pos}:PE X (.Constant (.str x) j pos) (tC (.str x)):=λ_ _ _ H _ I h=>Calls.Constant_str ⟨.str x,H,I.tok _,⟨_,rfl⟩,h⟩
def Gl(X:Cx)(x:Str):Prop:=X.env.kindOf x=some .globalImplicit
theorem ld_glob{E:Value->Shared->Prop}{pins:List (Addr×Obj)}{s:Shared}{σ:St}{H:Hp}{x:Str}{u:Value}{pos:Pos}{Q:Value->Shared->Prop}(I:Inv X pins σ H s)(hg:Gl X x)(hm:X.mg x=some u)(h:Q u s)
 (hd:(x==("__debug__":Str))=false:=by decide):wpAny (model X.prog X.w) X.A (eval (.Name x pos) X.env) Q E s:=
 Calls.Name_function_global I.ok.kind hg (Calls.loadGlobal_global (by rw [I.ok.glob];exact I.mod.glob.keeps I.bk) hm h) hd
theorem ld_blt{E:Value->Shared->Prop}{pins:List (Addr×Obj)}{s:Shared}{σ:St}{H:Hp}{x:Str}{u:Value}{pos:Pos}{Q:Value->Shared->Prop}(I:Inv X pins σ H s)(hg:Gl X x)(hm:X.mg x=none)(hv:bootBuiltins x=some u)(h:Q u s)
 (hn:x≠"__name__":=by decide) (hd:(x==("__debug__":Str))=false:=by decide):wpAny (model X.prog X.w) X.A (eval (.Name x pos) X.env) Q E s:=by
 obtain⟨mb,h1,h2⟩:=I.mod.blt
 exact Calls.Name_function_global I.ok.kind hg (Calls.loadGlobal_builtin (by rw [I.ok.glob];exact I.mod.glob.keeps I.bk) hm (by rw [I.ok.blt];exact h1.keeps I.bk) ((h2 x hn).trans hv) h) hd
theorem pe_bltn{x:Str}{v:V}{u:Value}{pos:Pos}(hg:Gl X x)(hm:X.mg x=none)(hv:bootBuiltins x=some u)(r:RelV v u)(hn:x≠"__name__":=by decide)(hd:(x==("__debug__":Str))=false:=by decide):PE X (.Name x pos) (tC v):=
 λ_ _ _ H _ I h=>ld_blt I hg hm hv ⟨v,H,I,r,h⟩ hn hd
variable{a b:Expr}{ta tb:TE}{pos:Pos}
def PC(X:Cx)(op:CmpOp)(a b:Expr)(t:TE):Prop:=
 ∀(pins:List (Addr×Obj)) (s:Shared) (σ:St) (H:Hp) (Q:VK),Inv X pins σ H s->t σ H Q->
  wpAny (model X.prog X.w) X.A (eval a X.env) (λv s₁=>wpAny (model X.prog X.w) X.A (eval b X.env) (λu s₂=>wpAny (model X.prog X.w) X.A (compareOp op v u) (EP X pins σ Q) X.xe s₂) X.xe s₁) X.xe s
def tB(t:TE):TT:=λσ H Q=>t σ H λx H1=>∃c,x= .bl c/\Q c H1
theorem pt_val{e:Expr}{t:TE}(h:PE X e t)(he:∀whole,isTrue e X.env whole=(do let v <-whole;standAt e.pos;holding [v] (truthy v)):=by intro _;rfl):PT X e (tB t):=by
 intro pins s σ H Q I hw
 refine isTrue_plain (thn (h pins s σ H _ I hw) λv s1 ⟨x,H1,I1,r1,q1⟩=>?_) (he _)
 obtain⟨d,rfl,q⟩:=q1
 cases r1
 exact wpAny_truthy_bool ⟨H1,I1,q⟩
variable{tA tB':TT}{rest:List Expr}
def tAnd(t u:TT):TT:=λσ H Q=>t σ H λc H1=>if c=true then u σ H1 Q else Q false H1
def tOr(t u:TT):TT:=λσ H Q=>t σ H λc H1=>if c=true then Q true H1 else u σ H1 Q
def tNot(t:TT):TT:=λσ H Q=>t σ H λc H1=>Q (!c) H1
theorem pw_and1(ha:PT X a tA):PW X (.BoolOp .And [a] pos) tA:=by
 intro wh pins s σ H Q I h
 refine isTrue_and (thn (ha pins s σ H Q I h) λc s1 e=>?_)
 cases c with
 | true=>exact isTrue_and_nil e
 | false=>exact e
theorem pw_or1(ha:PT X a tA):PW X (.BoolOp .Or [a] pos) tA:=by
 intro wh pins s σ H Q I h
 refine isTrue_or (thn (ha pins s σ H Q I h) λc s1 e=>?_)
 cases c with
 | false=>exact isTrue_or_nil e
 | true=>exact e
theorem pw_and(ha:PT X a tA)(hb:PW X (.BoolOp .And (b::rest) pos) tB'):PW X (.BoolOp .And (a::b::rest) pos) (tAnd tA tB'):=by
 intro wh pins s σ H Q I h
 refine isTrue_and (thn (ha pins s σ H _ I h) λc s1 ⟨H1,I1,q1⟩=>?_)
 cases c with
 | true=>exact hb wh pins s1 σ H1 Q I1 q1
 | false=>exact⟨H1,I1,q1⟩
theorem pw_or(ha:PT X a tA)(hb:PW X (.BoolOp .Or (b::rest) pos) tB'):PW X (.BoolOp .Or (a::b::rest) pos) (tOr tA tB'):=by
 intro wh pins s σ H Q I h
 refine isTrue_or (thn (ha pins s σ H _ I h) λc s1 ⟨H1,I1,q1⟩=>?_)
 cases c with
 | true=>exact⟨H1,I1,q1⟩
 | false=>exact hb wh pins s1 σ H1 Q I1 q1
theorem pt_not(ha:PT X a tA):PT X (.UnaryOp .Not a pos) (tNot tA):=by
 intro pins s σ H Q I h
 exact isTrue_not (ha pins s σ H (λc H1=>Q (!c) H1) I h)
def tAndV(ta tb:TE):TE:=λσ H Q=>ta σ H λx H1=>∃c,x= .bl c/\if c=true then tb σ H1 Q else Q (.bl false) H1
def tOrV(ta tb:TE):TE:=λσ H Q=>ta σ H λx H1=>∃c,x= .bl c/\if c=true then Q (.bl true) H1 else tb σ H1 Q
def tNotV(ta:TE):TE:=λσ H Q=>ta σ H λx H1=>∃c,x= .bl c/\Q (.bl (!c)) H1
theorem pe_one{op}{t:TE}(h:PE X a t):PE X (.BoolOp op [a] pos) t:=λpins s σ H Q I hw=>BoolOp_one (h pins s σ H Q I hw)
theorem pe_and(ha:PE X a ta)(hb:PE X (.BoolOp .And (b::rest) pos) tb):PE X (.BoolOp .And (a::b::rest) pos) (tAndV ta tb):=by
 intro pins s σ H Q I h
 refine BoolOp_and (thn (ha pins s σ H _ I h) λv s1 ⟨x,H1,I1,r1,q1⟩=>?_)
 obtain⟨c,rfl,q1⟩:=q1
 cases r1
 refine wpAny_truthy_bool ?_
 cases c with
 | true=>exact hb pins s1 σ H1 Q I1 q1
 | false=>exact⟨.bl false,H1,I1,rfl,q1⟩
def tIf(t:TT)(ta tb:TE):TE:=λσ H Q=>t σ H λc H1=>if c=true then ta σ H1 Q else tb σ H1 Q
end
end L2
namespace L2
open PySem PySem.Spec PyProof.Rows
def SqL(K:PySem.W.Frag)(H:Hp)(a:Addr)(xs:List V):Prop:=
 Rd H a (.lst xs)\/
  ∃(o:Obj) (its:Array Value) (n:Nat),K.lookup a=some o/\o.cls= .type "list"/\o.dict=none/\o.data= .seq its n/\its.size<=sizeLine/\Vals xs its.toList
def SqT(K:PySem.W.Frag)(H:Hp)(a:Addr)(xs:List V):Prop:=
 Rd H a (.tup xs)\/
  ∃(o:Obj) (its:Array Value) (n:Nat),K.lookup a=some o/\o.cls= .type "tuple"/\o.data= .seq its n/\its.size<=sizeLine/\Vals xs its.toList
def absV:Value->Option V
 | .none=>some .non
 | .bool b=>some (.bl b)
 | .int i _=>some (.int i)
 | .str x _=>some (.str x)
 | .bytes b _=>some (.byt b)
 | .float b _=>some (.flt b)
 | .ref a=>some (.ref a)
 | .type n=>some (.ty n)
 | _=>none
theorem RelV.abs{x:V}{u:Value}(r:RelV x u):absV u=some x:=by
 cases x with
 | non=>cases r;rfl
 | bl _=>cases r;rfl
 | int _=>obtain⟨t,rfl⟩:=r;rfl
 | str _=>obtain⟨t,rfl⟩:=r;rfl
 | byt _=>obtain⟨t,rfl⟩:=r;rfl
 | flt _=>obtain⟨t,rfl⟩:=r;rfl
 | ref _=>cases r;rfl
 | ty _=>cases r;rfl
theorem RelV.inj{x y:V}{u:Value}(r:RelV x u)(q:RelV y u):x=y:=Option.some.inj (r.abs.symm.trans q.abs)
theorem Vals.inj:∀{xs ys:List V} {us:List Value},Vals xs us->Vals ys us->xs=ys
 | _,_,_,.nil,.nil=>rfl
 | _,_,_,.cons r t,.cons r' t'=>by rw [r.inj r',Vals.inj t t']
section
variable{X:Cx}{pins:List (Addr×Obj)}{σ:St}{H:Hp}{s:Shared}{a:Addr}{xs ys:List V}
theorem SqL.of{K:PySem.W.Frag}(h:H a=some (.lst xs)):SqL K H a xs:=.inl (.inl h)
theorem SqT.of{K:PySem.W.Frag}(h:H a=some (.tup xs)):SqT K H a xs:=.inl (.inl h)
theorem Inv.list(I:Inv X pins σ H s)(h:SqL X.K H a xs):∃its:List Value,Vals xs its/\PlainL s.heap a its.toArray/\xs.length<=sizeLine:=by
 rcases h with h | ⟨o,its,n,hk,hc,hd,hs,hz,r⟩
 ·obtain⟨z,its,n,r,e⟩:=h.ok I.hok
  exact⟨its,r,⟨_,n,e,rfl,rfl,rfl⟩,z⟩
 ·refine⟨its.toList,r,⟨o,n,I.kIn a o hk,hc,hd,by simpa using hs⟩,?_⟩
  have e:=r.length
  simp only [Array.length_toList] at e
  omega
theorem Inv.tuple(I:Inv X pins σ H s)(h:SqT X.K H a xs):∃its:List Value,Vals xs its/\IsTup s.heap a its.toArray/\xs.length<=sizeLine:=by
 rcases h with h | ⟨o,its,n,hk,hc,hs,hz,r⟩
 ·obtain⟨z,its,r,p⟩:=h.ok I.hok
  exact⟨its,r,p,z⟩
 ·refine⟨its.toList,r,⟨o,I.kIn a o hk,hc,n,by simpa using hs⟩,?_⟩
  have e:=r.length
  simp only [Array.length_toList] at e
  omega
theorem Inv.list_inj(I:Inv X pins σ H s)(h:SqL X.K H a xs)(h':SqL X.K H a ys):xs=ys:=by
 obtain⟨its,r,⟨o,n,e,_,_,d⟩,_⟩:=I.list h
 obtain⟨its',r',⟨o',n',e',_,_,d'⟩,_⟩:=I.list h'
 rw [e] at e';cases e'
 rw [d] at d'
 injection d' with d1 _
 have:its=its':=by simpa using congrArg Array.toList d1
 subst this
 exact r.inj r'
theorem Inv.tuple_inj(I:Inv X pins σ H s)(h:SqT X.K H a xs)(h':SqT X.K H a ys):xs=ys:=by
 obtain⟨its,r,⟨o,e,_,n,d⟩,_⟩:=I.tuple h
 obtain⟨its',r',⟨o',e',_,n',d'⟩,_⟩:=I.tuple h'
 rw [e] at e';cases e'
 rw [d] at d'
 injection d' with d1 _
 have:its=its':=by simpa using congrArg Array.toList d1
 subst this
 exact r.inj r'
end
abbrev Cx.wish(X:Cx)(E:Value->Shared->Prop):Cx:={X with xe:=E}
abbrev Cx.nox(X:Cx):Cx:=X.wish λ_ _=>False
theorem Cx.Ok.wish{X:Cx}(ok:X.Ok)(E:Value->Shared->Prop):(X.wish E).Ok:=
 ⟨ok.mod,ok.kind,ok.glob,ok.blt,ok.above,ok.inj,ok.has,ok.cab,ok.hd,ok.frames,ok.stk,ok.exf,ok.bs,ok.bsz,ok.noex,ok.exfs,ok.funs,ok.frf⟩
theorem Cx.Ok.unwish{X:Cx}{E:Value->Shared->Prop}(ok:(X.wish E).Ok):X.Ok:=
 ⟨ok.mod,ok.kind,ok.glob,ok.blt,ok.above,ok.inj,ok.has,ok.cab,ok.hd,ok.frames,ok.stk,ok.exf,ok.bs,ok.bsz,ok.noex,ok.exfs,ok.funs,ok.frf⟩
section
variable{X:Cx}{pins:List (Addr×Obj)}{σ:St}{H:Hp}{s:Shared}{E:Value->Shared->Prop}
theorem Inv.wish(I:Inv X pins σ H s)(E:Value->Shared->Prop):Inv (X.wish E) pins σ H s:=⟨I.ok.wish E,I.os,I.bare,I.base,I.loc,I.cell,I.free,I.freeC,I.pin,I.hok,I.len⟩
theorem Inv.unwish(I:Inv (X.wish E) pins σ H s):Inv X pins σ H s:=⟨I.ok.unwish,I.os,I.bare,I.base,I.loc,I.cell,I.free,I.freeC,I.pin,I.hok,I.len⟩
theorem SP.unwish{D:Ends}{f:Flow}{s':Shared}(h:SP (X.wish E) pins D f s'):SP X pins D f s':=by
 cases f with
 | next=>obtain⟨σ',H',I,q⟩:=h;exact⟨σ',H',I.unwish,q⟩
 | brk=>obtain⟨σ',H',I,q⟩:=h;exact⟨σ',H',I.unwish,q⟩
 | cont=>obtain⟨σ',H',I,q⟩:=h;exact⟨σ',H',I.unwish,q⟩
 | ret u=>obtain⟨v,σ',H',I,r,q⟩:=h;exact⟨v,σ',H',I.unwish,r,q⟩
theorem PSs.nox{st:List Stmt}{t:TS}(h:PSs X.nox st t):PSs X st t:=λpins s σ H D I hw=>
 wpAny_mono (h pins s σ H D (I.wish _) hw) (λ_ _ q=>q.unwish) λ_ _ z=>False.elim z
end
section
variable{X:Cx}{st:Stmt}{rest:List Stmt}{t u:TS}{e:Expr}{te:TE}{pos:Pos}
def tNext:TS:=λD σ H=>D.nx σ H
def tSeq(t u:TS):TS:=λD σ H=>t {D with nx:=u D} σ H
theorem pss_nil:PSs X [] tNext:=λ_ _ σ H _ I h=>wpAny_execs_nil ⟨σ,H,I,h⟩
theorem pss_cons(h1:PS X st t)(h2:PSs X rest u):PSs X (st::rest) (tSeq t u):=by
 intro pins s σ H D I h
 refine wpAny_execs_cons (thn (h1 pins s σ H {D with nx:=u D} I h) λf s1 q=>?_)
 cases f with
 | next=>
  obtain⟨σ',H',I',q⟩:=q
  exact h2 pins s1 σ' H' D I' q
 | ret v=>exact q
 | brk=>exact q
 | cont=>exact q
theorem pss_one(h1:PS X st t):PSs X [st] t:=by
 intro pins s σ H D I h
 refine wpAny_execs_cons (thn (h1 pins s σ H D I h) λf s1 q=>?_)
 cases f with
 | next=>exact wpAny_execs_nil q
 | ret v=>exact q
 | brk=>exact q
 | cont=>exact q
def tBreak:TS:=λD σ H=>D.bk σ H
def tCont:TS:=λD σ H=>D.ct σ H
theorem Inv.quiet{pins:List (Addr×Obj)}{σ:St}{H:Hp}{s:Shared}(I:Inv X pins σ H s):interactive X.env=false:=by simp [interactive,I.ok.kind]
def tDrop(te:TE):TS:=λD σ H=>te σ H λ_ H1=>D.nx σ H1
theorem ps_expr(he:PE X e te)(hs:swapsWith e none pos.line X.env=pure false:=by rfl):PS X (.Expr e pos) (tDrop te):=by
 intro pins s σ H D I h
 exact wpAny_Expr_any (thn (he pins s σ H _ I h) λv s1 ⟨x,H1,I1,r1,q1⟩=>⟨σ,H1,I1,q1⟩) I.quiet hs
def tRet(te:TE):TS:=λD σ H=>te σ H D.rt
theorem ps_ret(he:PE X e te):PS X (.Return (some e) pos) (tRet te):=by
 intro pins s σ H D I h
 exact wpAny_Return_some (thn (he pins s σ H _ I h) λv s1 ⟨x,H1,I1,r1,q1⟩=>⟨x,σ,H1,I1,r1,q1⟩)
def tRetN:TS:=λD _ H=>D.rt .non H
def tIfS(c:TT)(t u:TS):TS:=λD σ H=>c σ H λb H1=>if b=true then t D σ H1 else u D σ H1
theorem ps_if{c:Expr}{a b:List Stmt}{tc:TT}(hc:PT X c tc)(ha:PSs X a t)(hb:PSs X b u):PS X (.If c a b pos) (tIfS tc t u):=by
 intro pins s σ H D I h
 refine wpAny_If (thn (hc pins s σ H _ I h) λd s1 ⟨H1,I1,q1⟩=>?_)
 cases d with
 | true=>exact ha pins s1 σ H1 D I1 q1
 | false=>exact hb pins s1 σ H1 D I1 q1
end
abbrev TG:=V->St->Hp->(St->Hp->Prop)->Prop
abbrev TGs:=List V->St->Hp->(St->Hp->Prop)->Prop
def PG(X:Cx)(target:Expr)(t:TG):Prop:=
 ∀(pins:List (Addr×Obj)) (s:Shared) (σ:St) (H:Hp) (v:V) (u:Value) (Q:St->Hp->Prop),Inv X pins σ H s->RelV v u->t v σ H Q->
  wpAny (model X.prog X.w) X.A (assign target X.env u) (λ_ s'=>∃σ' H',Inv X pins σ' H' s'/\Q σ' H') X.xe s
def PGs(X:Cx)(ts:List Expr)(t:TGs):Prop:=
 ∀(pins:List (Addr×Obj)) (s:Shared) (σ:St) (H:Hp) (vs:List V) (us:List Value) (Q:St->Hp->Prop),Inv X pins σ H s->Vals vs us->t vs σ H Q->
  wpAny (model X.prog X.w) X.A (assignInOrder ((assignEach ts X.env).map (·.2)) us) (λ_ s'=>∃σ' H',Inv X pins σ' H' s'/\Q σ' H') X.xe s
abbrev TSet:=V->V->V->Hp->(Hp->Prop)->Prop
def PSet(X:Cx)(t:TSet):Prop:=
 ∀(pins:List (Addr×Obj)) (s:Shared) (σ:St) (H:Hp) (o i v:V) (ov iv u:Value) (Q:Hp->Prop),Inv X pins σ H s->RelV o ov->RelV i iv->RelV v u->t o i v H Q->
  wpAny (model X.prog X.w) X.A (setItem ov iv u) (λ_ s'=>∃H',Inv X pins σ H' s'/\Q H') X.xe s
section
variable{X:Cx}{pos:Pos}
def gName(i:Nat):TG:=λv σ H Q=>Q (σ.set i (some v)) H
theorem pg_name{i:Nat}{x:Str}(hN:X.N.Nodup)(hi:X.N[i]? =some x)(hx:Loc X.env.scope x)(hf:X.fn x=true\/X.env.scope.names.lookup x=some .local:=by first | exact .inl rfl | exact .inr rfl | assumption):PG X (.Name x pos) (gName i):=by
 intro pins s σ H v u Q I r h
 exact wpAny_assign_Name (store_ok I hN hi hx r (λs' I'=>⟨_,H,I',h⟩) hf)
def gNil:TGs:=λvs σ H Q=>vs= []/\Q σ H
def gCons(t:TG)(u:TGs):TGs:=λvs σ H Q=>∃v r,vs=v::r/\t v σ H λσ' H'=>u r σ' H' Q
theorem pgs_nil:PGs X [] gNil:=by
 intro pins s σ H vs us Q I r h
 obtain⟨e,h⟩:=h
 subst e
 cases r
 exact assignInOrder_nil ⟨σ,H,I,h⟩
theorem pgs_cons{e:Expr}{es:List Expr}{t:TG}{u:TGs}(h1:PG X e t)(h2:PGs X es u)
 (hs:(assignEach (e::es) X.env).map (·.2)=assign e X.env::(assignEach es X.env).map (·.2):=by rfl):PGs X (e::es) (gCons t u):=by
 intro pins s σ H vs us Q I r h
 obtain⟨v,vr,e1,h⟩:=h
 subst e1
 cases r with
 | cons r rr=>
  rw [hs]
  refine assignInOrder_cons (thn (h1 pins s σ H _ _ _ I r h) λ_ s1 ⟨σ1,H1,I1,q1⟩=>?_)
  exact h2 pins s1 σ1 H1 _ _ Q I1 rr q1
def gTup(K:PySem.W.Frag)(n:Nat)(t:TGs):TG:=λv σ H Q=>∃a xs,v= .ref a/\SqT K H a xs/\xs.length=n/\t xs σ H Q
theorem pg_tup{es:List Expr}{k:Nat}{t:TGs}{n:Nat}(hc:X.calm=true)(h:PGs X es t)
 (hn:(assignEach es X.env).length=n:=by rfl) (hst:(assignEach es X.env).findIdx? (·.1)=none:=by rfl):PG X (.Tuple es k pos) (gTup X.K n t):=by
 intro pins s σ H v u Q I r hw
 obtain⟨a,xs,e1,hq,hl,hw⟩:=hw
 subst e1
 cases r
 obtain⟨its,rv,ht,hz⟩:=I.tuple hq
 refine assign_Tuple_tuple (I.ok.hd hc) ht (by simp [hn,<-hl,rv.length]) hst λh' hx=>?_
 have I1:Inv X pins σ H {s with heap:=h'}:=I.kept (t':=s.toks) λb o e=>hx b o (Nat.ne_of_lt (Heap.lt_size e)) e
 exact h pins _ σ H xs _ Q I1 (by simpa using rv) hw
def gSub(to ti:TE)(t:TSet):TG:=λv σ H Q=>to σ H λo H1=>ti σ H1 λi H2=>t o i v H2 λH3=>Q σ H3
theorem pg_sub{o i:Expr}{to ti:TE}{t:TSet}(ho:PE X o to)(hi:PE X i ti)(hs:PSet X t)
 (ha:∀v,assign (.Subscript o i pos) X.env v=(do
  let ov <-holding [v] (eval o X.env)
  let iv <-holding [v,ov] (eval i X.env)
  standAt pos
  holding [v,ov,iv] (setItem ov iv v)
  release [v,ov,iv] []):=by intro _;rfl):PG X (.Subscript o i pos) (gSub to ti t):=by
 intro pins s σ H v u Q I r h
 rw [ha]
 refine wpAny_bind (wpAny_holding (thn (ho pins s σ H _ I h) λov s1 ⟨x,H1,I1,r1,q1⟩=>?_))
 refine wpAny_bind (wpAny_holding (thn (hi pins s1 σ H1 _ I1 q1) λiv s2 ⟨y,H2,I2,r2,q2⟩=>?_))
 refine wpAny_bind (wpAny_standAt (wpAny_bind (wpAny_holding (thn (hs pins s2 σ H2 x y v ov iv u _ I2 r1 r2 r q2) λ_ s3 ⟨H3,I3,q3⟩=>?_))))
 exact wpAny_release ⟨σ,H3,I3,q3⟩
def tAsg(te:TE)(g:TG):TS:=λD σ H=>te σ H λx H1=>g x σ H1 D.nx
theorem ps_asg{tg e:Expr}{te:TE}{g:TG}(he:PE X e te)(hg:PG X tg g)(hs:swapsWithSole [tg] e pos.line X.env=pure false:=by rfl)(hw:swappedStores [tg] e X.env=pure none:=by rfl)
 (h1:(assignEach [tg] X.env).map (·.2)= [assign tg X.env]:=by rfl):PS X (.Assign [tg] e pos) (tAsg te g):=by
 intro pins s σ H D I h
 refine wpAny_Assign_stores (thn (he pins s σ H _ I h) λv s1 ⟨x,H1,I1,r1,q1⟩=>?_) hs hw
 rw [h1]
 exact thn (hg pins s1 σ H1 x v _ I1 r1 q1) λ_ s2 q=>q
theorem ps_set{i:Nat}{x:Str}{e:Expr}{te:TE}{pos':Pos}(hN:X.N.Nodup)(hi:X.N[i]? =some x)(hx:Loc X.env.scope x)(he:PE X e te)(hs:swapsWith e (some (.Name x pos')) pos.line X.env=pure false:=by rfl)(hf:X.fn x=true\/X.env.scope.names.lookup x=some .local:=by first | exact .inl rfl | exact .inr rfl | assumption):
 PS X (.Assign [.Name x pos'] e pos) (tAsg te (gName i)):=by
 intro pins s σ H D I h
 refine wpAny_Assign_Name (thn (he pins s σ H _ I h) λv s1 ⟨y,H1,I1,r1,q1⟩=>?_) hs
 exact store_ok I1 hN hi hx r1 (λs2 I2=>⟨_,H1,I2,q1⟩) hf
end
section
variable{X:Cx}{pos:Pos}
def tWhile(c:TT)(tb:TS):TS:=λD σ H=>∃W:Nat->St->Hp->Prop,(∃m,W m σ H)/\∀m σ H,W m σ H->
 c σ H λb H1=>if b=true then ∃N:St->Hp->Prop,(∀σ' H',N σ' H'->∃m',m'<m/\W m' σ' H')/\tb {D with nx:=N,ct:=N,bk:=D.nx} σ H1 else D.nx σ H1
theorem ps_while{c:Expr}{body:List Stmt}{tc:TT}{tb:TS}(hp:PassesOwn (model X.prog X.w) X.A X.env X.xe)(hc:PT X c tc)(hb:PSs X body tb):PS X (.While c body [] pos) (tWhile tc tb):=by
 intro pins s σ H D I h
 obtain⟨W,⟨m0,w0⟩,turn⟩:=h
 refine wpAny_While (codeAny_whileLoop (λn s'=>∃σ' H',Inv X pins σ' H' s'/\W n σ' H') ?_ m0 ⟨σ,H,I,w0⟩)
 rintro n s1 ⟨σ1,H1,I1,w1⟩
 refine wpAny_passesOwn hp (thn (hc pins s1 σ1 H1 _ I1 (turn n σ1 H1 w1)) λb s2 ⟨H2,I2,q2⟩=>?_)
 cases b with
 | true=>
  obtain⟨N,hN,q2⟩:=q2
  rw [if_pos rfl]
  refine wpAny_passesOwn hp (thn (hb pins s2 σ1 H2 _ I2 q2) λf s3 q3=>?_)
  cases f with
  | next=>
   obtain⟨σ3,H3,I3,n3⟩:=q3
   obtain⟨m',hm,w3⟩:=hN σ3 H3 n3
   exact⟨m',hm,σ3,H3,I3,w3⟩
  | cont=>
   obtain⟨σ3,H3,I3,n3⟩:=q3
   obtain⟨m',hm,w3⟩:=hN σ3 H3 n3
   exact⟨m',hm,σ3,H3,I3,w3⟩
  | brk=>exact q3
  | ret v=>exact q3
 | false=>
  rw [if_neg Bool.false_ne_true]
  exact wpAny_execs_nil ⟨σ1,H2,I2,q2⟩
end
structure It where
 go:Nat->Hp->Prop
 yld:Nat->Hp->V->Hp->Prop
 stop:Nat->Hp->Prop
def FpOk(X:Cx)(pins:List (Addr×Obj))(H:Hp)(b:Addr):Prop:=
 H b=none/\b≠X.env.locals/\b∉X.fs/\(b∈X.ex\/X.s₀.heap.objs.size<=b)/\(∀x c,X.env.cells.lookup x=some c->c≠b)/\∀p∈X.pn++pins,p.1≠b
theorem Inv.fpOk{X:Cx}{pins:List (Addr×Obj)}{σ:St}{H H':Hp}{s:Shared}{b:Addr}(I:Inv X pins σ H s)(hb:s.heap.objs.size<=b)(hn:H' b=none):FpOk X pins H' b:=by
 refine⟨hn,Nat.ne_of_gt (Nat.lt_of_lt_of_le I.lt hb),I.nofs hb,.inr (Nat.le_trans I.sz hb),λx c e z=>?_,λp hp z=>?_⟩
 ·obtain⟨v,q⟩:=I.cell x c e
  exact absurd (Nat.lt_of_lt_of_le q.lt (by rw [z];exact hb)) (Nat.lt_irrefl _)
 ·exact absurd (Nat.lt_of_lt_of_le (Heap.lt_size (I.pin p hp).1) (by rw [z];exact hb)) (Nat.lt_irrefl _)
structure Turn(P:Program)(w:World)(K:PySem.W.Frag)(tg:Expr)(J:It)(fp:List Addr)(it:Addr)(tn:Nat->Heap->Prop):Prop where
 mem:it∈fp
 obj:∀i h,tn i h->∀b∈fp,∃o,h.get? b=some o/\∀v,o.data≠.cell v
 keep:∀i h h',tn i h->(∀b∈fp,∀o,h.get? b=some o->h'.get? b=some o)->tn i h'
 item:∀(X:Cx),X.prog=P->X.w=w->X.K=K->X.calm=true->∀(i:Nat) (pins:List (Addr×Obj)) (s:Shared) (σ:St) (H:Hp) (E:Value->Shared->Prop),Inv X pins σ H s->(∀b∈fp,FpOk X pins H b)->tn i s.heap->J.go i H->
  wpAny (model P w) X.A (pyNext (.ref it)) (λr s1=>∃u,r=some u/\
   wpAny (model P w) X.A (letOwnedTupleGo tg (.ref it) u) (λ_ s2=>∃x H',Inv X pins σ H' s2/\RelV x u/\J.yld i H x H'/\tn (i+1) s2.heap/\∀b∈fp,H' b=none) E s1) E s
 done : ∀ (X : Cx), X.prog = P → X.w = w → X.K = K → X.calm = true → ∀ (i : Nat) (pins : List (Addr × Obj)) (s : Shared) (σ : St) (H : Hp) (E : Value → Shared → Prop), Inv X pins σ H s → (∀ b ∈ fp, FpOk X pins H b) → tn i s.heap → J.stop i H →
   wpAny (model P w) X.A (pyNext (.ref it)) (λr s1=>r=none/\Inv X pins σ H s1) E s
 self:∀(A:Around) (i:Nat) (s:Shared) (Q:Value->Shared->Prop) (E:Value->Shared->Prop),tn i s.heap->Q (.ref it) s->wpAny (model P w) A (pyIter (.ref it)) Q E s
abbrev TI:=St->Hp->(It->Hp->Prop)->Prop
def PIE(X:Cx)(pins:List (Addr×Obj))(σ:St)(tg:Expr)(R:It->Hp->Prop)(itv:Value)(s2:Shared):Prop:=
 ∃(it:Addr) (fp:List Addr) (tn:Nat->Heap->Prop) (J:It) (H':Hp),itv= .ref it/\Inv X pins σ H' s2/\Turn X.prog X.w X.K tg J fp it tn/\tn 0 s2.heap/\(∀b∈fp,FpOk X pins H' b)/\R J H'
def PI(X:Cx)(tg iter:Expr)(wi:TI):Prop:=
 ∀(pins:List (Addr×Obj)) (s:Shared) (σ:St) (H:Hp) (R:It->Hp->Prop),Inv X pins σ H s->wi σ H R->
  wpAny (model X.prog X.w) X.A (eval iter X.env) (λv s1=>wpAny (model X.prog X.w) X.A (pyIter v) (PIE X pins σ tg R) X.xe s1) X.xe s
theorem go_of{M:Model}{A:Around}{E:Value->Shared->Prop}{s:Shared}{tg:Expr}{it:Addr}{u:Value}{o:Obj}{n:String}{vs:Array Value}{Q:Unit->Shared->Prop}(ho:s.heap.get? it=some o)(hc:o.cls= .type n)(hd:o.data= .fields vs)
 (hn:["enumerate","zip","dict_itemiterator","dict_reverseitemiterator","odict_iterator","itertools.zip_longest","itertools.pairwise"].contains n=false) (hQ:Q () s):wpAny M A (letOwnedTupleGo tg (.ref it) u) Q E s:=by
 unfold letOwnedTupleGo
 cases tg<;>first
  | exact wpAny_pure hQ
  | (cases u<;>first
   | exact wpAny_pure hQ
   | (refine wpAny_bind (wpAny_load ho ?_)
      rw [hc,hd]
      show wpAny M A (if (["enumerate","zip","dict_itemiterator","dict_reverseitemiterator","odict_iterator","itertools.zip_longest","itertools.pairwise"].contains n&&vs[0]? ==some (rawInt _))=true then _ else _) Q E s
      rw [if_neg (by intro h;rw [hn,Bool.false_and] at h;cases h)]
      exact wpAny_pure hQ))
def Itl(K:PySem.W.Frag)(a:Addr):It:=
 ⟨λi H=>∃xs x,SqL K H a xs/\xs[i]? =some x,λi H x H'=>H'=H/\∀xs,SqL K H a xs->xs[i]? =some x,λi H=>∃xs,SqL K H a xs/\xs.length<=i⟩
def Itt(K:PySem.W.Frag)(a:Addr):It:=
 ⟨λi H=>∃xs x,SqT K H a xs/\xs[i]? =some x,λi H x H'=>H'=H/\∀xs,SqT K H a xs->xs[i]? =some x,λi H=>∃xs,SqT K H a xs/\xs.length<=i⟩
def Itr(lo:Int)(n:Nat):It:=⟨λi _=>i<n,λi H x H'=>H'=H/\x= .int (lo+i),λi _=>n<=i⟩
theorem turn_list{P:Program}{w:World}{K:PySem.W.Frag}{tg:Expr}(a it:Addr):Turn P w K tg (Itl K a) [it] it (λi h=>h.IsListIter it a i) where
 mem:=by simp
 obj:=λi h st b hb=>by
  have e:b=it:=by simpa using hb
  subst e
  obtain⟨o,e,c,d⟩:=st
  exact⟨o,e,λv z=>by rw [d] at z;cases z⟩
 keep:=λi h h' st k=>st.at λo e=>k it (by simp) o e
 item:=by
  intro X hP hw hK hc i pins s σ H E I hf st hg
  subst hP hw hK
  obtain⟨xs,x,hq,hx⟩:=hg
  obtain⟨its,rv,p,hz⟩:=I.list hq
  obtain⟨u,hu,ru⟩:=rv.get hx
  obtain⟨f0,f1,f2,f3,f4,f5⟩:=hf it (by simp)
  refine wpAny_pyNext_list_item st p.isList (x:=u) (by simpa using hu) λh' st' sb=>?_
  have I1:Inv X pins σ H {s with heap:=h'}:=I.turned (t':=s.toks) (λb o hb e=>(sb.2 b hb).trans e) f0 f1 f3 f4 f5
  obtain⟨o,e,c,d⟩:=id st'
  exact⟨u,rfl,go_of (s:={s with heap:=h'}) e c d (by decide) ⟨x,H,I1,ru,⟨rfl,λys hy=>by rw [I.list_inj hy hq];exact hx⟩,st',λb hb=>(hf b hb).1⟩⟩
 done := by
   intro X hP hw hK hc i pins s σ H E I hf st hg
   subst hP hw hK
   obtain⟨xs,hq,hx⟩:=hg
   obtain⟨its,rv,p,hz⟩:=I.list hq
   obtain⟨f0,f1,f2,f3,f4,f5⟩:=hf it (by simp)
   have hl:=rv.length
   exact wpAny_pyNext_list_end (I.ok.hd hc) st p.isList (by simp;omega) λh' eb=>⟨rfl,I.turned (t':=s.toks) (λb o hb e=>eb b o hb e) f0 f1 f3 f4 f5⟩
 self:=λ_ _ _ _ _ st h=>wpAny_pyIter_listiter st h
theorem turn_tuple{P:Program}{w:World}{K:PySem.W.Frag}{tg:Expr}(a it:Addr):Turn P w K tg (Itt K a) [it] it (λi h=>h.IsTupleIter it a i) where
 mem:=by simp
 obj:=λi h st b hb=>by
  have e:b=it:=by simpa using hb
  subst e
  obtain⟨o,e,c,d⟩:=st
  exact⟨o,e,λv z=>by rw [d] at z;cases z⟩
 keep:=λi h h' st k=>st.at λo e=>k it (by simp) o e
 item:=by
  intro X hP hw hK hc i pins s σ H E I hf st hg
  subst hP hw hK
  obtain⟨xs,x,hq,hx⟩:=hg
  obtain⟨its,rv,p,hz⟩:=I.tuple hq
  obtain⟨u,hu,ru⟩:=rv.get hx
  obtain⟨f0,f1,f2,f3,f4,f5⟩:=hf it (by simp)
  refine wpAny_pyNext_tuple_item st (show s.heap.IsTuple a its.toArray from p) (x:=u) (by simpa using hu) λh' st' sb=>?_
  have I1:Inv X pins σ H {s with heap:=h'}:=I.turned (t':=s.toks) (λb o hb e=>(sb.2 b hb).trans e) f0 f1 f3 f4 f5
  obtain⟨o,e,c,d⟩:=id st'
  exact⟨u,rfl,go_of (s:={s with heap:=h'}) e c d (by decide) ⟨x,H,I1,ru,⟨rfl,λys hy=>by rw [I.tuple_inj hy hq];exact hx⟩,st',λb hb=>(hf b hb).1⟩⟩
 done := by
   intro X hP hw hK hc i pins s σ H E I hf st hg
   subst hP hw hK
   obtain⟨xs,hq,hx⟩:=hg
   obtain⟨its,rv,p,hz⟩:=I.tuple hq
   obtain⟨f0,f1,f2,f3,f4,f5⟩:=hf it (by simp)
   have hl:=rv.length
   exact wpAny_pyNext_tuple_end (I.ok.hd hc) st (show s.heap.IsTuple a its.toArray from p) (by simp;omega) λh' eb=>⟨rfl,I.turned (t':=s.toks) (λb o hb e=>eb b o hb e) f0 f1 f3 f4 f5⟩
 self:=λ_ _ _ _ _ st h=>wpAny_pyIter_tupleiter st h
theorem turn_range{P:Program}{w:World}{K:PySem.W.Frag}{tg:Expr}(it:Addr)(lo:Int)(n:Nat):Turn P w K tg (Itr lo n) [it] it (λi h=>IsRangeIter h it (lo+(i:Nat)*1) ((n:Int)-(i:Nat)) 1) where
 mem:=by simp
 obj:=λi h st b hb=>by
  have e:b=it:=by simpa using hb
  subst e
  exact⟨_,st,λv z=>by
   have z':Data.fields _=Data.cell v:=z
   cases z'⟩
 keep:=λi h h' st k=>k it (by simp) _ st
 item:=by
  intro X hP hw hK hc i pins s σ H E I hf st hg
  subst hP hw hK
  obtain⟨f0,f1,f2,f3,f4,f5⟩:=hf it (by simp)
  have W:=Walks.range (prog:=X.prog) (w:=X.w) (I.ok.hd hc) it lo 1 n
  refine W.item i s _ _ hg st λv h' tk hv st' kk=>?_
  obtain⟨t,rfl⟩:=hv
  have I1:Inv X pins σ H {s with heap:=h',toks:=tk}:=I.turned (λb o hb e=>kk b o (by simpa using hb) e) f0 f1 f3 f4 f5
  refine⟨_,rfl,go_of (s:={s with heap:=h',toks:=tk}) (n:="range_iterator") st' rfl rfl (by decide) ⟨.int (lo+i),H,I1,⟨t,?_⟩,⟨rfl,rfl⟩,st',λb hb=>(hf b hb).1⟩⟩
  rw [Int.mul_one]
 done := by
   intro X hP hw hK hc i pins s σ H E I hf st hg
   subst hP hw hK
   obtain⟨f0,f1,f2,f3,f4,f5⟩:=hf it (by simp)
   exact wpAny_pyNext_range_end (I.ok.hd hc) st (by have:n<=i:=hg;omega) λh' eb=>⟨rfl,I.turned (t':=s.toks) (λb o hb e=>eb b o hb e) f0 f1 f3 f4 f5⟩
 self:=λ_ _ _ _ _ st h=>wpAny_pyIter_rangeiter st h
end L2
namespace L2
open PySem PySem.Spec PyProof.Rows
section
variable{X:Cx}{tg:Expr}
def iList(K:PySem.W.Frag)(tl:TE):TI:=λσ H R=>tl σ H λx H1=>∃a,x= .ref a/\(∃xs,SqL K H1 a xs)/\R (Itl K a) H1
def iTup(K:PySem.W.Frag)(tl:TE):TI:=λσ H R=>tl σ H λx H1=>∃a,x= .ref a/\(∃xs,SqT K H1 a xs)/\R (Itt K a) H1
theorem pi_list{l:Expr}{tl:TE}(hl:PE X l tl):PI X tg l (iList X.K tl):=by
 intro pins s σ H R I h
 refine thn (hl pins s σ H _ I h) λv s1 ⟨x,H1,I1,r1,q1⟩=>?_
 obtain⟨a,e,⟨xs,hq⟩,q⟩:=q1
 subst e
 cases r1
 obtain⟨its,rv,p,hz⟩:=I1.list hq
 refine wpAny_pyIter_list p.isList ?_
 refine⟨s1.heap.objs.size,[s1.heap.objs.size],_,_,H1,rfl,I1.kept (t':=s1.toks) λb o e=>Heap.get?_push_of_some _ e,turn_list a _,⟨_,Heap.get?_push_size _ rfl,rfl,rfl⟩,λb hb=>?_,q⟩
 have e:b=s1.heap.objs.size:=by simpa using hb
 subst e
 exact I1.fpOk (Nat.le_refl _) (I1.hok.fresh (Nat.le_refl _))
theorem pi_tup{l:Expr}{tl:TE}(hl:PE X l tl):PI X tg l (iTup X.K tl):=by
 intro pins s σ H R I h
 refine thn (hl pins s σ H _ I h) λv s1 ⟨x,H1,I1,r1,q1⟩=>?_
 obtain⟨a,e,⟨xs,hq⟩,q⟩:=q1
 subst e
 cases r1
 obtain⟨its,rv,p,hz⟩:=I1.tuple hq
 refine wpAny_pyIter_tuple (show s1.heap.IsTuple a its.toArray from p) ?_
 refine⟨s1.heap.objs.size,[s1.heap.objs.size],_,_,H1,rfl,I1.kept (t':=s1.toks) λb o e=>Heap.get?_push_of_some _ e,turn_tuple a _,⟨_,Heap.get?_push_size _ rfl,rfl,rfl⟩,λb hb=>?_,q⟩
 have e:b=s1.heap.objs.size:=by simpa using hb
 subst e
 exact I1.fpOk (Nat.le_refl _) (I1.hok.fresh (Nat.le_refl _))
theorem range_it{pins:List (Addr×Obj)}{σ:St}{H:Hp}{s:Shared}{R:It->Hp->Prop}{E:Value->Shared->Prop}{lo hi:Int}{t u v:Tok}{tk:Nat}(I:Inv X pins σ H s)(h1: -(2^62)<=lo)(h2:lo<2^62)(h3: -(2^62)<=hi)(h4:hi<2^62)
 (q:R (Itr lo (hi-lo).toNat) H):wpAny (model X.prog X.w) X.A (pyIter (.ref s.heap.objs.size)) (PIE X pins σ tg R) E {s with heap:=s.heap.push {cls:=.type "range",data:=.fields #[.int lo t,.int hi u,.int 1 v]},toks:=tk}:=by
 refine wpAny_pyIter_range (IsRange.new ..) (small_one h1 h2 h3 h4) ?_
 have I1:Inv X pins σ H {s with heap:=s.heap.push {cls:=.type "range",data:=.fields #[.int lo t,.int hi u,.int 1 v]},toks:=tk}:=I.kept λb o e=>Heap.get?_push_of_some _ e
 refine⟨(s.heap.push {cls:=.type "range",data:=.fields #[.int lo t,.int hi u,.int 1 v]}).objs.size,[(s.heap.push {cls:=.type "range",data:=.fields #[.int lo t,.int hi u,.int 1 v]}).objs.size],_,_,H,rfl,
  I1.kept (t':=tk) λb o e=>Heap.get?_push_of_some _ e,turn_range _ lo (hi-lo).toNat,?_,λb hb=>?_,q⟩
 ·have e1:lo+((0:Nat):Int)*1=lo:=by simp
  have e2:(((hi-lo).toNat:Nat):Int)-((0:Nat):Int)=Builtin.Range.rangeSize lo hi 1:=by rw [rangeSize_one];split<;>omega
  show IsRangeIter _ _ (lo+((0:Nat):Int)*1) ((((hi-lo).toNat:Nat):Int)-((0:Nat):Int)) 1
  rw [e1,e2]
  exact Heap.get?_push_size _ rfl
 ·have e:b=(s.heap.push {cls:=.type "range",data:=.fields #[.int lo t,.int hi u,.int 1 v]}).objs.size:=by simpa using hb
  subst e
  exact I1.fpOk (Nat.le_refl _) (I1.hok.fresh (Nat.le_refl _))
def iRng1(ta:TA):TI:=λσ H R=>ta σ H λvs H1=>∃j:Int,vs= [.int j]/\ -(2^62)<=j/\j<2^62/\R (Itr 0 j.toNat) H1
theorem pi_range1{a:Expr}{ta:TA}{p pos:Pos}(hg:Gl X "range")(hm:X.mg "range" =none)(ha:PA X [a] ta)(hs:starEach [a] X.env= [(false,eval a X.env)]:=by rfl):PI X tg (.Call (.Name "range" p) [a] [] pos) (iRng1 ta):=by
 intro pins s σ H R I h
 refine Call_ (ld_blt I hg hm boot_range (PyProof.Rows.callWith_type1 (thn (ha pos pins s σ H _ I h) λus s1 ⟨vs,H1,I1,r1,q1⟩=>?_) hs rfl))
 obtain⟨j,e,q1,q2,q⟩:=q1
 subst e
 cases r1 with
 | cons r rr=>
  cases rr
  obtain⟨t,rfl⟩:=r
  exact call_range_1 (range_it I1 (by omega) (by omega) q1 q2 (by simpa using q))
def tFor(wi:TI)(g:TG)(tb:TS):TS:=λD σ H=>wi σ H λJ H1=>∃W:Nat->Nat->St->Hp->Prop,(∃m,W 0 m σ H1)/\∀i m σ H,W i m σ H->
 (J.stop i H/\D.nx σ H)\/(J.go i H/\∃N:St->Hp->Prop,(∀σ' H',N σ' H'->∃m',m'<m/\W (i+1) m' σ' H')/\∀x H',J.yld i H x H'->g x σ H' λσ2 H2=>tb {D with nx:=N,ct:=N,bk:=D.nx} σ2 H2)
def pinsAt(fp:List Addr)(h:Heap):List (Addr×Obj):=fp.filterMap λb=>(h.get? b).map λo=>(b,o)
theorem mem_pinsAt{fp:List Addr}{h:Heap}{b:Addr}{o:Obj}(hb:b∈fp)(e:h.get? b=some o):(b,o)∈pinsAt fp h:=List.mem_filterMap.mpr ⟨b,hb,by rw [e];rfl⟩
theorem of_pinsAt{fp:List Addr}{h:Heap}{p:Addr×Obj}(hp:p∈pinsAt fp h):p.1∈fp/\h.get? p.1=some p.2:=by
 obtain⟨b,hb,e⟩:=List.mem_filterMap.mp hp
 cases q:h.get? b with
 | none=>rw [q] at e;cases e
 | some o=>
  rw [q] at e
  have e':(b,o)=p:=Option.some.inj e
  subst e'
  exact⟨hb,q⟩
theorem Inv.pinned{pins:List (Addr×Obj)}{σ:St}{H:Hp}{s:Shared}{fp:List Addr}(I:Inv X pins σ H s)(hf:∀b∈fp,FpOk X pins H b)(ho:∀b∈fp,∃o,s.heap.get? b=some o/\∀v,o.data≠.cell v):Inv X (pins++pinsAt fp s.heap) σ H s:=
 I.pins_of λp hp=>(List.mem_append.mp hp).elim (λz=>I.pin p (List.mem_append_right _ z)) λz=>by
  obtain⟨hb,e⟩:=of_pinsAt z
  obtain⟨f0,f1,f2,_⟩:=hf p.1 hb
  obtain⟨o,e',d⟩:=ho p.1 hb
  rw [e] at e';cases e'
  exact⟨e,f0,f1,f2,d⟩
theorem Inv.unpinned{pins pl:List (Addr×Obj)}{σ:St}{H:Hp}{s:Shared}(I:Inv X (pins++pl) σ H s):Inv X pins σ H s:=I.pins_of λp hp=>I.pin p (List.mem_append_right _ (List.mem_append_left _ hp))
theorem ps_for{iter:Expr}{body:List Stmt}{wi:TI}{g:TG}{tb:TS}{pos:Pos}(hp:PassesOwn (model X.prog X.w) X.A X.env X.xe)(hc:X.calm=true)(hi:PI X tg iter wi)(hg:PG X tg g)(hb:PSs X body tb)
 (hs:∀x,foldedSetIterable iter X.env x=pure x:=by intro _;rfl):PS X (.For tg iter body [] pos) (tFor wi g tb):=by
 intro pins s σ H D I h
 refine wpAny_For (thn (hi pins s σ H _ I h) λv s1 h1=>thn h1 λitv s2 h2=>?_) hs
 obtain⟨it,fp,tn,J,H2,e,I2,T,st2,f2,W,⟨m0,w0⟩,turn⟩:=h2
 subst e
 -- what stays true of the iterator's objects through the loop
 have stat:∀{H':Hp},(∀b∈fp,H' b=none)->∀b∈fp,FpOk X pins H' b:=λhn b hb=>⟨hn b hb,(f2 b hb).2⟩
 refine codeAny_forLoop_any (λn s'=>∃i σ' H',Inv X pins σ' H' s'/\tn i s'.heap/\(∀b∈fp,H' b=none)/\W i n σ' H') ?_ m0 ⟨0,σ,H2,I2,st2,λb hb=>(f2 b hb).1,w0⟩
 rintro n s3 ⟨i,σ3,H3,I3,st3,fr3,w3⟩
 rcases turn i n σ3 H3 w3 with ⟨stop,qn⟩ | ⟨go,N,hN,step⟩
 ·refine wpAny_passesOwn hp (thn (T.done X rfl rfl rfl hc i pins s3 σ3 H3 X.xe I3 (stat fr3) st3 stop) λr s4 ⟨hr,I4⟩=>?_)
  subst hr
  exact wpAny_execs_nil ⟨σ3,H3,I4,qn⟩
 ·refine wpAny_passesOwn hp (thn (T.item X rfl rfl rfl hc i pins s3 σ3 H3 X.xe I3 (stat fr3) st3 go) λr s4 ⟨u,hr,h4⟩=>?_)
  subst hr
  refine wpAny_passesOwn hp (thn h4 λ_ s5 ⟨x,H5,I5,r5,y5,st5,fr5⟩=>?_)
  have I5':=I5.pinned (stat fr5) (T.obj _ _ st5)
  refine wpAny_passesOwn hp (thn (hg _ s5 σ3 H5 x u _ I5' r5 (step x H5 y5)) λ_ s6 ⟨σ6,H6,I6,q6⟩=>?_)
  refine wpAny_passesOwn hp (thn (hb _ s6 σ6 H6 _ I6 q6) λf s7 q7=>?_)
  have again:∀{σ7:St} {H7:Hp},Inv X (pins++pinsAt fp s5.heap) σ7 H7 s7->N σ7 H7->∃m,m<n/\∃i σ' H',Inv X pins σ' H' s7/\tn i s7.heap/\(∀b∈fp,H' b=none)/\W i m σ' H':=λ{σ7 H7} I7 n7=>by
   obtain⟨m',hm,w7⟩:=hN σ7 H7 n7
   refine⟨m',hm,i+1,σ7,H7,I7.unpinned,T.keep _ _ _ st5 λb hb o e=>(I7.pin (b,o) (List.mem_append_right _ (List.mem_append_right _ (mem_pinsAt hb e)))).1,λb hb=>?_,w7⟩
   obtain⟨o,e,d⟩:=T.obj _ _ st5 b hb
   exact(I7.pin (b,o) (List.mem_append_right _ (List.mem_append_right _ (mem_pinsAt hb e)))).2.1
  cases f with
  | next=>obtain⟨σ7,H7,I7,n7⟩:=q7;exact again I7 n7
  | cont=>obtain⟨σ7,H7,I7,n7⟩:=q7;exact again I7 n7
  | brk=>obtain⟨σ7,H7,I7,q7⟩:=q7;exact⟨σ7,H7,I7.unpinned,q7⟩
  | ret v=>obtain⟨x7,σ7,H7,I7,r7,q7⟩:=q7;exact⟨x7,σ7,H7,I7.unpinned,r7,q7⟩
end
theorem for_list{K:PySem.W.Frag}{a:Addr}{xs:List V}{g:TG}{tb:TS}{D:Ends}{σ:St}{H:Hp}(Pv:Nat->St->Hp->Prop)(h0:Pv 0 σ H)(hl:∀i σ H,i<=xs.length->Pv i σ H->SqL K H a xs)
 (hs:∀i x σ H,xs[i]? =some x->Pv i σ H->g x σ H λσ2 H2=>tb {D with nx:=Pv (i+1),ct:=Pv (i+1),bk:=D.nx} σ2 H2) (hd:∀σ H,Pv xs.length σ H->D.nx σ H):
 ∃W:Nat->Nat->St->Hp->Prop,(∃m,W 0 m σ H)/\∀i m σ H,W i m σ H->
  ((Itl K a).stop i H/\D.nx σ H)\/((Itl K a).go i H/\∃N:St->Hp->Prop,(∀σ' H',N σ' H'->∃m',m'<m/\W (i+1) m' σ' H')/\∀x H',(Itl K a).yld i H x H'->g x σ H' λσ2 H2=>tb {D with nx:=N,ct:=N,bk:=D.nx} σ2 H2):=by
 refine⟨λi m σ H=>m=xs.length-i/\i<=xs.length/\Pv i σ H,⟨xs.length,by simp,Nat.zero_le _,h0⟩,?_⟩
 rintro i m σ H ⟨rfl,hi,p⟩
 have q:=hl i σ H hi p
 by_cases hlt:i<xs.length
 ·refine .inr ⟨⟨xs,xs[i],q,by simp [hlt]⟩,Pv (i+1),λσ' H' p'=>⟨xs.length-(i+1),by omega,rfl,hlt,p'⟩,λx H' y=>?_⟩
  obtain⟨e,y⟩:=y
  subst e
  exact hs i x σ _ (y xs q) p
 ·have e:i=xs.length:=by omega
  subst e
  exact .inl ⟨⟨xs,q,Nat.le_refl _⟩,hd σ H p⟩
theorem for_tup{K:PySem.W.Frag}{a:Addr}{xs:List V}{g:TG}{tb:TS}{D:Ends}{σ:St}{H:Hp}(Pv:Nat->St->Hp->Prop)(h0:Pv 0 σ H)(hl:∀i σ H,i<=xs.length->Pv i σ H->SqT K H a xs)
 (hs:∀i x σ H,xs[i]? =some x->Pv i σ H->g x σ H λσ2 H2=>tb {D with nx:=Pv (i+1),ct:=Pv (i+1),bk:=D.nx} σ2 H2) (hd:∀σ H,Pv xs.length σ H->D.nx σ H):
 ∃W:Nat->Nat->St->Hp->Prop,(∃m,W 0 m σ H)/\∀i m σ H,W i m σ H->
  ((Itt K a).stop i H/\D.nx σ H)\/((Itt K a).go i H/\∃N:St->Hp->Prop,(∀σ' H',N σ' H'->∃m',m'<m/\W (i+1) m' σ' H')/\∀x H',(Itt K a).yld i H x H'->g x σ H' λσ2 H2=>tb {D with nx:=N,ct:=N,bk:=D.nx} σ2 H2):=by
 refine⟨λi m σ H=>m=xs.length-i/\i<=xs.length/\Pv i σ H,⟨xs.length,by simp,Nat.zero_le _,h0⟩,?_⟩
 rintro i m σ H ⟨rfl,hi,p⟩
 have q:=hl i σ H hi p
 by_cases hlt:i<xs.length
 ·refine .inr ⟨⟨xs,xs[i],q,by simp [hlt]⟩,Pv (i+1),λσ' H' p'=>⟨xs.length-(i+1),by omega,rfl,hlt,p'⟩,λx H' y=>?_⟩
  obtain⟨e,y⟩:=y
  subst e
  exact hs i x σ _ (y xs q) p
 ·have e:i=xs.length:=by omega
  subst e
  exact .inl ⟨⟨xs,q,Nat.le_refl _⟩,hd σ H p⟩
theorem for_range{lo:Int}{n:Nat}{g:TG}{tb:TS}{D:Ends}{σ:St}{H:Hp}(Pv:Nat->St->Hp->Prop)(h0:Pv 0 σ H)
 (hs:∀i σ H,i<n->Pv i σ H->g (.int (lo+i)) σ H λσ2 H2=>tb {D with nx:=Pv (i+1),ct:=Pv (i+1),bk:=D.nx} σ2 H2) (hd:∀σ H,Pv n σ H->D.nx σ H):
 ∃W:Nat->Nat->St->Hp->Prop,(∃m,W 0 m σ H)/\∀i m σ H,W i m σ H->
  ((Itr lo n).stop i H/\D.nx σ H)\/((Itr lo n).go i H/\∃N:St->Hp->Prop,(∀σ' H',N σ' H'->∃m',m'<m/\W (i+1) m' σ' H')/\∀x H',(Itr lo n).yld i H x H'->g x σ H' λσ2 H2=>tb {D with nx:=N,ct:=N,bk:=D.nx} σ2 H2):=by
 refine⟨λi m σ H=>m=n-i/\i<=n/\Pv i σ H,⟨n,by simp,Nat.zero_le _,h0⟩,?_⟩
 rintro i m σ H ⟨rfl,hi,p⟩
 by_cases hlt:i<n
 ·refine .inr ⟨hlt,Pv (i+1),λσ' H' p'=>⟨n-(i+1),by omega,rfl,hlt,p'⟩,λx H' y=>?_⟩
  obtain⟨e,y⟩:=y
  subst e y
  exact hs i σ _ hlt p
 ·have e:i=n:=by omega
  subst e
  exact .inl ⟨Nat.le_refl _,hd σ H p⟩
end L2
namespace L2
open PySem PySem.Spec PyProof.Rows
abbrev R2:=V->V->Hp->VK->Prop
def OpR(X:Cx)(f:Value->Value->Sem Value)(r:R2):Prop:=
 ∀(pins:List (Addr×Obj)) (s:Shared) (σ:St) (H:Hp) (x y:V) (v u:Value) (Q:VK),Inv X pins σ H s->RelV x v->RelV y u->r x y H Q->
  wpAny (model X.prog X.w) X.A (f v u) (EP X pins σ Q) X.xe s
def UnR(X:Cx)(f:Value->Sem Value)(r:V->Hp->VK->Prop):Prop:=
 ∀(pins:List (Addr×Obj)) (s:Shared) (σ:St) (H:Hp) (x:V) (v:Value) (Q:VK),Inv X pins σ H s->RelV x v->r x H Q->
  wpAny (model X.prog X.w) X.A (f v) (EP X pins σ Q) X.xe s
def CallR(X:Cx)(f:Value)(r:List V->Hp->VK->Prop):Prop:=
 ∀(pins:List (Addr×Obj)) (s:Shared) (σ:St) (H:Hp) (xs:List V) (us:List Value) (Q:VK),Inv X pins σ H s->Vals xs us->r xs H Q->
  wpAny (model X.prog X.w) X.A (call f us) (EP X pins σ Q) X.xe s
def TruR(X:Cx)(r:V->Hp->(Bool->Hp->Prop)->Prop):Prop:=
 ∀(pins:List (Addr×Obj)) (s:Shared) (σ:St) (H:Hp) (x:V) (v:Value) (Q:Bool->Hp->Prop),Inv X pins σ H s->RelV x v->r x H Q->
  wpAny (model X.prog X.w) X.A (truthy v) (TP X pins σ Q) X.xe s
def tOp(r:R2)(ta tb:TE):TE:=λσ H Q=>ta σ H λx H1=>tb σ H1 λy H2=>r x y H2 Q
def tUn(r:V->Hp->VK->Prop)(ta:TE):TE:=λσ H Q=>ta σ H λx H1=>r x H1 Q
def rI(C:Int->Int->Prop)(g:Int->Int->V):R2:=λx y H Q=>∃i j,x= .int i/\y= .int j/\C i j/\Q (g i j) H
def rI0(g:Int->Int->V):R2:=λx y H Q=>∃i j,x= .int i/\y= .int j/\Q (g i j) H
def rU(g:Int->V):V->Hp->VK->Prop:=λx H Q=>∃i,x= .int i/\Q (g i) H
section
variable{X:Cx}{a b c:Expr}{ta tb tc:TE}{pos:Pos}
theorem binT(ha:PE X a ta)(hb:PE X b tb){pins:List (Addr×Obj)}{s:Shared}{σ:St}{H:Hp}{R:V->V->Hp->Prop}(I:Inv X pins σ H s)
 (h:ta σ H λx H1=>tb σ H1 λy H2=>R x y H2) {Q:Value->Shared->Prop} {f:Value->Value->Sem Value}
 (hf:∀v u s2 x y H2,Inv X pins σ H2 s2->RelV x v->RelV y u->R x y H2->wpAny (model X.prog X.w) X.A (f v u) Q X.xe s2):
 wpAny (model X.prog X.w) X.A (eval a X.env) (λv s₁=>wpAny (model X.prog X.w) X.A (eval b X.env) (λu s₂=>wpAny (model X.prog X.w) X.A (f v u) Q X.xe s₂) X.xe s₁) X.xe s:=by
 refine thn (ha pins s σ H _ I h) λv s1 ⟨x,H1,I1,r1,q1⟩=>?_
 refine thn (hb pins s1 σ H1 _ I1 q1) λu s2 ⟨y,H2,I2,r2,q2⟩=>?_
 exact hf v u s2 x y H2 I2 r1 r2 q2
theorem pe_op{op:Operator}{r:R2}(ho:OpR X (binaryOp op) r)(ha:PE X a ta)(hb:PE X b tb):PE X (.BinOp a op b pos) (tOp r ta tb):=by
 intro pins s σ H Q I h
 exact wpAny_BinOp (binT ha hb I h λv u s2 x y H2 I2 rx ry q=>ho pins s2 σ H2 x y v u Q I2 rx ry q)
theorem pe_un{op:UnaryOp}{r:V->Hp->VK->Prop}(ho:UnR X (unaryOp op) r)(ha:PE X a ta):PE X (.UnaryOp op a pos) (tUn r ta):=by
 intro pins s σ H Q I h
 exact UnaryOp_ (thn (ha pins s σ H _ I h) λv s1 ⟨x,H1,I1,r1,q1⟩=>ho pins s1 σ H1 x v Q I1 r1 q1)
theorem opI{f:Value->Value->Sem Value}{C:Int->Int->Prop}{g:Int->Int->Int}
 (rule:∀(i j:Int) (t u:Tok) (s:Shared) (Q:Value->Shared->Prop) (E:Value->Shared->Prop),C i j->Q (.int (g i j) s.toks) {s with toks:=s.toks+1}->wpAny (model X.prog X.w) X.A (f (.int i t) (.int j u)) Q E s):
 OpR X f (rI C λi j=>.int (g i j)):=by
 intro pins s σ H x y v u Q I rx ry h
 obtain⟨i,j,rfl,rfl,hc,q⟩:=h
 obtain⟨t,rfl⟩:=rx
 obtain⟨t',rfl⟩:=ry
 exact rule i j t t' s _ _ hc ⟨.int (g i j),H,I.tok _,⟨_,rfl⟩,q⟩
theorem opI0{f:Value->Value->Sem Value}{g:Int->Int->Int}
 (rule:∀(i j:Int) (t u:Tok) (s:Shared) (Q:Value->Shared->Prop) (E:Value->Shared->Prop),Q (.int (g i j) s.toks) {s with toks:=s.toks+1}->wpAny (model X.prog X.w) X.A (f (.int i t) (.int j u)) Q E s):
 OpR X f (rI0 λi j=>.int (g i j)):=by
 intro pins s σ H x y v u Q I rx ry h
 obtain⟨i,j,rfl,rfl,q⟩:=h
 obtain⟨t,rfl⟩:=rx
 obtain⟨t',rfl⟩:=ry
 exact rule i j t t' s _ _ ⟨.int (g i j),H,I.tok _,⟨_,rfl⟩,q⟩
theorem opB0{f:Value->Value->Sem Value}{g:Int->Int->Bool}
 (rule:∀(i j:Int) (t u:Tok) (s:Shared) (Q:Value->Shared->Prop) (E:Value->Shared->Prop),Q (.bool (g i j)) s->wpAny (model X.prog X.w) X.A (f (.int i t) (.int j u)) Q E s):
 OpR X f (rI0 λi j=>.bl (g i j)):=by
 intro pins s σ H x y v u Q I rx ry h
 obtain⟨i,j,rfl,rfl,q⟩:=h
 obtain⟨t,rfl⟩:=rx
 obtain⟨t',rfl⟩:=ry
 exact rule i j t t' s _ _ ⟨.bl (g i j),H,I,rfl,q⟩
def CDiv(i j:Int):Prop:=0<j/\j<1073741824
def CPow(i j:Int):Prop:=0<=j/\j<=1000000/\i.natAbs<2^64
def CMul(i j:Int):Prop:=(-(2^64)<i/\i<2^64)\/(-(2^64)<j/\j<2^64)
theorem CMul.ok{i j:Int}(h:CMul i j):IntMulOk i j:=by
 rcases h with ⟨h1,h2⟩ | ⟨h1,h2⟩
 ·exact .of_left (intBits_le_64 h1 h2)
 ·exact .of_right (intBits_le_64 h1 h2)
theorem op_add:OpR X (binaryOp .Add) (rI0 λi j=>.int (i+j)):=opI0 λ_ _ _ _ _ _ _ q=>add_int q
theorem op_sub:OpR X (binaryOp .Sub) (rI0 λi j=>.int (i-j)):=opI0 λ_ _ _ _ _ _ _ q=>sub_int q
theorem op_mul:OpR X (binaryOp .Mult) (rI CMul λi j=>.int (i*j)):=opI λ_ _ _ _ _ _ _ hc q=>mul_int q hc.ok
theorem op_fdiv:OpR X (binaryOp .FloorDiv) (rI CDiv λi j=>.int (i/j)):=opI λi j _ _ _ _ _ hc q=>by
 have h1:(0:Int)<j:=hc.1
 have h2:j<1073741824:=hc.2
 exact floordiv_int (by omega) (by rw [Int.fdiv_eq_ediv_of_nonneg i (by omega)];exact q) (.inl (PyProof.noPylong_small (by omega)))
theorem op_mod:OpR X (binaryOp .Mod) (rI (λ_ j=>0<j) λi j=>.int (i%j)):=opI λi j _ _ _ _ _ hc q=>by
 have h1:(0:Int)<j:=hc
 exact mod_int' (by omega) (by rw [Int.fmod_eq_emod_of_nonneg i (by omega)];exact q)
theorem op_pow:OpR X (binaryOp .Pow) (rI CPow λi j=>.int (i^j.toNat)):=opI λ_ _ _ _ _ _ _ hc q=>pow_int_small hc.1 hc.2.1 hc.2.2 q
theorem unI{f:Value->Sem Value}{g:Int->Int}
 (rule:∀(i:Int) (t:Tok) (s:Shared) (Q:Value->Shared->Prop) (E:Value->Shared->Prop),Q (.int (g i) s.toks) {s with toks:=s.toks+1}->wpAny (model X.prog X.w) X.A (f (.int i t)) Q E s):
 UnR X f (rU λi=>.int (g i)):=by
 intro pins s σ H x v Q I rx h
 obtain⟨i,rfl,q⟩:=h
 obtain⟨t,rfl⟩:=rx
 exact rule i t s _ _ ⟨.int (g i),H,I.tok _,⟨_,rfl⟩,q⟩
theorem un_neg:UnR X (unaryOp .USub) (rU λi=>.int (-i)):=unI λ_ _ _ _ _ q=>neg_int q
end
def scal:V->V->Bool
 | .non,.non=>true | .non,.int _=>true | .int _,.non=>true | .non,.bl _=>true | .bl _,.non=>true | .non,.str _=>true | .str _,.non=>true
 | .int _,.int _=>true | .bl _,.bl _=>true | .str _,.str _=>true | .byt _,.byt _=>true
 | .int _,.str _=>true | .str _,.int _=>true | .bl _,.str _=>true | .str _,.bl _=>true
 | _,_=>false
def rEq:R2:=λx y H Q=>scal x y=true/\Q (.bl (decide (x=y))) H
def rNe:R2:=λx y H Q=>scal x y=true/\Q (.bl (!decide (x=y))) H
theorem dec_int{i j:Int}:decide (V.int i=V.int j)=(i==j):=by
 rw [Bool.eq_iff_iff]
 simp
theorem dec_bl{i j:Bool}:decide (V.bl i=V.bl j)=(i==j):=by
 rw [Bool.eq_iff_iff]
 simp
theorem dec_str{i j:Str}:decide (V.str i=V.str j)=(i==j):=by
 rw [Bool.eq_iff_iff]
 simp
theorem dec_byt{i j:Array UInt8}:decide (V.byt i=V.byt j)=(i.toList==j.toList):=by
 rw [Bool.eq_iff_iff]
 cases i
 cases j
 simp
section
variable{X:Cx}{a b c:Expr}{ta tb tc:TE}{pos:Pos}
theorem fin_bl{pins:List (Addr×Obj)}{σ:St}{H:Hp}{s:Shared}{Q:VK}{k k':Bool}(I:Inv X pins σ H s)(q:Q (.bl k) H)(e:k=k'):EP X pins σ Q (.bool k') s:=by
 subst e
 exact⟨.bl k,H,I,rfl,q⟩
theorem op_eq:OpR X (compareOp .Eq) rEq:=by
 intro pins s σ H x y v u Q I rx ry h
 obtain⟨hs,q⟩:=h
 cases x with
 | non=>
  cases rx
  cases y with
  | non=>cases ry;exact PySem.EqNone.eq_none_none (fin_bl I q (by simp))
  | bl j=>cases ry;exact PySem.EqNone.eq_none_bool (fin_bl I q (by simp))
  | int j=>obtain⟨t',rfl⟩:=ry;exact PySem.EqNone.eq_none_int (fin_bl I q (by simp))
  | str j=>obtain⟨t',rfl⟩:=ry;exact PySem.EqNone.eq_none_str (fin_bl I q (by simp))
  | _=>exact absurd (show false=true from hs) Bool.false_ne_true
 | bl i=>
  cases rx
  cases y with
  | non=>cases ry;exact PySem.EqNone.eq_bool_none (fin_bl I q (by simp))
  | bl j=>cases ry;exact eq_bool (fin_bl I q dec_bl)
  | str j=>obtain⟨t',rfl⟩:=ry;exact PySem.EqMixed.eq_bool_str (fin_bl I q (by simp))
  | _=>exact absurd (show false=true from hs) Bool.false_ne_true
 | int i=>
  obtain⟨t,rfl⟩:=rx
  cases y with
  | non=>cases ry;exact PySem.EqNone.eq_int_none (fin_bl I q (by simp))
  | int j=>obtain⟨t',rfl⟩:=ry;exact eq_int (fin_bl I q dec_int)
  | str j=>obtain⟨t',rfl⟩:=ry;exact PySem.EqMixed.eq_int_str (fin_bl I q (by simp))
  | _=>exact absurd (show false=true from hs) Bool.false_ne_true
 | str i=>
  obtain⟨t,rfl⟩:=rx
  cases y with
  | non=>cases ry;exact PySem.EqNone.eq_str_none (fin_bl I q (by simp))
  | bl j=>cases ry;exact PySem.EqMixed.eq_str_bool (fin_bl I q (by simp))
  | int j=>obtain⟨t',rfl⟩:=ry;exact PySem.EqMixed.eq_str_int (fin_bl I q (by simp))
  | str j=>obtain⟨t',rfl⟩:=ry;exact eq_str (fin_bl I q dec_str)
  | _=>exact absurd (show false=true from hs) Bool.false_ne_true
 | byt i=>
  obtain⟨t,rfl⟩:=rx
  cases y with
  | byt j=>obtain⟨t',rfl⟩:=ry;exact PySem.W.eq_bytes (fin_bl I q dec_byt)
  | _=>exact absurd (show false=true from hs) Bool.false_ne_true
 | _=>cases y<;>exact absurd (show false=true from hs) Bool.false_ne_true
theorem op_ne:OpR X (compareOp .NotEq) rNe:=by
 intro pins s σ H x y v u Q I rx ry h
 obtain⟨hs,q⟩:=h
 cases x with
 | non=>
  cases rx
  cases y with
  | non=>cases ry;exact PySem.EqNone.ne_none_none (fin_bl I q (by simp))
  | bl j=>cases ry;exact PySem.EqNone.ne_none_bool (fin_bl I q (by simp))
  | int j=>obtain⟨t',rfl⟩:=ry;exact PySem.EqNone.ne_none_int (fin_bl I q (by simp))
  | str j=>obtain⟨t',rfl⟩:=ry;exact PySem.EqNone.ne_none_str (fin_bl I q (by simp))
  | _=>exact absurd (show false=true from hs) Bool.false_ne_true
 | bl i=>
  cases rx
  cases y with
  | non=>cases ry;exact PySem.EqNone.ne_bool_none (fin_bl I q (by simp))
  | bl j=>cases ry;exact ne_bool (fin_bl I q (congrArg not dec_bl))
  | str j=>obtain⟨t',rfl⟩:=ry;exact PySem.EqMixed.ne_bool_str (fin_bl I q (by simp))
  | _=>exact absurd (show false=true from hs) Bool.false_ne_true
 | int i=>
  obtain⟨t,rfl⟩:=rx
  cases y with
  | non=>cases ry;exact PySem.EqNone.ne_int_none (fin_bl I q (by simp))
  | int j=>obtain⟨t',rfl⟩:=ry;exact ne_int (fin_bl I q (congrArg not dec_int))
  | str j=>obtain⟨t',rfl⟩:=ry;exact PySem.EqMixed.ne_int_str (fin_bl I q (by simp))
  | _=>exact absurd (show false=true from hs) Bool.false_ne_true
 | str i=>
  obtain⟨t,rfl⟩:=rx
  cases y with
  | non=>cases ry;exact PySem.EqNone.ne_str_none (fin_bl I q (by simp))
  | bl j=>cases ry;exact PySem.EqMixed.ne_str_bool (fin_bl I q (by simp))
  | int j=>obtain⟨t',rfl⟩:=ry;exact PySem.EqMixed.ne_str_int (fin_bl I q (by simp))
  | str j=>obtain⟨t',rfl⟩:=ry;exact ne_str (fin_bl I q (congrArg not dec_str))
  | _=>exact absurd (show false=true from hs) Bool.false_ne_true
 | byt i=>
  obtain⟨t,rfl⟩:=rx
  cases y with
  | byt j=>obtain⟨t',rfl⟩:=ry;exact PySem.W.ne_bytes (fin_bl I q (congrArg not dec_byt))
  | _=>exact absurd (show false=true from hs) Bool.false_ne_true
 | _=>cases y<;>exact absurd (show false=true from hs) Bool.false_ne_true
theorem op_lt:OpR X (compareOp .Lt) (rI0 λi j=>.bl (decide (i<j))):=opB0 λ_ _ _ _ _ _ _ q=>lt_int q
theorem op_le:OpR X (compareOp .LtE) (rI0 λi j=>.bl (decide (i<=j))):=opB0 λ_ _ _ _ _ _ _ q=>le_int q
theorem op_gt:OpR X (compareOp .Gt) (rI0 λi j=>.bl (decide (j<i))):=opB0 λ_ _ _ _ _ _ _ q=>gt_int q
theorem op_ge:OpR X (compareOp .GtE) (rI0 λi j=>.bl (decide (j<=i))):=opB0 λ_ _ _ _ _ _ _ q=>ge_int q
theorem nomark(b:Expr){op:CmpOp}(h:op≠.In:=by decide)(h2:op≠.NotIn:=by decide):behindInMarks op b=false:=by
 have e1:(op==CmpOp.In)=false:=by cases op<;>first | rfl | exact absurd rfl h
 have e2:(op==CmpOp.NotIn)=false:=by cases op<;>first | rfl | exact absurd rfl h2
 cases b<;>simp [behindInMarks,e1,e2]
theorem pe_cmpR{op:CmpOp}{r:R2}(ho:OpR X (compareOp op) r)(ha:PE X a ta)(hb:PE X b tb)(hm:behindInMarks op b=false):PE X (.Compare a [op] [b] pos) (tOp r ta tb):=by
 intro pins s σ H Q I h
 exact wpAny_Compare1 (binT ha hb I h λv u s2 x y H2 I2 rx ry q=>ho pins s2 σ H2 x y v u Q I2 rx ry q) hm
def tTest(t:TE):TT:=λσ H Q=>t σ H λx H'=>∃k,x= .bl k/\Q k H'
theorem pt_cmpR{op:CmpOp}{r:R2}(ho:OpR X (compareOp op) r)(ha:PE X a ta)(hb:PE X b tb)(hm:behindInMarks op b=false):PT X (.Compare a [op] [b] pos) (tTest (tOp r ta tb)):=by
 intro pins s σ H Q I h
 refine wpAny_isTrue_Compare1 (thn (ha pins s σ H _ I h) λv s1 ⟨x,H1,I1,r1,q1⟩=>thn (hb pins s1 σ H1 _ I1 q1) λu s2 ⟨y,H2,I2,r2,q2⟩=>
  thn (ho pins s2 σ H2 x y v u _ I2 r1 r2 q2) λc s3 ⟨z,H3,I3,r3,k,e,q3⟩=>?_) hm
 subst e
 cases r3
 exact wpAny_truthy_bool ⟨H3,I3,q3⟩
def tChain(r r':R2)(ta tb tc:TE):TE:=λσ H Q=>ta σ H λx H1=>tb σ H1 λy H2=>r x y H2 λz H3=>∃k,z= .bl k/\
 (if k=true then tc σ H3 λw' H4=>r' y w' H4 Q else Q (.bl false) H3)
def TruV(K:PySem.W.Frag)(x:V)(H:Hp)(k:Bool):Prop:=
 match x with
 | .non=>k=false
 | .bl b=>k=b
 | .int i=>k=(i != 0)
 | .str y=>y.length<=sizeLine/\k=((y.length:Int) != 0)
 | .byt y=>y.size<=sizeLine/\k=((y.size:Int) != 0)
 | .ref p=>(∃xs,SqL K H p xs/\k= !xs.isEmpty)\/(∃xs,SqT K H p xs/\k= !xs.isEmpty)\/∃kvs,H p=some (.dK kvs)/\k= !kvs.isEmpty
 | _=>False
theorem isEmpty_kv{κ:Type}{kvs:List (κ×V)}{vs:List (κ×Value)}(r:KV kvs vs):(!vs.isEmpty)= !kvs.isEmpty:=by
 cases r<;>rfl
theorem isEmpty_of{xs:List V}{its:List Value}(r:Vals xs its):(!its.toArray.isEmpty)= !xs.isEmpty:=by
 cases r<;>simp
theorem line63:(sizeLine:Nat)<2^63:=by rw [sizeLine_eq];decide
theorem tru_ok:TruR X (λx H Q=>∃k,TruV X.K x H k/\Q k H):=by
 intro pins s σ H x v Q I rx h
 obtain⟨k,e,q⟩:=h
 have hl:=line63
 have hs:sizeLine=16777216:=sizeLine_eq
 cases x with
 | non=>
  cases rx
  have e':k=false:=e
  subst e'
  exact truthy_none ⟨H,I,q⟩
 | bl b=>
  cases rx
  have e':k=b:=e
  subst e'
  exact wpAny_truthy_bool ⟨H,I,q⟩
 | int i=>
  obtain⟨t,rfl⟩:=rx
  have e':k=(i != 0):=e
  subst e'
  exact PySem.P.truthy_int ⟨H,I,q⟩
 | str y=>
  obtain⟨t,rfl⟩:=rx
  obtain⟨hy,e'⟩:y.length<=sizeLine/\k=((y.length:Int) != 0):=e
  subst e'
  exact PySem.P.truthy_str (by omega) ⟨H,I.tok _,q⟩
 | byt y=>
  obtain⟨t,rfl⟩:=rx
  obtain⟨hy,e'⟩:y.size<=sizeLine/\k=((y.size:Int) != 0):=e
  subst e'
  exact PySem.W.truthy_bytes (by omega) ⟨H,I.tok _,q⟩
 | ref p=>
  cases rx
  have e':(∃xs,SqL X.K H p xs/\k= !xs.isEmpty)\/(∃xs,SqT X.K H p xs/\k= !xs.isEmpty)\/∃kvs,H p=some (.dK kvs)/\k= !kvs.isEmpty:=e
  rcases e' with ⟨xs,hx,e'⟩ | ⟨xs,hx,e'⟩ | ⟨kvs,hx,e'⟩
  ·subst e'
   obtain⟨its,r,pl,hz⟩:=I.list hx
   have hlen:=r.length
   exact wpAny_truthy_list pl.isList (by simp only [List.size_toArray];omega) ⟨H,I.tok _,by rw [isEmpty_of r];exact q⟩
  ·subst e'
   obtain⟨its,r,pl,hz⟩:=I.tuple hx
   have hlen:=r.length
   exact truthy_tuple pl (by simp only [List.size_toArray];omega) ⟨H,I.tok _,by rw [isEmpty_of r];exact q⟩
  ·subst e'
   obtain⟨hz,hS,vs,r,m⟩:kvs.length<=sizeLine/\(p==sysModules)=false/\∃vs,KV kvs vs/\s.heap.DictOf (mixKind X.prog X.w) p vs:=I.hok p _ hx
   have hlen:kvs.length=vs.length:=Paired.length r
   exact wpAny_truthy_dict hS m (by omega) ⟨H,I.tok _,by rw [isEmpty_kv r];exact q⟩
 | _=>exact(show False from e).elim
theorem pt_truth(ha:PE X a ta)(he:∀whole,isTrue a X.env whole=(do let v <-whole;standAt a.pos;holding [v] (truthy v))):
 PT X a (λσ H Q=>ta σ H λx H'=>∃k,TruV X.K x H' k/\Q k H'):=by
 intro pins s σ H Q I h
 exact isTrue_plain (thn (ha pins s σ H _ I h) λv s1 ⟨x,H1,I1,r1,q1⟩=>tru_ok pins s1 σ H1 x v Q I1 r1 q1) (he _)
theorem vals1{x:V}{us:List Value}(r:Vals [x] us):∃u,us= [u]/\RelV x u:=by
 cases r with
 | cons r1 r2=>cases r2;exact⟨_,rfl,r1⟩
theorem vals2{x y:V}{us:List Value}(r:Vals [x,y] us):∃u w',us= [u,w']/\RelV x u/\RelV y w':=by
 cases r with
 | cons r1 r2=>
  cases r2 with
  | cons r3 r4=>cases r4;exact⟨_,_,rfl,r1,r3⟩
theorem call_max2(hc:X.calm=true):CallR X (.builtin "max") (λxs H Q=>∃i j,xs= [.int i,.int j]/\Q (.int (if j>i then j else i)) H):=by
 intro pins s σ H xs us Q I r h
 obtain⟨i,j,rfl,q⟩:=h
 obtain⟨u,w',rfl,⟨t,rfl⟩,⟨t',rfl⟩⟩:=vals2 r
 refine max_two_ints (I.ok.hd hc) λh' tk k=>⟨_,H,I.kept k,?_,q⟩
 by_cases hj:j>i
 ·rw [if_pos hj,if_pos hj];exact⟨_,rfl⟩
 ·rw [if_neg hj,if_neg hj];exact⟨_,rfl⟩
theorem call_min2(hc:X.calm=true):CallR X (.builtin "min") (λxs H Q=>∃i j,xs= [.int i,.int j]/\Q (.int (if j<i then j else i)) H):=by
 intro pins s σ H xs us Q I r h
 obtain⟨i,j,rfl,q⟩:=h
 obtain⟨u,w',rfl,⟨t,rfl⟩,⟨t',rfl⟩⟩:=vals2 r
 refine min_two_ints (I.ok.hd hc) λh' tk k=>⟨_,H,I.kept k,?_,q⟩
 by_cases hj:j<i
 ·rw [if_pos hj,if_pos hj];exact⟨_,rfl⟩
 ·rw [if_neg hj,if_neg hj];exact⟨_,rfl⟩
theorem call_int1:CallR X (.type "int") (λxs H Q=>(∃i,xs= [.int i]/\Q (.int i) H)\/∃k,xs= [.bl k]/\Q (.int (if k then 1 else 0)) H):=by
 intro pins s σ H xs us Q I r h
 rcases h with ⟨i,rfl,q⟩ | ⟨k,rfl,q⟩
 ·obtain⟨u,rfl,t,rfl⟩:=vals1 r
  exact call_int_int ⟨.int i,H,I,⟨_,rfl⟩,q⟩
 ·obtain⟨u,rfl,r1⟩:=vals1 r
  cases r1
  exact call_int_bool ⟨.int (if k then 1 else 0),H,I.tok _,⟨_,rfl⟩,q⟩
end
end L2
namespace L2
open PySem PySem.Spec PyProof.Rows
structure ObjM(h:Heap)(x dx C:Addr)(mA:Str->Option Value):Prop where
 obj:h.get? x=some (PySem.W.instObj C dx)
 ns:h.Ns1 dx mA
 ne:dx≠x
theorem lookIn_ns{h:Heap}{dx:Addr}{mA:Str->Option Value}(n:h.Ns1 dx mA):∃od,h.get? dx=some od/\∀name,PySem.W.lookIn name od=some (mA name):=by
 obtain⟨o,es,ep,ho,hd,hk,_,hm⟩:=n
 refine⟨o,ho,λname=>?_⟩
 have e:=hm name
 unfold nsFind findBy at e
 rw [<-Array.find?_toList] at e
 unfold PySem.W.lookIn
 rw [hd]
 dsimp only
 split
 ·rename_i y q
  rw [q] at e
  exact congrArg some e
 ·rename_i q
  rw [q] at e
  have a:es.toList.any (·.refKey)=false:=by
   rw [List.any_eq_false]
   intro y hy
   obtain⟨z,t,hkey⟩:=hk y (Array.mem_toList_iff.mp hy)
   simp [DictEntry.refKey,hkey]
  have a':¬es.toList.any (·.refKey)=true:=by rw [a];exact Bool.false_ne_true
  rw [if_neg a']
  exact congrArg some e
theorem ObjM.look{h:Heap}{x dx C:Addr}{mA:Str->Option Value}(I:ObjM h x dx C mA):∃od,PySem.W.InstAt h x (PySem.W.instObj C dx) C (some od)/\∀name,PySem.W.lookIn name od=some (mA name):=
 let ⟨od,ho,hl⟩:=lookIn_ns I.ns
 ⟨od,⟨I.obj,rfl,rfl,ho⟩,hl⟩
section
variable{prog:Program}{w:World}{A:Around}{E:Value->Shared->Prop}{s:Shared}{K:PySem.W.Frag}{x dx C f:Addr}{mA:Str->Option Value}{name:Str}{v:Value}
theorem get_map{expr:Bool}{Q:Value->Shared->Prop}(X:K.In s.heap)(I:ObjM s.heap x dx C mA)(hg:PySem.W.plainGet K C name=true)(hh:PySem.W.hasDictIn K C=true)
 (ha:PySem.W.findIn K (.ref C) name=some none) (hv:mA name=some v) (hv':PySem.W.handedIn v=true) (h:Q v {s with toks:=s.toks+1}):
 wpAny (model prog w) A (getAttr (.ref x) name expr) Q E s:=by
 obtain⟨od,J,hl⟩:=I.look
 exact PySem.W.get_value X J (PySem.W.plainGet_of hg).1 (PySem.W.findObj_own hh ha rfl (by rw [hl,hv])) hv' h
theorem get_meth{pl:Sem Bool}{Q:Value×List Value->Shared->Prop}(X:K.In s.heap)(I:ObjM s.heap x dx C mA)(hg:PySem.W.plainGet K C name=true)
 (hf:PySem.W.findIn K (.ref C) name=some (some (.ref f))) (ht:PySem.W.isFn K (.ref f)=true) (hv:mA name=none) (h:Q (.ref f,[.ref x]) s):
 wpAny (model prog w) A (getMethod (.ref x) name pl) Q E s:=by
 obtain⟨od,J,hl⟩:=I.look
 exact PySem.W.method_fn X J (PySem.W.plainGet_of hg).1 (PySem.W.plainGet_of hg).2 hf (beq_iff_eq.mp ht) (by show(PySem.W.lookIn name od).map (·.isSome)=some false;rw [hl,hv];rfl) h
theorem set_map{ns:List Str}{Q:Unit->Shared->Prop}(X:K.In s.heap)(I:ObjM s.heap x dx C mA)
 (hs:PySem.W.findIn K (.ref C) "__setattr__" =some (some (.builtin "object.__setattr__"))) (hp:PySem.W.plainOver K C=true) (ht:PySem.W.takerIn K C name=some none) (hh:PySem.W.hasDictIn K C=true)
 (hw:PySem.Within mA ns) (hsz:ns.length<=sizeLine)
 (h:∀h',ObjM h' x dx C (λy=>if y=name then some v else mA y)->Heap.SameBut dx s.heap h'->Q () {s with heap:=h',toks:=s.toks+2}):
 wpAny (model prog w) A (setAttr (.ref x) name v) Q E s:=by
 obtain⟨od,J,hl⟩:=I.look
 refine PySem.W.set_plain X J hs (PySem.W.osa_open (s:={s with toks:=s.toks+1}) (r:=none) X J hp ht λb=>?_)
 obtain⟨cd,hc,hd'⟩:=PySem.W.any_some hh
 have hx:s.heap.get? x=some ⟨.ref C,some dx,.plain, #[]⟩:=I.obj
 refine wpAny_bind (wpAny_pure (wpAny_bind (wpAny_bind (wpAny_loadPart hx (wpAny_bind (PySem.W.Looks.here (s:={s with toks:=s.toks+1}) (PySem.W.looks_clsIn X hc) ?_))))))
 rw [hd']
 refine wpAny_pure (a:=some dx) (wpAny_bind (wpAny_pure (wpAny_bind ?_)))
 refine wpAny_nsSet1 (s:={s with toks:=s.toks+1}) I.ns λh' hn2 hs2=>?_
 obtain⟨oD,esD,epD,hoD,hdD,hcD⟩:=hn2.count (PySem.Within.cons name v hw)
 refine wpAny_bind (wpAny_lookBehind hoD (by rw [hdD];exact pastItsLine_dict (Nat.le_trans hcD (by rw [List.length_cons];omega))) ?_)
 exact wpAny_pure (h _ ⟨(hs2.2 _ (Ne.symm I.ne)).trans I.obj,hn2,I.ne⟩ hs2)
theorem make_map{R:Result->Shared->Prop}{vs:List Value}{kw:List (Str×Value)}(X:K.In s.heap)(hm:PySem.W.makesIn K C=true)
 (hi:PySem.W.findIn K (.ref C) "__init__" =some (some (.ref f))) (hf:PySem.W.typeIn K (.ref f)=some (.type "function"))
 (h:codeAny (model prog w) (A.under (.builtin "type.__call__" ⟨.ref C::vs,kw⟩)) (.call (.ref f) ⟨.ref (s.heap.objs.size+1)::vs,kw⟩) (PySem.W.InitBack (s.heap.objs.size+1) R)
  {s with heap:=(s.heap.push PySem.W.emptyDict).push (PySem.W.instObj C s.heap.objs.size)}):
 codeAny (model prog w) A (.call (.ref C) ⟨vs,kw⟩) R s:=by
 obtain⟨hh,g,d,t,os⟩:=s
 exact PySem.W.make_core (PySem.W.makes_of X hm) (PySem.W.looks_findIn X hi) (λself=>PySem.W.bind_fn X self hf) (.inl rfl) h
end
def putF(f:Str)(v:V):List (Str×V)->List (Str×V)
 | []=>[(f,v)]
 | (g,x)::r=>if g=f then (g,v)::r else (g,x)::putF f v r
theorem lookup_putF(f g:Str)(v:V):∀fs:List (Str×V),(putF f v fs).lookup g=if g=f then some v else fs.lookup g
 | []=>by
  show List.lookup g [(f,v)]=_
  by_cases h:g=f
  ·have hb:(g==f)=true:=beq_iff_eq.mpr h
   simp only [List.lookup,hb,if_pos h]
  ·have hb:(g==f)=false:=beq_eq_false_iff_ne.mpr h
   simp only [List.lookup,hb,if_neg h]
 | (k,x)::r=>by
  have ih:=lookup_putF f g v r
  rw [show putF f v ((k,x)::r)=(if k=f then (k,v)::r else (k,x)::putF f v r) from rfl]
  by_cases hk:k=f
  ·rw [if_pos hk]
   by_cases h:g=k
   ·have hb:(g==k)=true:=beq_iff_eq.mpr h
    simp only [List.lookup,hb,if_pos (h.trans hk)]
   ·have hb:(g==k)=false:=beq_eq_false_iff_ne.mpr h
    simp only [List.lookup,hb,if_neg (λe:g=f=>h (e.trans hk.symm))]
  ·rw [if_neg hk]
   by_cases h:g=k
   ·have hb:(g==k)=true:=beq_iff_eq.mpr h
    simp only [List.lookup,hb,if_neg (λe:g=f=>hk (h.symm.trans e))]
   ·have hb:(g==k)=false:=beq_eq_false_iff_ne.mpr h
    simp only [List.lookup,hb]
    exact ih
theorem keys_putF(f:Str)(v:V):∀fs:List (Str×V),f∈(putF f v fs).map (·.1)/\∀g,g∈fs.map (·.1)->g∈(putF f v fs).map (·.1)
 | []=>⟨by simp [putF],λg h=>by simp at h⟩
 | (k,x)::r=>by
  obtain⟨i1,i2⟩:=keys_putF f v r
  rw [show putF f v ((k,x)::r)=(if k=f then (k,v)::r else (k,x)::putF f v r) from rfl]
  by_cases hk:k=f
  ·rw [if_pos hk]
   subst hk
   exact⟨by simp,λg h=>by simpa using h⟩
  ·rw [if_neg hk]
   refine⟨?_,λg h=>?_⟩
   ·rw [List.map_cons]
    exact List.mem_cons_of_mem _ i1
   ·rw [List.map_cons] at h⊢
    rcases List.mem_cons.mp h with e | e
    ·exact List.mem_cons.mpr (.inl e)
    ·exact List.mem_cons_of_mem _ (i2 g e)
theorem length_putF(f:Str)(v:V):∀fs:List (Str×V),(putF f v fs).length<=fs.length+1
 | []=>by simp [putF]
 | (k,x)::r=>by
  have ih:=length_putF f v r
  rw [show putF f v ((k,x)::r)=(if k=f then (k,v)::r else (k,x)::putF f v r) from rfl]
  by_cases hk:k=f
  ·rw [if_pos hk,List.length_cons,List.length_cons];omega
  ·rw [if_neg hk,List.length_cons,List.length_cons];omega
theorem RelO.some_of{v:V}{o:Option Value}(r:RelO (some v) o):∃u,o=some u/\RelV v u:=by
 cases o with
 | none=>exact(show False from r).elim
 | some u=>exact⟨u,rfl,r⟩
theorem RelO.none_of{o:Option Value}(r:RelO none o):o=none:=by
 cases o with
 | none=>rfl
 | some u=>exact(show False from r).elim
theorem handed_of{v:V}{u:Value}(r:RelV v u):PySem.W.handedIn u=true:=by
 cases v with
 | non=>cases (show u=Value.none from r);rfl
 | bl b=>cases (show u=Value.bool b from r);rfl
 | int i=>obtain⟨t,e⟩:=(show ∃t,u=Value.int i t from r);cases e;rfl
 | str x=>obtain⟨t,e⟩:=(show ∃t,u=Value.str x t from r);cases e;rfl
 | byt b=>obtain⟨t,e⟩:=(show ∃t,u=Value.bytes b t from r);cases e;rfl
 | flt b=>obtain⟨t,e⟩:=(show ∃t,u=Value.float b t from r);cases e;rfl
 | ref a=>cases (show u=Value.ref a from r);rfl
 | ty n=>cases (show u=Value.type n from r);rfl
section
variable{P:Program}{w:World}{H H':Hp}{h h':Heap}{a C dx:Addr}{fs fs':List (Str×V)}
theorem ins_get(hok:HOk P w H h)(e:H a=some (.ins C dx fs)):∃mA,ObjM h a dx C mA/\(∀f,RelO (fs.lookup f) (mA f))/\PySem.Within mA (fs.map (·.1))/\fs.length<=1000/\H dx=some (.own a):=by
 obtain⟨d,z,ne,ob,mA,n,r,q⟩:=(show ObjOk P w H h a (.ins C dx fs) from hok a _ e)
 exact⟨mA,⟨ob,n,ne⟩,r,q,z,d⟩
end
structure Cls(K:PySem.W.Frag)(C:Addr):Prop where
 pg:PySem.W.plainGet K C Str.empty=true
 hd:PySem.W.hasDictIn K C=true
 po:PySem.W.plainOver K C=true
 sa:PySem.W.findIn K (.ref C) "__setattr__" =some (some (.builtin "object.__setattr__"))
theorem Cls.get{K:PySem.W.Frag}{C:Addr}(c:Cls K C)(f:Str):PySem.W.plainGet K C f=true:=c.pg
def NoAttr(K:PySem.W.Frag)(C:Addr)(f:Str):Prop:=PySem.W.findIn K (.ref C) f=some none
theorem NoAttr.taker{K:PySem.W.Frag}{C:Addr}{f:Str}(n:NoAttr K C f):PySem.W.takerIn K C f=some none:=by
 unfold PySem.W.takerIn
 rw [show PySem.W.findIn K (.ref C) f=some none from n]
 rfl
structure Con(K:PySem.W.Frag)(C:Addr)(f:Str)(v:V)(u:Value):Prop where
 at_:PySem.W.findIn K (.ref C) f=some (some u)
 rel:RelV v u
 get:PySem.W.specialIn K u "__get__" =some none
 cp:PySem.W.copiedNames.contains f=false
structure Meth(K:PySem.W.Frag)(C:Addr)(m:Str)(f:Addr):Prop where
 at_:PySem.W.findIn K (.ref C) m=some (some (.ref f))
 fn:PySem.W.isFn K (.ref f)=true
 kp:PySem.W.keepIn K (.ref f)=true
section
variable{X:Cx}{pins:List (Addr×Obj)}{σ:St}{H:Hp}{s:Shared}{a C dx:Addr}{fs:List (Str×V)}{f:Str}{v:V}{A:Around}{E:Value->Shared->Prop}
theorem getattr_ok{b:Bool}{Q:Value->Shared->Prop}(I:Inv X pins σ H s)(e:H a=some (.ins C dx fs))(c:Cls X.K C)(n:NoAttr X.K C f)(l:fs.lookup f=some v)
 (h:∀u s',Inv X pins σ H s'->RelV v u->Q u s'):wpAny (model X.prog X.w) A (getAttr (.ref a) f b) Q E s:=by
 obtain⟨mA,O,r,_,_,_⟩:=ins_get I.hok e
 obtain⟨u,hu,ru⟩:=RelO.some_of (v:=v) (o:=mA f) (by rw [<-l];exact r f)
 exact get_map I.kIn O (c.get f) c.hd n hu (handed_of ru) (h u _ (I.tok _) ru)
theorem getmeth_ok{m:Str}{g:Addr}{pl:Sem Bool}{Q:Value×List Value->Shared->Prop}(I:Inv X pins σ H s)(e:H a=some (.ins C dx fs))(c:Cls X.K C)(k:Meth X.K C m g)(l:fs.lookup m=none)
 (h:Q (.ref g,[.ref a]) s):wpAny (model X.prog X.w) A (getMethod (.ref a) m pl) Q E s:=by
 obtain⟨mA,O,r,_,_,_⟩:=ins_get I.hok e
 have hn:mA m=none:=RelO.none_of (by rw [<-l];exact r m)
 exact get_meth I.kIn O (c.get m) k.at_ k.fn hn h
theorem setattr_ok{y:V}{u:Value}{Q:Unit->Shared->Prop}(I:Inv X pins σ H s)(e:H a=some (.ins C dx fs))(c:Cls X.K C)(n:NoAttr X.K C f)(hl:fs.length<1000)(ry:RelV y u)
 (h:∀s',Inv X pins σ (upd H a (.ins C dx (putF f y fs))) s'->Q () s'):wpAny (model X.prog X.w) A (setAttr (.ref a) f u) Q E s:=by
 obtain⟨mA,O,r,wi,_,ho⟩:=ins_get I.hok e
 have hz:(fs.map (·.1)).length<=sizeLine:=by rw [List.length_map,sizeLine_eq];omega
 refine set_map I.kIn O c.sa c.po n.taker c.hd wi hz λh' O' sb=>h _ ?_
 have hd:∃o,h'.get? dx=some o:=let ⟨o,_,_,e',_⟩:=O'.ns;⟨o,e'⟩
 refine I.write (x:=a) (e:=dx) (by rw [e];exact True.intro) (.inr ho) (λb q hb z=>(sb.2 b hb).trans z) hd ?_
 refine⟨by rw [upd_ne O.ne];exact ho,?_,O.ne,O'.obj,_,O'.ns,λg=>?_,λg hg=>?_⟩
 ·have:=length_putF f y fs;omega
 ·show RelO ((putF f y fs).lookup g) (if g=f then some u else mA g)
  rw [lookup_putF]
  by_cases q:g=f
  ·rw [if_pos q,if_pos q];exact ry
  ·rw [if_neg q,if_neg q];exact r g
 ·by_cases q:g=f
  ·rw [q];exact(keys_putF f y fs).1
  ·refine(keys_putF f y fs).2 g (wi g λz=>hg ?_)
   show(if g=f then some u else mA g)=none
   rw [if_neg q];exact z
theorem Inv.made(I:Inv X pins σ H s):Inv X pins σ (upd (upd H s.heap.objs.size (.own (s.heap.objs.size+1))) (s.heap.objs.size+1) (.ins C s.heap.objs.size []))
 {s with heap:=(s.heap.push PySem.W.emptyDict).push (PySem.W.instObj C s.heap.objs.size)}:=by
 have e1:(s.heap.push PySem.W.emptyDict).get? s.heap.objs.size=some PySem.W.emptyDict:=Heap.get?_push_size s.heap rfl
 have e2:((s.heap.push PySem.W.emptyDict).push (PySem.W.instObj C s.heap.objs.size)).get? (s.heap.objs.size+1)=some (PySem.W.instObj C s.heap.objs.size):=by
  have:=Heap.get?_push_size (s.heap.push PySem.W.emptyDict) (o:=PySem.W.instObj C s.heap.objs.size) rfl
  rwa [Heap.size_push] at this
 have e3:(s.heap.push PySem.W.emptyDict).Ns s.heap.objs.size (λ_=>none):=⟨PySem.W.emptyDict, #[],_,e1,rfl,(λe he=>absurd he (by simp)),λ_=>rfl⟩
 have I1:=I.laid (a:=s.heap.objs.size) (o:=.own (s.heap.objs.size+1)) (h':=s.heap.push PySem.W.emptyDict) (t':=s.toks) (λb u q=>Heap.get?_push_of_some _ q) (Nat.le_refl _) ⟨_,e1⟩
 refine I1.laid (a:=s.heap.objs.size+1) (o:=.ins C s.heap.objs.size []) (t':=s.toks) (λb u q=>Heap.get?_push_of_some _ q) (Nat.le_of_eq (Heap.size_push _ _)) ?_
 have ne:s.heap.objs.size≠s.heap.objs.size+1:=Nat.ne_of_lt (Nat.lt_succ_self _)
 refine⟨by rw [upd_ne ne,upd_same],Nat.zero_le _,ne,e2,λ_=>none,(Heap.Ns1.of_empty e3).at λo q=>Heap.get?_push_of_some _ q,λ_=>True.intro,λy hy=>absurd rfl hy⟩
theorem attr_of{prog:Program}{w:World}{env:Env}{e:Expr}{f:Str}{pos:Pos}{s:Shared}{Q:Value->Shared->Prop}(hb:attributeBase e f env (eval e env)=eval e env)
 (h:wpAny (model prog w) A (eval e env) (λo s₁=>wpAny (model prog w) A (getAttr o f true) Q E s₁) E s):wpAny (model prog w) A (eval (.Attribute e f pos) env) Q E s:=
 Attribute_any_ h (by rw [arm_eval_Attribute,hb])
end
section
variable{X:Cx}{o e value:Expr}{f:Str}{pos pos' tpos:Pos}{ta tv:TE}
end
section
variable{X:Cx}{pins:List (Addr×Obj)}{σ:St}{H:Hp}{s:Shared}{A:Around}{E:Value->Shared->Prop}{Q:Value->Shared->Prop}{c:Value}{b:Bool}
inductive TyOf (K:PySem.W.Frag) (H:Hp):V->Value->Prop where
 | non:TyOf K H .non (.type "NoneType")
 | bl (x:Bool):TyOf K H (.bl x) (.type "bool")
 | int (i:Int):TyOf K H (.int i) (.type "int")
 | str (x:Str):TyOf K H (.str x) (.type "str")
 | flt (x:UInt64):TyOf K H (.flt x) (.type "float")
 | lst {a:Addr} {xs:List V} (e:H a=some (.lst xs)):TyOf K H (.ref a) (.type "list")
 | frz {a:Addr} {o:Obj} {xs:List V} (e:H a=some (.frz o (.lst xs))):TyOf K H (.ref a) (.type "list")
 | tup {a:Addr} {xs:List V} (e:H a=some (.tup xs)):TyOf K H (.ref a) (.type "tuple")
 | dK {a:Addr} {kvs:List (Key×V)} (e:H a=some (.dK kvs)):TyOf K H (.ref a) (.type "dict")
 | dT {a:Addr} {kvs:List (List Key×V)} (e:H a=some (.dT kvs)):TyOf K H (.ref a) (.type "dict")
 | ins {a C dx:Addr} {fs:List (Str×V)} (e:H a=some (.ins C dx fs)) (cl:Cls K C) (ha:PySem.W.findIn K (.ref C) "__class__" =some (some (.builtin "object.__class__")))
  (hn:PySem.W.specialIn K (.builtin "object.__class__") "__get__" =some (some (.builtin "getset_descriptor.__get__"))) (htk:PySem.W.takesIn K (.builtin "object.__class__")=some true)
  (hm:PySem.W.mroIn K C (.type "object")=some true):TyOf K H (.ref a) (.ref C)
theorem isinst_ok{x:V}{u t:Value}(I:Inv X pins σ H s)(rx:RelV x u)(ty:TyOf X.K H x t)(e:PySem.W.kitOne X.K t c=some b)(h:∀tk,Q (.bool b) {s with toks:=tk}):
 wpAny (model X.prog X.w) A (call (.builtin "isinstance") [u,c]) Q E s:=by
 cases ty with
 | non=>cases (show u=Value.none from rx);exact PySem.W.kia_one PySem.W.kitx_none I.kIn True.intro e (λz=>nomatch z) h
 | bl y=>cases (show u=Value.bool y from rx);exact PySem.W.kia_one PySem.W.kitx_bool I.kIn True.intro e (λz=>nomatch z) h
 | int i=>obtain⟨t,q⟩:=(show ∃t,u=Value.int i t from rx);cases q;exact PySem.W.kia_one PySem.W.kitx_int I.kIn True.intro e (λz=>nomatch z) h
 | str y=>obtain⟨t,q⟩:=(show ∃t,u=Value.str y t from rx);cases q;exact PySem.W.kia_one PySem.W.kitx_str I.kIn True.intro e (λz=>nomatch z) h
 | flt y=>obtain⟨t,q⟩:=(show ∃t,u=Value.float y t from rx);cases q;exact PySem.W.kia_one PySem.W.kitx_float I.kIn True.intro e (λz=>nomatch z) h
 | @lst a xs ea=>
  cases (show u=Value.ref a from rx)
  obtain⟨_,_,n,_,h1⟩:=(show ObjOk X.prog X.w H s.heap a (.lst xs) from I.hok a _ ea)
  exact PySem.W.kia_one PySem.W.kitx_list I.kIn ⟨_,h1,rfl⟩ e (λz=>nomatch z) h
 | @frz a ob xs ea=>
  cases (show u=Value.ref a from rx)
  obtain⟨_,_,_,n,_,h1⟩:=(show ObjOk X.prog X.w H s.heap a (.frz ob (.lst xs)) from I.hok a _ ea)
  exact PySem.W.kia_one PySem.W.kitx_list I.kIn ⟨_,h1,rfl⟩ e (λz=>nomatch z) h
 | @tup a xs ea=>
  cases (show u=Value.ref a from rx)
  obtain⟨_,_,_,p⟩:=(show ObjOk X.prog X.w H s.heap a (.tup xs) from I.hok a _ ea)
  obtain⟨o,h1,h2,_⟩:=p
  exact PySem.W.kia_one PySem.W.kitx_tuple I.kIn ⟨o,h1,h2⟩ e (λz=>nomatch z) h
 | @dK a kvs ea=>
  cases (show u=Value.ref a from rx)
  obtain⟨_,_,vs,_,p⟩:=(show ObjOk X.prog X.w H s.heap a (.dK kvs) from I.hok a _ ea)
  obtain⟨o,es,ep,h1,h2,_⟩:=p
  exact PySem.W.kia_one PySem.W.kitx_dict I.kIn ⟨o,h1,h2.1⟩ e (λz=>nomatch z) h
 | @dT a kvs ea=>
  cases (show u=Value.ref a from rx)
  obtain⟨_,_,xs,_,o,es,ep,h1,h2,_⟩:=(show ObjOk X.prog X.w H s.heap a (.dT kvs) from I.hok a _ ea)
  exact PySem.W.kia_one PySem.W.kitx_dict I.kIn ⟨o,h1,h2.1⟩ e (λz=>nomatch z) h
 | @ins a C dx fs ea cl ha hn htk hm=>
  cases (show u=Value.ref a from rx)
  obtain⟨mA,O,_⟩:=ins_get I.hok ea
  obtain⟨od,J,_⟩:=O.look
  exact PySem.W.kia_one (PySem.W.kitx_own (cl.get _) cl.hd ha hn htk hm) I.kIn J e (λz=>nomatch z) h
end
end L2
namespace L2
open PySem PySem.Spec PyProof.Rows
structure Room(k:Nat)(A:Around):Prop where
 hd:A.handled=none
 dp:A.depth+3*k+5<recursionLimit
 un:A.units+16*k+200<cLine
theorem Room.mono{j k:Nat}{A:Around}(r:Room k A)(h:j<=k):Room j A:=⟨r.hd,by have:=r.dp;omega,by have:=r.un;omega⟩
theorem Room.deeper{k:Nat}{A:Around}(r:Room (k+1) A)(env:Env):Room k (A.deeper env):=
 ⟨r.hd,by have:=r.dp;show A.depth+1+3*k+5<_;omega,by have:=r.un;show A.units+3+16*k+200<_;omega⟩
theorem make_depth{A:Around}{C:Addr}{us:List Value}{kw:List (Str×Value)}:(A.under (.builtin "type.__call__" ⟨.ref C::us,kw⟩)).depth=A.depth+1:=by
 first | rfl | simp [Around.under,Code.weight,Code.isCreation,Code.isGuard,Code.isCaller,Code.frames,Code.isFrame,guardIds]
theorem make_units{A:Around}{C:Addr}{us:List Value}{kw:List (Str×Value)}:(A.under (.builtin "type.__call__" ⟨.ref C::us,kw⟩)).units=A.units+1:=by
 first | rfl | simp [Around.under,Code.cUnits,Code.frames,Code.isFrame]
theorem Room.make{k:Nat}{A:Around}(r:Room (k+1) A)(C:Addr)(us:List Value)(kw:List (Str×Value)):Room k (A.under (.builtin "type.__call__" ⟨.ref C::us,kw⟩)):=
 ⟨r.hd,by have:=r.dp;rw [make_depth];omega,by have:=r.un;rw [make_units];omega⟩
theorem Room.depth{k:Nat}{A:Around}(r:Room k A):A.depth<recursionLimit:=by have:=r.dp;omega
theorem Room.units{k:Nat}{A:Around}(r:Room k A):A.units+64<cLine:=by have:=r.un;omega
def tNil:TA:=λ_ H Q=>Q [] H
def tCons(ta:TE)(tr:TA):TA:=λσ H Q=>ta σ H λx H1=>tr σ H1 λxs H2=>Q (x::xs) H2
section
variable{X:Cx}{e:Expr}{es:List Expr}{te:TE}{t:TA}{pos:Pos}
theorem pa_nil:PA X [] tNil:=λ_ _ _ _ H Q I h=>Calls.spliced_nil ⟨[],H,I,.nil,h⟩
theorem pa_cons(ha:PE X e te)(hr:PA X es t)(hs:starEach (e::es) X.env=(false,eval e X.env)::starEach es X.env:=by rfl):PA X (e::es) (tCons te t):=by
 intro pos pins s σ H Q I h
 rw [hs]
 show wpAny _ _ (spliced ((false,eval e X.env)::backTo pos (starEach es X.env))) _ _ s
 refine Calls.spliced_cons (thn (ha pins s σ H _ I h) λu s1 ⟨x,H1,I1,r1,q1⟩=>?_)
 exact thn (hr pos pins s1 σ H1 _ I1 q1) λus s2 ⟨xs,H2,I2,r2,q2⟩=>⟨x::xs,H2,I2,.cons r1 r2,q2⟩
def tTup(t:TA):TE:=λσ H Q=>t σ H λxs H1=>xs.length<=sizeLine/\∀p,H1 p=none->Q (.ref p) (upd H1 p (.tup xs))
def tLst(t:TA):TE:=λσ H Q=>t σ H λxs H1=>xs.length<=sizeLine/\∀p,H1 p=none->Q (.ref p) (upd H1 p (.lst xs))
theorem pe_tup{x1}(h:PA X es t):PE X (.Tuple es x1 pos) (tTup t):=by
 intro pins s σ H Q I hq
 refine wpAny_Tuple_spliced (thn (h pos pins s σ H _ I hq) λus s1 ⟨xs,H1,I1,r,z,q⟩=>⟨by rw [<-r.length];exact z,?_⟩)
 have hf:H1 s1.heap.objs.size=none:=I1.hok.fresh (Nat.le_refl _)
 refine⟨.ref s1.heap.objs.size,upd H1 s1.heap.objs.size (.tup xs),I1.laid (t':=s1.toks) (λb u e=>Heap.get?_push_of_some _ e) (Nat.le_refl _) ?_,rfl,q _ hf⟩
 exact⟨z,us,r,⟨_,Heap.get?_push_size _ rfl,rfl,_,rfl⟩⟩
theorem pe_lst(h:PA X es t):PE X (.List es pos) (tLst t):=by
 intro pins s σ H Q I hq
 refine wpAny_List_spliced (thn (h pos pins s σ H _ I hq) λus s1 ⟨xs,H1,I1,r,z,q⟩=>⟨by rw [<-r.length];exact z,?_⟩)
 have hf:H1 s1.heap.objs.size=none:=I1.hok.fresh (Nat.le_refl _)
 refine⟨.ref s1.heap.objs.size,upd H1 s1.heap.objs.size (.lst xs),I1.laid (t':=s1.toks) (λb u e=>Heap.get?_push_of_some _ e) (Nat.le_refl _) ?_,rfl,q _ hf⟩
 exact⟨z,us,0,r,Heap.get?_push_size _ rfl⟩
end
abbrev Sp:=List V->Hp->VK->XK->Prop
abbrev CXT:=List Env->Hp->Shared->XK->Value->Shared->Prop
structure Env0(P:Program)(w:World)(K:PySem.W.Frag)(mg:Str->Option Value)(base:Heap)(A:Around)(outer:List Env)(s:Shared)(H:Hp):Prop where
 frames:A.frames=some outer
 mod:Mod K mg base
 bs:∀b o,base.get? b=some o->s.heap.get? b=some o/\H b=none
 bsz:base.objs.size<=s.heap.objs.size
 funs:s.heap.FunFrames base outer
 frf:∀b∈frs outer,H b=none
 hok:HOk P w H s.heap
 bare:AllBare s.gens
def CE(outer:List Env)(P:Program)(w:World)(H:Hp)(s:Shared)(Q:VK)(u:Value)(s':Shared):Prop:=
 ∃v H',s'.os=s.os/\AllBare s'.gens/\Un (frs outer) [] H H' s.heap s'.heap/\HOk P w H' s'.heap/\RelV v u/\Q v H'
def CR(CX:CXT)(outer:List Env)(P:Program)(w:World)(H:Hp)(s:Shared)(Q:VK)(E:XK)(r:Result)(s':Shared):Prop:=
 match r with
 | .ok (.ret u)=>CE outer P w H s Q u s'
 | .ok _=>False
 | .error e=>CX outer H s E e s'
structure FnOk(P:Program)(w:World)(K:PySem.W.Frag)(mg:Str->Option Value)(base:Heap)(CX:CXT)(k:Nat)(f:Addr)(fd:FuncData)(ps:List Str)(sp:Sp):Prop where
 len:∀vs H Q E,sp vs H Q E->vs.length=ps.length
 run:∀(A:Around) (outer:List Env) (s:Shared) (H:Hp) (args:Args) (us:List Value) (vs:List V) (Q:VK) (E:XK),Room k A->Env0 P w K mg base A outer s H->BindsTo s fd args (ps.zip us)->Vals vs us->sp vs H Q E->
  codeAny (model P w) A (.call (.ref f) args) (CR CX outer P w H s Q E) s
theorem Env0.make{P:Program}{w:World}{K:PySem.W.Frag}{mg:Str->Option Value}{base:Heap}{A:Around}{outer:List Env}{s:Shared}{H:Hp}(e:Env0 P w K mg base A outer s H)(C:Addr)(us:List Value)(kw:List (Str×Value)):
 Env0 P w K mg base (A.under (.builtin "type.__call__" ⟨.ref C::us,kw⟩)) outer s H:=⟨by first | exact e.frames | (simpa [Around.under,Code.envs,Code.isFrame,pushEnvs] using e.frames),e.mod,e.bs,e.bsz,e.funs,e.frf,e.hok,e.bare⟩
section
variable{X:Cx}{pins:List (Addr×Obj)}{σ:St}{H:Hp}{s s':Shared}
theorem Inv.env0(I:Inv X pins σ H s):Env0 X.prog X.w X.K X.mg X.base X.A X.stack s H:=
 ⟨I.ok.frames,I.ok.mod,I.bs,Nat.le_trans I.ok.bsz I.sz,I.stack,I.stkFree,I.hok,I.bare⟩
theorem Inv.after{Q:VK}{u:Value}(I:Inv X pins σ H s)(h:CE X.stack X.prog X.w H s Q u s'):EP X pins σ Q u s':=by
 obtain⟨v,H',os,bare,un,hok,r,q⟩:=h
 obtain⟨hh,g,d,t,os'⟩:=s'
 obtain rfl:os'=s.os:=os
 exact⟨v,H',I.call (h':=hh) (g':=g) (d':=d) (t':=t) (ch:=[]) un hok bare (λb z=>absurd z (by simp)),r,q⟩
end
def tCall(sp:Sp)(dvs:List V)(E:XK)(t:TA):TE:=λσ H Q=>t σ H λvs H1=>sp (vs++dvs) H1 Q E
def tMeth(C:Addr)(m:Str)(sp:Sp)(dvs:List V)(E:XK)(ta:TE)(t:TA):TE:=λσ H Q=>ta σ H λx H1=>∃a dx fs,x= .ref a/\H1 a=some (.ins C dx fs)/\fs.lookup m=none/\
 t σ H1 λvs H2=>sp (x::(vs++dvs)) H2 Q E
def Binds(K:PySem.W.Frag)(fd:FuncData)(ps:List Str)(ds:List Value):Prop:=
 ∀(s:Shared) (us:List Value),K.In s.heap->(us++ds).length=ps.length->BindsTo s fd ⟨us,[]⟩ (ps.zip (us++ds))
theorem Binds.all{K:PySem.W.Frag}{fd:FuncData}{ps:List Str}(h:∀us:List Value,us.length=ps.length->bindArgs fd ⟨us,[]⟩=pure (ps.zip us)):Binds K fd ps []:=λs us _ hl=>by
 rw [List.append_nil] at hl⊢
 exact .of_eq (h us hl)
def Passes(CX:CXT)(X:Cx)(E:XK):Prop:=∀(pins:List (Addr×Obj)) (σ:St) (H:Hp) (s:Shared) (e:Value) (s':Shared),Inv X pins σ H s->CX X.stack H s E e s'->X.xe e s'
section
variable{X:Cx}{CX:CXT}{k:Nat}{f C:Addr}{fd:FuncData}{ps:List Str}{sp:Sp}{dvs:List V}{ds:List Value}{E:XK}{x m:Str}{p pos apos:Pos}{e o:Expr}{es:List Expr}{ta:TE}{t:TA}
theorem run_fn{pins:List (Addr×Obj)}{σ:St}{H:Hp}{s:Shared}{Q:VK}{us:List Value}{vs:List V}(F:FnOk X.prog X.w X.K X.mg X.base CX k f fd ps sp)(hr:Room k X.A)(hb:Binds X.K fd ps ds)(hd:Vals dvs ds)(hx:Passes CX X E)
 (I:Inv X pins σ H s) (r:Vals vs us) (h:sp (vs++dvs) H Q E):wpAny (model X.prog X.w) X.A (call (.ref f) us) (EP X pins σ Q) X.xe s:=by
 have r2:Vals (vs++dvs) (us++ds):=r.append hd
 have hl:(us++ds).length=ps.length:=by rw [<-r2.length];exact F.len _ _ _ _ h
 refine wpAny_call (codeAny_mono (F.run X.A X.stack s H ⟨us,[]⟩ (us++ds) (vs++dvs) Q E hr I.env0 (hb s us I.kIn hl) r2 h) λr s' hq=>?_)
 cases r with
 | error e=>exact hx pins σ H s e s' I hq
 | ok fl=>
  cases fl with
  | ret u=>exact I.after hq
  | next=>exact False.elim hq
  | brk=>exact False.elim hq
  | cont=>exact False.elim hq
theorem pe_call(F:FnOk X.prog X.w X.K X.mg X.base CX k f fd ps sp)(hr:Room k X.A)(hg:Gl X x)(hm:X.mg x=some (.ref f))(hk:PySem.W.keepIn X.K (.ref f)=true)(hb:Binds X.K fd ps ds)(hd:Vals dvs ds)(hx:Passes CX X E)
 (ha:PA X (e::es) t) (hdb:(x==("__debug__":Str))=false:=by decide) (he:starEach (e::es) X.env=(false,eval e X.env)::starEach es X.env:=by rfl) (hpl:(backTo pos (starEach es X.env)).any (·.1)=false:=by rfl):
 PE X (.Call (.Name x p) (e::es) [] pos) (tCall sp dvs E t):=by
 intro pins s σ H Q I h
 refine wpAny_Call_Name_kw (ld_glob I hg hm ?_ hdb)
 refine PySem.W.callWith_K (h₀:=X.base) I.ok.mod.kin hk (thn (ha pos pins s σ H _ I h) λus s1 ⟨vs,H1,I1,r,q⟩=>⟨I1.kIn,?_⟩) he hpl
 exact run_fn F hr hb hd hx I1 r q
theorem pe_meth{pl:Sem Bool}(he:PE X o ta)(c:Cls X.K C)(hm:Meth X.K C m f)(F:FnOk X.prog X.w X.K X.mg X.base CX k f fd ps sp)(hr:Room k X.A)(hb:Binds X.K fd ps ds)(hd:Vals dvs ds)(hx:Passes CX X E)(ha:PA X (e::es) t)
 (hst:starEach (e::es) X.env=(false,eval e X.env)::starEach es X.env:=by rfl) (hpl:(backTo pos (starEach es X.env)).any (·.1)=false:=by rfl)
 (ht:eval (.Call (.Attribute o m apos) (e::es) [] pos) X.env=(do
  let ov <-eval o X.env
  standAt apos.atName
  let (f,first) <-holding [ov] (getMethod ov m pl)
  callWith pos f first (backTo pos (starEach (e::es) X.env)) (backToKw pos (keywordEach [] X.env))):=by rfl):
 PE X (.Call (.Attribute o m apos) (e::es) [] pos) (tMeth C m sp dvs E ta t):=by
 intro pins s σ H Q I h
 refine PySem.W.methodCall_KW (pl:=pl) (thn (he pins s σ H _ I h) λu s1 ⟨x,H1,I1,rx,a,dx,fs,ex,ea,l,q⟩=>?_) ht
 subst ex
 obtain rfl:u=Value.ref a:=rx
 refine getmeth_ok I1 ea c hm l ?_
 refine PySem.W.callWith_K (first:=[.ref a]) (h₀:=X.base) I.ok.mod.kin hm.kp (thn (ha pos pins s1 σ H1 _ I1 q) λus s2 ⟨vs,H2,I2,r,q2⟩=>⟨I2.kIn,?_⟩) hst hpl
 exact run_fn (us:=.ref a::us) (vs:=.ref a::vs) F hr hb hd hx I2 (.cons rfl r) q2
theorem pe_meth0{pl:Sem Bool}(he:PE X o ta)(c:Cls X.K C)(hm:Meth X.K C m f)(F:FnOk X.prog X.w X.K X.mg X.base CX k f fd ps sp)(hr:Room k X.A)(hb:Binds X.K fd ps ds)(hd:Vals dvs ds)(hx:Passes CX X E)
 (ht:eval (.Call (.Attribute o m apos) [] [] pos) X.env=(do
  let ov <-eval o X.env
  standAt apos.atName
  let (f,first) <-holding [ov] (getMethod ov m pl)
  callWith pos f first (backTo pos (starEach [] X.env)) (backToKw pos (keywordEach [] X.env))):=by rfl):
 PE X (.Call (.Attribute o m apos) [] [] pos) (tMeth C m sp dvs E ta tNil):=by
 intro pins s σ H Q I h
 refine PySem.W.methodCall_KW (pl:=pl) (thn (he pins s σ H _ I h) λu s1 ⟨x,H1,I1,rx,a,dx,fs,ex,ea,l,q⟩=>?_) ht
 subst ex
 obtain rfl:u=Value.ref a:=rx
 refine getmeth_ok I1 ea c hm l ?_
 exact PySem.W.callWith_K0 (first:=[.ref a]) I1.kIn hm.kp (run_fn (us:=[.ref a]) (vs:=[.ref a]) F hr hb hd hx I1 (.cons rfl .nil) q)
structure Mk(K:PySem.W.Frag)(C f:Addr):Prop where
 makes:PySem.W.makesIn K C=true
 init:PySem.W.findIn K (.ref C) "__init__" =some (some (.ref f))
 fn:PySem.W.isFn K (.ref f)=true
 kp:PySem.W.keepIn K (.ref C)=true
theorem run_make{pins:List (Addr×Obj)}{σ:St}{H:Hp}{s:Shared}{Q:VK}{us:List Value}{vs:List V}(M:Mk X.K C f)(F:FnOk X.prog X.w X.K X.mg X.base CX k f fd ps sp)(hr:Room (k+1) X.A)(hb:Binds X.K fd ps ds)(hd:Vals dvs ds)
 (hx:Passes CX X E) (I:Inv X pins σ H s) (r:Vals vs us)
 (h:∀x dx,H x=none->H dx=none->dx≠x->sp (.ref x::(vs++dvs)) (upd (upd H dx (.own x)) x (.ins C dx [])) (λv H2=>v= .non/\Q (.ref x) H2) E):
 wpAny (model X.prog X.w) X.A (call (.ref C) us) (EP X pins σ Q) X.xe s:=by
 have hq:=h (s.heap.objs.size+1) s.heap.objs.size (I.hok.fresh (Nat.le_succ _)) (I.hok.fresh (Nat.le_refl _)) (Nat.ne_of_lt (Nat.lt_succ_self _))
 have I2:=Inv.made (C:=C) I
 have r2:Vals (V.ref (s.heap.objs.size+1)::(vs++dvs)) (Value.ref (s.heap.objs.size+1)::(us++ds)):=.cons rfl (r.append hd)
 have hl:(Value.ref (s.heap.objs.size+1)::us++ds).length=ps.length:=by
  have e:=r2.length
  rw [F.len _ _ _ _ hq] at e
  exact e.symm
 refine wpAny_call (make_map (f:=f) I.kIn M.makes M.init (beq_iff_eq.mp M.fn) (codeAny_mono (F.run _ X.stack _ _ ⟨Value.ref (s.heap.objs.size+1)::us,[]⟩ (Value.ref (s.heap.objs.size+1)::(us++ds)) _ _ E (hr.make C us [])
  (I2.env0.make C us []) (hb _ (Value.ref (s.heap.objs.size+1)::us) I2.kIn hl) r2 hq) λr s' hq'=>?_))
 cases r with
 | error e=>exact hx pins σ _ _ e s' I2 hq'
 | ok fl=>
  cases fl with
  | ret u=>
   obtain⟨v,H',I3,rv,ev,q3⟩:=I2.after hq'
   subst ev
   exact⟨rv,⟨V.ref (s.heap.objs.size+1),H',I3,rfl,q3⟩⟩
  | next=>exact False.elim hq'
  | brk=>exact False.elim hq'
  | cont=>exact False.elim hq'
end
section
variable{X:Cx}{CX:CXT}{k:Nat}{f C:Addr}{fd:FuncData}{ps ks:List Str}{sp:Sp}{E:XK}{x m:Str}{p pos apos kpos:Pos}{e o:Expr}{es:List Expr}{kws:List Keyword}{te ta:TE}{t tk:TA}{nm:Option Str}
structure KBinds(K:PySem.W.Frag)(fd:FuncData)(ps ks:List Str)(g:List Value->List Value->List Value)(gV:List V->List V->List V):Prop where
 to:∀(s:Shared) (us ws:List Value),K.In s.heap->(g us ws).length=ps.length->BindsTo s fd ⟨us,ks.zip ws⟩ (ps.zip (g us ws))
 rel:∀{vs:List V} {us:List Value} {zs:List V} {ws:List Value},Vals vs us->Vals zs ws->Vals (gV vs zs) (g us ws)
variable{g:List Value->List Value->List Value}{gV:List V->List V->List V}
end
structure FnScope(N P:List Str)(sc:Scope):Prop where
 kind:sc.kind= .function
 co:sc.isCoroutine=false
 gen:sc.isGenerator=false
 nd:N.Nodup
 pre:N.take P.length=P
 par:∀x∈P,sc.names.lookup x=some .local\/sc.names.lookup x=some .cell
 nofree:∀y∈sc.names,y.2≠.free
theorem bindL_out{kindOf:Str->Option NameKind}{x:Str}:∀{binds:List (Str×Value)} {m:Str->Option Value},(∀v,(x,v)∉binds)->bindL kindOf binds m x=m x
 | [],_,_=>rfl
 | (n,v)::r,m,h=>by
  unfold bindL
  rw [bindL_out λw hw=>h w (List.mem_cons_of_mem _ hw)]
  split
  ·have:x≠n:=by rintro rfl;exact h v List.mem_cons_self
   simp [this]
  ·rfl
theorem bindC_out{kindOf:Str->Option NameKind}{x:Str}:∀{binds:List (Str×Value)} {m:Str->Option Value},(∀v,(x,v)∉binds)->bindC kindOf binds m x=m x
 | [],_,_=>rfl
 | (n,v)::r,m,h=>by
  unfold bindC
  rw [bindC_out λw hw=>h w (List.mem_cons_of_mem _ hw)]
  split
  ·rfl
  ·have:x≠n:=by rintro rfl;exact h v List.mem_cons_self
   simp [this]
theorem bindL_get{kindOf:Str->Option NameKind}{x:Str}{v:Value}:∀{P:List Str} {vs:List Value} {i:Nat} {m:Str->Option Value},P.Nodup->P[i]? =some x->vs[i]? =some v->kindOf x=some .local->
 bindL kindOf (P.zip vs) m x=some v
 | [],_,_,_,_,h,_,_=>by simp at h
 | _::_,[],_,_,_,_,h,_=>by simp at h
 | p::P,w::vs,0,m,nd,h1,h2,hk=>by
  simp at h1 h2;subst h1;subst h2
  show bindL kindOf ((p,w)::P.zip vs) m p=_
  unfold bindL
  rw [bindL_out λv hv=>(List.nodup_cons.mp nd).1 (List.of_mem_zip hv).1,if_pos hk]
  simp
 | p::P,w::vs,i+1,m,nd,h1,h2,hk=>by
  show bindL kindOf ((p,w)::P.zip vs) m x=_
  unfold bindL
  exact bindL_get (i:=i) (List.nodup_cons.mp nd).2 (by simpa using h1) (by simpa using h2) hk
theorem bindC_get{kindOf:Str->Option NameKind}{x:Str}{v:Value}:∀{P:List Str} {vs:List Value} {i:Nat} {m:Str->Option Value},P.Nodup->P[i]? =some x->vs[i]? =some v->kindOf x≠some .local->
 bindC kindOf (P.zip vs) m x=some v
 | [],_,_,_,_,h,_,_=>by simp at h
 | _::_,[],_,_,_,_,h,_=>by simp at h
 | p::P,w::vs,0,m,nd,h1,h2,hk=>by
  simp at h1 h2;subst h1;subst h2
  show bindC kindOf ((p,w)::P.zip vs) m p=_
  unfold bindC
  rw [bindC_out λv hv=>(List.nodup_cons.mp nd).1 (List.of_mem_zip hv).1,if_neg hk]
  simp
 | p::P,w::vs,i+1,m,nd,h1,h2,hk=>by
  show bindC kindOf ((p,w)::P.zip vs) m x=_
  unfold bindC
  exact bindC_get (i:=i) (List.nodup_cons.mp nd).2 (by simpa using h1) (by simpa using h2) hk
def start(N:List Str)(vs:List V):St:=vs.map some++List.replicate (N.length-vs.length) none
def cxOf(CX:CXT)(P:Program)(w:World)(K:PySem.W.Frag)(mg:Str->Option Value)(base:Heap)(N:List Str)(qual:Str)(scope:Scope)(f:Addr)(cd:Value)(A:Around)(outer:List Env)(s:Shared)(H:Hp)(E:XK):Cx where
 prog:=P
 w:=w
 K:=K
 mg:=mg
 base:=base
 A:=A.deeper (envOfC qual scope s.heap.objs.size f cd)
 N:=N
 s₀:=s
 H₀:=H
 env:=envOfC qual scope s.heap.objs.size f cd
 outer:=outer
 stack:=envOfC qual scope s.heap.objs.size f cd::outer
 ex:=[]
 calm:=true
 fn:=λ_=>true
 pn:=[]
 xe:=λe s'=>wpAny (model P w) (A.deeper (envOfC qual scope s.heap.objs.size f cd)) (leaving (envOfC qual scope s.heap.objs.size f cd) e) (λ_ s''=>CX outer H s E e s'') (λe' s''=>CX outer H s E e' s'') s'
theorem cell_has{sc:Scope}{n:Nat}{x:Str}(h:sc.names.lookup x=some .cell):∃c,(cellsFrom n sc.names []).lookup x=some c:=by
 have q:=PySem.W.cellsFrom_some sc.names n [] (.inl h)
 exact Option.isSome_iff_exists.mp q
theorem inv_start{CX:CXT}{P:Program}{w:World}{K:PySem.W.Frag}{mg:Str->Option Value}{base:Heap}{N ps:List Str}{qual:Str}{scope:Scope}{f:Addr}{cd:Value}{A:Around}{outer:List Env}{s s1:Shared}{H:Hp}{E:XK}{us:List Value}{vs:List V}
 (S:FnScope N ps scope) (hd:A.handled=none) (e0:Env0 P w K mg base A outer s H) (hl:vs.length=ps.length) (r:Vals vs us)
 (x:InCallC s s.heap.objs.size (bindL (envOfC qual scope s.heap.objs.size f cd).kindOf (ps.zip us) λ_=>none) (cellsFrom (s.heap.objs.size+1) scope.names []) (bindC (envOfC qual scope s.heap.objs.size f cd).kindOf (ps.zip us) λ_=>none) s1):
 Inv (cxOf CX P w K mg base N qual scope f cd A outer s H E) [] (start N vs) H s1:=by
 have hpl:ps.length<=N.length:=by have:=congrArg List.length S.pre;rw [List.length_take] at this;omega
 obtain⟨h1,tk,rfl,hk⟩:=x.done
 have noA:∀b:Addr,b∉(cxOf CX P w K mg base N qual scope f cd A outer s H E).ex:=λb z=>absurd (show b∈([]:List Addr) from z) (by simp)
 refine⟨⟨e0.mod,S.kind,rfl,rfl,Nat.le_refl _,λy z c h1 h2=>?_,λy hy=>?_,λy c _ h=>?_,λ_=>hd,Around.frames_deeper e0.frames,.inr ⟨rfl,rfl⟩,λb z=>absurd z (noA b),e0.bs,e0.bsz,λb _ _=>noA b,λb z=>absurd z (noA b),e0.funs,e0.frf⟩,
  rfl,e0.bare,Un.kept hk,⟨_,x.toInCall.ns,λi y v h1 h2 h3=>?_⟩,λy c h=>⟨_,x.cell y c h⟩,e0.hok.fresh (Nat.le_refl _),λy c h=>?_,λp hp=>absurd (show p∈([]:List (Addr×Obj)) from hp) (by simp),e0.hok.kept hk,?_⟩
 ·exact name_of_addr x.apart (PySem.mem_of_lookup h1) (PySem.mem_of_lookup h2)
 ·have hy:scope.names.lookup y=some .cell\/scope.names.lookup y=some .free:=hy
  rcases hy with hy | hy
  ·exact cell_has hy
  ·exact absurd rfl (S.nofree _ (PySem.mem_of_lookup hy))
 ·exact Nat.le_of_lt (x.above y c (PySem.mem_of_lookup h))
 ·have hi:i<vs.length:=by
   unfold start at h2
   by_cases hi:i<vs.length
   ·exact hi
   ·rw [List.getElem?_append_right (by simpa using hi)] at h2
    rw [List.getElem?_replicate] at h2
    split at h2<;>cases h2
  have ha:vs[i]? =some v:=by
   unfold start at h2
   rw [List.getElem?_append_left (by simpa using hi),List.getElem?_map] at h2
   cases e:vs[i]? with
   | none=>rw [e] at h2;cases h2
   | some a=>rw [e] at h2;cases h2;rfl
  obtain⟨u,hu,rv⟩:=r.get ha
  have hp:ps[i]? =some y:=by
   rw [<-S.pre,List.getElem?_take_of_lt (by omega)];exact h1
  have ndP:ps.Nodup:=by rw [<-S.pre];exact S.nd.sublist (List.take_sublist _ _)
  refine⟨u,rv,?_⟩
  rcases S.par y (List.mem_of_getElem? hp) with k | k
  ·exact .inl ⟨k,bindL_get ndP hp hu k⟩
  ·obtain⟨c,e⟩:=cell_has (n:=s.heap.objs.size+1) k
   refine .inr ⟨.inl k,c,e,?_⟩
   have q:=x.cell y c e
   rw [bindC_get ndP hp hu (by show scope.names.lookup y≠_;rw [k];decide)] at q
   exact q
 ·exact e0.hok.fresh (Nat.le_of_lt (x.above y c (PySem.mem_of_lookup h)))
 ·unfold start
  show _=N.length
  rw [List.length_append,List.length_map,List.length_replicate]
  omega
theorem fn_of{CX:CXT}{P:Program}{w:World}{K:PySem.W.Frag}{mg:Str->Option Value}{base:Heap}{k:Nat}{f:Addr}{name qual:Str}{params:Arguments}{body:List Stmt}{scope:Scope}{dV kV doc pm cdv ct oc:Value}{an od:Option Addr}
 {osl:Array (Option Value)} {N ps:List Str} {sp:Sp} (lk:K.lookup f=some ⟨oc,od,.func (PySem.W.fnOf name qual params body scope dV kV doc pm an cdv ct),osl⟩) (hcd:PySem.W.codeIn K cdv qual=true) (S:FnScope N ps scope)
 (len:∀vs H Q E,sp vs H Q E->vs.length=ps.length)
 (hbody:∀(A:Around) (outer:List Env) (s:Shared) (H:Hp) (vs:List V) (Q:VK) (E:XK),Room k (A.deeper (envOfC qual scope s.heap.objs.size f cdv))->sp vs H Q E->
  ∃t,PSs (cxOf CX P w K mg base N qual scope f cdv A outer s H E) body t/\t {nx:=λ_ H'=>Q .non H',rt:=Q} (start N vs) H):
 FnOk P w K mg base CX (k+1) f (PySem.W.fnOf name qual params body scope dV kV doc pm an cdv ct) ps sp:=by
 refine⟨len,λA outer s H args us vs Q E hr e0 hb r hsp=>?_⟩
 have hl:=len _ _ _ _ hsp
 have KX:K.In s.heap:=e0.mod.kin.keeps λb o e=>(e0.bs b o e).1
 have lim:s.heap.NoLimit:=e0.mod.nolimit.keeps λb o e=>(e0.bs b o e).1
 have hkind:∀y∈ps.zip us,scope.names.lookup y.1=some .local\/(scope.names.lookup y.1=some .cell/\((cellsFrom (s.heap.objs.size+1) scope.names []).lookup y.1).isSome=true):=λ⟨n,v⟩ hy=>by
  rcases S.par n (List.of_mem_zip hy).1 with q | q
  ·exact .inl q
  ·exact .inr ⟨q,PySem.W.cellsFrom_some _ _ _ (.inl q)⟩
 refine codeAny_call_function hr.depth (KX _ _ lk) rfl S.co S.gen rfl (PySem.W.codeRec_of KX hcd) (hb _ _ _ _ ?_)
 refine wpAny_newFunctionEnv_cells S.kind hkind λenv he s1 x=>?_
 subst he
 refine⟨lim.keeps x.toInCall.keep,codeAny_func ?_⟩
 obtain⟨t,ht,hq⟩:=hbody A outer s H vs Q E (hr.deeper _) hsp
 have I:Inv (cxOf CX P w K mg base N qual scope f cdv A outer s H E) [] (start N vs) H s1:=inv_start S hr.hd e0 hl r x
 refine wpAny_mono (ht [] s1 (start N vs) H _ I hq) (λfl s' hs=>?_) λe s' hs=>hs
 have fin:∀{σ':St} {H':Hp} {v:V} {u:Value},Inv (cxOf CX P w K mg base N qual scope f cdv A outer s H E) [] σ' H' s'->RelV v u->Q v H'->CE outer P w H s Q u s':=
  λ{σ' H' v u} J rv q=>⟨v,H',J.os,J.bare,J.base,J.hok,rv,q⟩
 cases fl with
 | ret u=>
  obtain⟨v,σ',H',J,rv,q⟩:=hs
  exact fin J rv q
 | next=>
  obtain⟨σ',H',J,q⟩:=hs
  exact fin (v:=V.non) (u:=Value.none) J rfl q
 | brk=>
  obtain⟨_,_,_,q⟩:=hs
  exact False.elim q
 | cont=>
  obtain⟨_,_,_,q⟩:=hs
  exact False.elim q
end L2
namespace L2
open PySem PySem.Spec PyProof.Rows
section
variable{X:Cx}{x:Str}{p pos:Pos}{e:Expr}{es:List Expr}{t:TA}{id T:String}{r:List V->Hp->VK->Prop}
def tCB(r:List V->Hp->VK->Prop)(t:TA):TE:=λσ H Q=>t σ H λvs H1=>r vs H1 Q
theorem pe_callB(hc:CallR X (.builtin id) r)(hg:Gl X x)(hm:X.mg x=none)(hv:bootBuiltins x=some (.builtin id))(ha:PA X (e::es) t)(hn:x≠"__name__":=by decide)(hdb:(x==("__debug__":Str))=false:=by decide)
 (he:starEach (e::es) X.env=(false,eval e X.env)::starEach es X.env:=by rfl) (hpl:(backTo pos (starEach es X.env)).any (·.1)=false:=by rfl):PE X (.Call (.Name x p) (e::es) [] pos) (tCB r t):=by
 intro pins s σ H Q I h
 refine wpAny_Call_Name_kw (ld_blt I hg hm hv ?_ hn hdb)
 exact PyProof.Rows.callWith_builtin1 (thn (ha pos pins s σ H _ I h) λus s1 ⟨vs,H1,I1,r1,q1⟩=>hc pins s1 σ H1 vs us Q I1 r1 q1) he hpl
theorem pe_callTy(hc:CallR X (.type T) r)(hg:Gl X x)(hm:X.mg x=none)(hv:bootBuiltins x=some (.type T))(ha:PA X (e::es) t)(hn:x≠"__name__":=by decide)(hdb:(x==("__debug__":Str))=false:=by decide)
 (he:starEach (e::es) X.env=(false,eval e X.env)::starEach es X.env:=by rfl) (hpl:(backTo pos (starEach es X.env)).any (·.1)=false:=by rfl):PE X (.Call (.Name x p) (e::es) [] pos) (tCB r t):=by
 intro pins s σ H Q I h
 refine wpAny_Call_Name_kw (ld_blt I hg hm hv ?_ hn hdb)
 exact PyProof.Rows.callWith_type1 (thn (ha pos pins s σ H _ I h) λus s1 ⟨vs,H1,I1,r1,q1⟩=>hc pins s1 σ H1 vs us Q I1 r1 q1) he hpl
end
end L2
namespace HT
open PySem PyProof.Rows
def lexLt:List Int->List Int->Bool
 | [],[]=>false
 | [],_::_=>true
 | _::_,[]=>false
 | x::xs,y::ys=>if x=y then lexLt xs ys else decide (x<y)
theorem lexLt_cons(x y:Int)(xs ys:List Int):lexLt (x::xs) (y::ys)=if x=y then lexLt xs ys else decide (x<y):=rfl
section
open PySem.SeqAt
open PySem.AutoSeq1 (wpAny_loadPart')
open PySem.MeetsSeq PySem.MeetsSeq2 PySem.MeetsSeq3
end
section
variable{prog:Program}{w:World}{A:Around}{E:Value->Shared->Prop}{s:Shared}
theorem cat_tup{t b:Addr}{vs ws:List Value}{Q:Value->Shared->Prop}(ht:IsTup s.heap t vs.toArray)(hb:IsTup s.heap b ws.toArray)(hv:vs≠[])
 (h1:ws= []->Q (.ref t) s) (h2:ws≠[]->Q (.ref s.heap.objs.size) {s with heap:=s.heap.push {cls:=.type "tuple",data:=.seq (vs++ws).toArray}})
 (hsz:vs.length+ws.length<=sizeLine):wpAny (model prog w) A (binaryOp .Add (.ref t) (.ref b)) Q E s:=by
 obtain⟨⟨cls,dd,data,sl⟩,ho,hc,n,hd⟩:=id ht
 obtain⟨⟨cls2,dd2,data2,sl2⟩,ho2,hc2,n2,hd2⟩:=id hb
 simp only at hc hd hc2 hd2
 subst hc hd hc2 hd2
 have e:vs.toArray++ws.toArray=(vs++ws).toArray:=by simp
 by_cases hw:ws= []
 ·exact concat_meets ⟨_,ho,rfl⟩ ⟨_,ho2,rfl⟩ noFill_tuple_add seq_tuple_add PySem.F.slot_tuple_add PySem.F.entry_tuple_add (PySem.F.args_tuple_add_2 _ _)
   (tuple_addW1 t b vs.toArray ws.toArray n n2 dd dd2 sl sl2 (by simpa using hv) (by simp [hw])) ⟨ho,ho2,h1 hw⟩
 ·refine concat_meets ⟨_,ho,rfl⟩ ⟨_,ho2,rfl⟩ noFill_tuple_add seq_tuple_add PySem.F.slot_tuple_add PySem.F.entry_tuple_add (PySem.F.args_tuple_add_2 _ _)
   (tuple_addW2 t b vs.toArray ws.toArray n n2 dd dd2 sl sl2 (by simpa using hv) (by simpa using hw) (by rw [List.size_toArray,List.size_toArray];exact hsz)) ⟨ho,ho2,?_⟩
  rw [e]
  exact h2 hw
def sIx(n d:Nat):Option Int->Nat
 | none=>d
 | some v=>if v<0 then (v+(n:Int)).toNat else min v.toNat n
theorem sIx_none(n d:Nat):sIx n d none=d:=rfl
theorem sIx_le(n d:Nat)(hd:d<=n)(o:Option Int):sIx n d o<=n:=by
 cases o with
 | none=>exact hd
 | some v=>
  show(if v<0 then (v+(n:Int)).toNat else min v.toNat n)<=n
  by_cases hv:v<0
  ·rw [if_pos hv];omega
  ·rw [if_neg hv];exact Nat.min_le_right _ _
theorem clip_eq(v:Int)(n d:Nat):(if v<0 then max (v+(n:Int)) 0 else min v (n:Int))=((sIx n d (some v):Nat):Int):=by
 show(if v<0 then max (v+(n:Int)) 0 else min v (n:Int))=(((if v<0 then (v+(n:Int)).toNat else min v.toNat n):Nat):Int)
 by_cases hv:v<0
 ·simp only [if_pos hv];omega
 ·simp only [if_neg hv];omega
theorem adjust_gen(lo hi:Option Int)(n:Nat):Builtin.Slice.sliceAdjust lo hi 1 (n:Int)=(((sIx n 0 lo:Nat):Int),((sIx n n hi:Nat):Int)):=by
 have h1:¬((1:Int)<0):=by omega
 unfold Builtin.Slice.sliceAdjust
 simp only [h1,if_false]
 refine Prod.ext ?_ ?_
 ·cases lo with
  | none=>rfl
  | some v=>exact clip_eq v n 0
 ·cases hi with
  | none=>rfl
  | some v=>exact clip_eq v n n
theorem places_gen(i j:Nat):Builtin.Slice.slicePlaces (i:Int) (j:Int) 1=j-i:=by
 unfold Builtin.Slice.slicePlaces
 have h1:(1:Int)>0:=by omega
 simp only [h1,if_true,Int.ediv_one]
 split<;>omega
theorem slicePart_{v:Value}{o:Option Int}{Q:Option Int->Shared->Prop}(p:IsPart v o)(h:Q o s):wpAny (model prog w) A (Builtin.Slice.slicePartIndex v) Q E s:=by
 cases p with
 | none=>exact slicePart_none h
 | int i t=>exact slicePart_int h
theorem sliceApplied_gen{sl:Addr}{vl vu:Value}{lo hi:Option Int}{n:Nat}{Q:Int×Int×Nat->Shared->Prop}(hs:s.heap.IsSliceOf sl vl vu .none)(pl:IsPart vl lo)(pu:IsPart vu hi)
 (h:Q (((sIx n 0 lo:Nat):Int),1,sIx n n hi-sIx n 0 lo) s):wpAny (model prog w) A (Builtin.Slice.sliceApplied (.ref sl) (pure (n:Int))) Q E s:=by
 obtain⟨os,hos,hcs,hds⟩:=id hs
 unfold Builtin.Slice.sliceApplied Builtin.Slice.sliceFields
 refine wpAny_bind (wpAny_bind (wpAny_field hos hds (x:=vl) rfl (wpAny_bind (wpAny_field hos hds (x:=vu) rfl (wpAny_bind (wpAny_field hos hds (x:=.none) rfl (wpAny_pure ?_)))))))
 refine wpAny_bind (slicePart_none ?_)
 show wpAny _ _ (if ((1:Int)==0)=true then _ else _) _ _ s
 rw [if_neg (by decide)]
 refine wpAny_bind (slicePart_ pl (wpAny_bind (slicePart_ pu (wpAny_bind (wpAny_pure ?_)))))
 show wpAny _ _ (match Builtin.Slice.sliceAdjust lo hi 1 (n:Int) with | (lo,hi)=>pure (lo,(1:Int),Builtin.Slice.slicePlaces lo hi 1)) _ _ s
 rw [adjust_gen lo hi n]
 show wpAny _ _ (pure (((sIx n 0 lo:Nat):Int),(1:Int),Builtin.Slice.slicePlaces ((sIx n 0 lo:Nat):Int) ((sIx n n hi:Nat):Int) 1)) _ _ s
 rw [places_gen]
 exact wpAny_pure h
theorem pick_gen(xs:Array Value)(i k:Nat):((List.range k).filterMap λ(m:Nat)=>xs[((i:Int)+(m:Int)*1).toNat]?).toArray=((xs.toList.drop i).take k).toArray:=by
 have e:(λ(m:Nat)=>xs[((i:Int)+(m:Int)*1).toNat]?)=λm=>xs[i+m]?:=by
  funext m
  have:((i:Int)+(m:Int)*1).toNat=i+m:=by omega
  rw [this]
 rw [e]
 have:=pick_run xs i k
 rw [List.filterMap_map] at this
 have e2:((λx=>xs[x]?)∘λx=>i+x)=λm=>xs[i+m]?:=rfl
 rw [e2] at this
 rw [this]
theorem getItem_tuple_cut{t sl:Addr}{items:Array Value}{vl vu:Value}{lo hi:Option Int}{Q:Value->Shared->Prop}(ht:IsTup s.heap t items)(hs:s.heap.IsSliceOf sl vl vu .none)(pl:IsPart vl lo)(pu:IsPart vu hi)
 (hw:¬(sIx items.size 0 lo=0/\sIx items.size items.size hi=items.size))
 (h:Q (.ref s.heap.objs.size) {s with heap:=s.heap.push {cls:=.type "tuple",data:=.seq ((items.toList.drop (sIx items.size 0 lo)).take (sIx items.size items.size hi-sIx items.size 0 lo)).toArray}})
 (hsz:items.size<=sizeLine):wpAny (model prog w) A (getItem (.ref t) (.ref sl)) Q E s:=by
 have htake:sizeOk (.seq ((items.toList.drop (sIx items.size 0 lo)).take (sIx items.size items.size hi-sIx items.size 0 lo)).toArray):=by
  show((items.toList.drop (sIx items.size 0 lo)).take (sIx items.size items.size hi-sIx items.size 0 lo)).toArray.size<=sizeLine
  rw [List.size_toArray,List.length_take,List.length_drop,Array.length_toList]
  omega
 have hj:sIx items.size items.size hi<=items.size:=sIx_le _ _ (Nat.le_refl _) hi
 obtain⟨os,hos,hcs,hds⟩:=id hs
 have hTs:s.TypeIs (.ref sl) "slice":=⟨os,hos,hcs⟩
 unfold getItem
 try with_reducible refine wpAny_holding ?_
 first | refine wpAny_bind (wpAny_pure ?_) | skip
 refine wpAny_bind (wpAny_sequenceKey ht.typeIs (by decide) ?_)
 refine wpAny_bind (wpAny_callSpecial?_slot (name:=Str.ofString "__getitem__") ht.typeIs PyProof.Rows.slot_tuple_getitem
  (wpAny_call_entry PyProof.Rows.slot_tuple_getitem ht.typeIs entry_tuple_getitem ?_ (args_tuple_getitem _ _)))
 show wpAny _ _ (Builtin.Tuple.tupleItemsOf (.ref t) >>= _) _ _ s
 refine wpAny_bind (tupleItemsOf_ ht ?_)
 refine wpAny_bind (wpAny_typeOf hTs ?_)
 rw [if_pos (by decide)]
 refine wpAny_bind (sliceApplied_gen hs pl pu ?_)
 have hno:¬((((sIx items.size 0 lo:Nat):Int)==0&&(1:Int)==1&&(sIx items.size items.size hi-sIx items.size 0 lo)==items.size)=true):=by
  intro q
  rw [Bool.and_eq_true,Bool.and_eq_true] at q
  have q1:((sIx items.size 0 lo:Nat):Int)=0:=eq_of_beq q.1.1
  have q2:sIx items.size items.size hi-sIx items.size 0 lo=items.size:=eq_of_beq q.2
  exact hw ⟨by omega,by omega⟩
 show wpAny _ _ (if (((sIx items.size 0 lo:Nat):Int)==0&&(1:Int)==1&&(sIx items.size items.size hi-sIx items.size 0 lo)==items.size)=true then _ else _) _ _ s
 rw [if_neg hno,pick_gen]
 first
  | exact wpAny_bind (m:=Builtin.Tuple.tupleExact _) (wpAny_newObj_type (wpAny_pure ⟨_,rfl,wpAny_pure h⟩) htake)
  | exact wpAny_bind (m:=Builtin.Tuple.tupleExact _) (wpAny_newObj_type (wpAny_bind (wpAny_pure (wpAny_pure ⟨_,rfl,wpAny_pure h⟩))) htake)
  | exact wpAny_bind (wpAny_bind (m:=Builtin.Tuple.tupleExact _) (wpAny_newObj_type (wpAny_pure (wpAny_pure ⟨_,rfl,wpAny_pure h⟩)) htake))
  | exact wpAny_bind (wpAny_bind (m:=Builtin.Tuple.tupleExact _) (wpAny_newObj_type (wpAny_pure ⟨_,rfl,wpAny_pure h⟩) htake))
end
end HT
namespace L2
open PySem PySem.Spec PyProof.Rows
abbrev TO:=St->Hp->(Option Int->Hp->Prop)->Prop
def PO(X:Cx)(e:Option Expr)(t:TO):Prop:=
 ∀(pins:List (Addr×Obj)) (s:Shared) (σ:St) (H:Hp) (Q:Option Int->Hp->Prop),Inv X pins σ H s->t σ H Q->
  wpAny (model X.prog X.w) X.A (evalPart e X.env) (λu s'=>∃o H',Inv X pins σ H' s'/\IsPart u o/\Q o H') X.xe s
def tNoPart:TO:=λ_ H Q=>Q none H
def tPart(t:TE):TO:=λσ H Q=>t σ H λx H1=>∃i,x= .int i/\Q (some i) H1
theorem intsAre_of{ns:List Int}:∀{us:List Value},Vals (ns.map V.int) us->IntsAre us ns:=by
 induction ns with
 | nil=>intro us r;rw [List.map_nil] at r;cases r;exact .nil
 | cons n ns ih=>
  intro us r
  rw [List.map_cons] at r
  cases r with
  | cons r1 r2=>
   obtain⟨t,e⟩:=r1
   subst e
   exact .cons n t (ih r2)
section
variable{X:Cx}{e:Expr}{te:TE}{lo hi:Option Expr}{tl th:TO}{pos p2:Pos}
theorem po_none:PO X none tNoPart:=by
 intro pins s σ H Q I h
 rw [evalPart_none]
 exact wpAny_pure ⟨none,H,I,.none,h⟩
theorem po_some(h:PE X e te):PO X (some e) (tPart te):=by
 intro pins s σ H Q I hw
 rw [evalPart_some]
 refine thn (h pins s σ H _ I hw) λu s1 ⟨x,H1,I1,r1,q1⟩=>?_
 obtain⟨i,rfl,q⟩:=q1
 obtain⟨t,rfl⟩:=r1
 exact⟨some i,H1,I1,.int i t,q⟩
def SlR(X:Cx)(r:V->Option Int->Option Int->Hp->VK->Prop):Prop:=
 ∀(pins:List (Addr×Obj)) (s:Shared) (σ:St) (H:Hp) (x:V) (v vl vu:Value) (lo hi:Option Int) (sl:Addr) (Q:VK),Inv X pins σ H s->RelV x v->s.heap.IsSliceOf sl vl vu .none->IsPart vl lo->IsPart vu hi->r x lo hi H Q->
  ∃T id,typeLookup (.type T) "__getitem__" =pure (some (.builtin id))/\s.TypeIs v T/\wpAny (model X.prog X.w) X.A (getItem v (.ref sl)) (EP X pins σ Q) X.xe s
def tSl(r:V->Option Int->Option Int->Hp->VK->Prop)(te:TE)(tl th:TO):TE:=λσ H Q=>te σ H λx H1=>tl σ H1 λl H2=>th σ H2 λu H3=>r x l u H3 Q
theorem pe_slice{r:V->Option Int->Option Int->Hp->VK->Prop}(hr:SlR X r)(he:PE X e te)(hl:PO X lo tl)(hu:PO X hi th):PE X (.Subscript e (.Slice lo hi none p2) pos) (tSl r te tl th):=by
 intro pins s σ H Q I h
 refine Subscript_ (thn (he pins s σ H _ I h) λv s1 ⟨x,H1,I1,r1,q1⟩=>?_)
 refine wpAny_Slice (thn (hl pins s1 σ H1 _ I1 q1) λvl s2 ⟨l,H2,I2,pl,q2⟩=>thn (hu pins s2 σ H2 _ I2 q2) λvu s3 ⟨u,H3,I3,pu,q3⟩=>?_)
 rw [evalPart_none]
 refine wpAny_pure ?_
 have I4:Inv X pins σ H3 {s3 with heap:=s3.heap.push {cls:=.type "slice",data:=.fields #[vl,vu,.none]}}:=I3.kept (t':=s3.toks) λb ob q=>Heap.get?_push_of_some _ q
 obtain⟨T,id,hT,ht,hg⟩:=hr pins {s3 with heap:=s3.heap.push {cls:=.type "slice",data:=.fields #[vl,vu,.none]}} σ H3 x v vl vu l u s3.heap.objs.size Q I4 r1 (Heap.IsSliceOf.new ..) pl pu q3
 show wpAny (model X.prog X.w) X.A (subscriptTail e (.Slice lo hi none p2) v (.ref s3.heap.objs.size)) (EP X pins σ Q) X.xe {s3 with heap:=s3.heap.push {cls:=.type "slice",data:=.fields #[vl,vu,.none]}}
 exact tail_any (ops:=[.ref s3.heap.objs.size,v]) ht hT hg (by with_unfolding_all rfl)
def cutV(xs:List V)(lo hi:Option Int):List V:=(xs.drop (HT.sIx xs.length 0 lo)).take (HT.sIx xs.length xs.length hi-HT.sIx xs.length 0 lo)
theorem cutV_length(xs:List V)(lo hi:Option Int):(cutV xs lo hi).length<=xs.length:=by
 unfold cutV
 rw [List.length_take,List.length_drop]
 omega
def rSlT(K:PySem.W.Frag):V->Option Int->Option Int->Hp->VK->Prop:=λx lo hi H Q=>∃a xs,x= .ref a/\SqT K H a xs/\
 ¬(HT.sIx xs.length 0 lo=0/\HT.sIx xs.length xs.length hi=xs.length)/\∀p,H p=none->Q (.ref p) (upd H p (.tup (cutV xs lo hi)))
theorem sl_tup:SlR X (rSlT X.K):=by
 intro pins s σ H x v vl vu lo hi sl Q I rx hs pl pu h
 obtain⟨a,xs,rfl,hx,hw,q⟩:=h
 cases rx
 obtain⟨its,r,ht,hz⟩:=I.tuple hx
 have hlen:its.toArray.size=xs.length:=by rw [List.size_toArray];exact r.length.symm
 refine⟨"tuple",_,PyProof.Rows.slot_tuple_getitem.lookup,ht.typeIs,?_⟩
 refine HT.getItem_tuple_cut ht hs pl pu (by rw [hlen];exact hw) ?_ (by rw [hlen];exact hz)
 rw [hlen]
 refine⟨.ref s.heap.objs.size,_,I.laid (t':=s.toks) (o:=.tup (cutV xs lo hi)) (λb ob q=>Heap.get?_push_of_some _ q) (Nat.le_refl _) ?_,rfl,q _ (I.hok.fresh (Nat.le_refl _))⟩
 exact⟨Nat.le_trans (cutV_length xs lo hi) hz,_,(r.drop (HT.sIx xs.length 0 lo)).take (HT.sIx xs.length xs.length hi-HT.sIx xs.length 0 lo),IsTup.new _ _⟩
def rLtT(K:PySem.W.Frag):R2:=λx y H Q=>∃a b ns ms,x= .ref a/\y= .ref b/\SqT K H a (ns.map V.int)/\SqT K H b (ms.map V.int)/\Q (.bl (HT.lexLt ns ms)) H
def rCatT(K:PySem.W.Frag):R2:=λx y H Q=>∃a b xs ys,x= .ref a/\y= .ref b/\SqT K H a xs/\SqT K H b ys/\xs≠[]/\xs.length+ys.length<=sizeLine/\
 (ys= []->Q (.ref a) H)/\(ys≠[]->∀p,H p=none->Q (.ref p) (upd H p (.tup (xs++ys))))
theorem Vals.nil_iff{xs:List V}{us:List Value}(r:Vals xs us):us= []↔xs= []:=by
 cases r with
 | nil=>simp
 | cons _ _=>simp
theorem op_catT:OpR X (binaryOp .Add) (rCatT X.K):=by
 intro pins s σ H x y v u Q I rx ry h
 obtain⟨a,b,xs,ys,rfl,rfl,ha,hb,hx,hz,q1,q2⟩:=h
 cases rx
 cases ry
 obtain⟨its,r1,p1,_⟩:=I.tuple ha
 obtain⟨its2,r2,p2,_⟩:=I.tuple hb
 refine HT.cat_tup p1 p2 (λz=>hx (r1.nil_iff.mp z)) (λz=>⟨.ref a,H,I,rfl,q1 (r2.nil_iff.mp z)⟩) (λz=>?_) (by rw [<-r1.length,<-r2.length];exact hz)
 refine⟨.ref s.heap.objs.size,_,I.laid (t':=s.toks) (o:=.tup (xs++ys)) (λb ob q=>Heap.get?_push_of_some _ q) (Nat.le_refl _) ?_,rfl,q2 (λw=>z (r2.nil_iff.mpr w)) _ (I.hok.fresh (Nat.le_refl _))⟩
 exact⟨by rw [List.length_append];exact hz,_,r1.append r2,IsTup.new _ _⟩
end
end L2
namespace L2
open PySem PySem.Spec PyProof.Rows
def ixN(n:Nat)(i:Int):Option Nat:=if 0<=i then (if i<n then some i.toNat else none) else if -(n:Int)<=i then some (i+n).toNat else none
def atI{α:Type}(xs:List α)(i:Int):Option α:=(ixN xs.length i).bind λj=>xs[j]?
theorem ixN_seq{n:Nat}{i:Int}{j:Nat}(h:ixN n i=some j):seqIndex? i n=some j/\j<n/\ -(n:Int)<=i/\i<n:=by
 unfold ixN at h
 by_cases h0:0<=i
 ·rw [if_pos h0] at h
  by_cases h1:i<n
  ·rw [if_pos h1] at h
   have e:i.toNat=j:=Option.some.inj h
   exact⟨by rw [seqIndex_of h0 h1,e],by omega,by omega,h1⟩
  ·rw [if_neg h1] at h;cases h
 ·rw [if_neg h0] at h
  by_cases h1: -(n:Int)<=i
  ·rw [if_pos h1] at h
   have e:(i+n).toNat=j:=Option.some.inj h
   exact⟨by rw [seqIndex_neg (by omega) h1,e],by omega,h1,by omega⟩
  ·rw [if_neg h1] at h;cases h
theorem atI_get{α:Type}{xs:List α}{i:Int}{v:α}(h:atI xs i=some v):∃j,seqIndex? i xs.length=some j/\xs[j]? =some v/\j<xs.length/\ -(xs.length:Int)<=i/\i<xs.length:=by
 unfold atI at h
 cases e:ixN xs.length i with
 | none=>rw [e] at h;cases h
 | some j=>
  rw [e] at h
  obtain⟨h1,h2,h3,h4⟩:=ixN_seq e
  exact⟨j,h1,h,h2,h3,h4⟩
theorem atI_nat{α:Type}{xs:List α}{j:Nat}{v:α}(h:xs[j]? =some v):atI xs (j:Int)=some v:=by
 have hj:j<xs.length:=(List.getElem?_eq_some_iff.mp h).1
 have e:ixN xs.length (j:Int)=some j:=by
  unfold ixN
  rw [if_pos (by omega),if_pos (by omega)];simp
 unfold atI;rw [e];exact h
theorem atI_last{α:Type}(xs:List α)(v:α):atI (xs++[v]) (-1)=some v:=by
 have hl:(xs++[v]).length=xs.length+1:=by simp
 have e:ixN (xs++[v]).length (-1)=some xs.length:=by
  unfold ixN
  rw [hl,if_neg (by decide),if_pos (by omega)]
  congr 1
  omega
 unfold atI
 rw [e]
 show(xs++[v])[xs.length]? =some v
 simp
def PlainIx(b:Expr):Prop:=∀o i,subscripted b false o i=operate [o,i] (getItem o i)
def IxR(X:Cx)(r:R2):Prop:=
 ∀(value slice:Expr) (pins:List (Addr×Obj)) (s:Shared) (σ:St) (H:Hp) (x y:V) (v u:Value) (Q:VK),Inv X pins σ H s->RelV x v->RelV y u->r x y H Q->
  subscripted slice false v u=operate [v,u] (getItem v u)->wpAny (model X.prog X.w) X.A (subscriptTail value slice v u) (EP X pins σ Q) X.xe s
def MtR (X : Cx) (id : String) (r : V → List V → Hp → VK → Prop) : Prop :=
  ∀ (pins : List (Addr × Obj)) (s : Shared) (σ : St) (H : Hp) (x : V) (xs : List V) (v : Value) (us : List Value) (Q : VK), Inv X pins σ H s → RelV x v → Vals xs us → r x xs H Q →
    wpAny (model X.prog X.w) X.A (call (.builtin id) (v :: us)) (EP X pins σ Q) X.xe s
section
variable{X:Cx}{a b:Expr}{ta tb:TE}{pos:Pos}
theorem pe_ix{r:R2}(hr:IxR X r)(ha:PE X a ta)(hb:PE X b tb)(hs:PlainIx b):PE X (.Subscript a b pos) (tOp r ta tb):=by
 intro pins s σ H Q I h
 exact Subscript_ (binT ha hb I h λv u s2 x y H2 I2 rx ry q=>hr a b pins s2 σ H2 x y v u Q I2 rx ry q (hs _ _))
def rIxL(K:PySem.W.Frag):R2:=λx y H Q=>∃p xs i v,x= .ref p/\y= .int i/\SqL K H p xs/\atI xs i=some v/\Q v H
def rIxT(K:PySem.W.Frag):R2:=λx y H Q=>∃p xs i v,x= .ref p/\y= .int i/\SqT K H p xs/\atI xs i=some v/\Q v H
def rIxS:R2:=λx y H Q=>∃z i c,x= .str z/\y= .int i/\z.length<=sizeLine/\atI z.cps.toList i=some c/\Q (.str ⟨#[c]⟩) H
theorem ix_list:IxR X (rIxL X.K):=by
 intro value slice pins s σ H x y v u Q I rx ry h hs
 obtain⟨p,xs,i,z,rfl,rfl,hq,he,q⟩:=h
 cases rx
 obtain⟨t,rfl⟩:=ry
 obtain⟨its,r,pl,hz⟩:=I.list hq
 obtain⟨j,h1,h2,h3,h4,h5⟩:=atI_get he
 obtain⟨w,ew,rw'⟩:=r.get h2
 have hl:=r.length
 have hn:=line63
 have fin:EP X pins σ Q w s:=⟨z,H,I,rw',q⟩
 by_cases h0:0<=i
 ·have hj:i.toNat=j:=by
   rw [seqIndex_of h0 h5] at h1
   exact Option.some.inj h1
  exact item_listR pl.isList h0 (by omega) (by rw [hj];simpa using ew) fin hs
 ·have hj:(i+(its.toArray.size:Int)).toNat=j:=by
   rw [seqIndex_neg (by omega) h4] at h1
   rw [List.size_toArray,<-hl]
   exact Option.some.inj h1
  exact subscriptTail_builtinR (x:=w) pl.isList.typeIs slot_list_getitem.lookup
   (wpAny_getItem_list_neg (Q:=λr s'=>r=w/\EP X pins σ Q r s') pl.isList (by omega) (by rw [List.size_toArray]<;>omega) (by omega) (by rw [hj];simpa using ew) ⟨rfl,fin⟩) hs
theorem ix_tup:IxR X (rIxT X.K):=by
 intro value slice pins s σ H x y v u Q I rx ry h hs
 obtain⟨p,xs,i,z,rfl,rfl,hq,he,q⟩:=h
 cases rx
 obtain⟨t,rfl⟩:=ry
 obtain⟨its,r,pl,hz⟩:=I.tuple hq
 obtain⟨j,h1,h2,h3,h4,h5⟩:=atI_get he
 obtain⟨w,ew,rw'⟩:=r.get h2
 have hl:=r.length
 have hn:=line63
 have fin:EP X pins σ Q w s:=⟨z,H,I,rw',q⟩
 exact subscriptTail_builtinR (x:=w) pl.typeIs slot_tuple_getitem.lookup
  (getItem_tuple (j:=j) (Q:=λr s'=>r=w/\EP X pins σ Q r s') pl (by omega) (by omega) (by rw [List.size_toArray,<-hl];exact h1) (by simpa using ew) ⟨rfl,fin⟩) hs
theorem mapSeq_set(its:List Value)(n j:Nat)(u:Value):Obj.mapSeq (·.setIfInBounds j u) {cls:=.type "list",data:=.seq its.toArray n}={cls:=.type "list",data:=.seq (its.set j u).toArray n}:=by
 simp [Obj.mapSeq]
theorem Inv.lst{pins:List (Addr×Obj)}{σ:St}{H:Hp}{s:Shared}{p:Addr}{xs:List V}(I:Inv X pins σ H s)(h:H p=some (.lst xs)):
 ∃(its:List Value) (n:Nat),Vals xs its/\s.heap.get? p=some {cls:=.type "list",data:=.seq its.toArray n}/\xs.length<=sizeLine:=by
 obtain⟨z,its,n,r,e⟩:=I.hok p _ h
 exact⟨its,n,r,e,z⟩
theorem Inv.lstUpd{pins:List (Addr×Obj)}{σ:St}{H:Hp}{s:Shared}{p:Addr}{xs ys:List V}{its its':List Value}{n n':Nat}{f:Obj->Obj}(I:Inv X pins σ H s)(h:H p=some (.lst xs))
 (ho:s.heap.get? p=some {cls:=.type "list",data:=.seq its.toArray n}) (hf:f {cls:=.type "list",data:=.seq its.toArray n}={cls:=.type "list",data:=.seq its'.toArray n'}) (r:Vals ys its') (hz:ys.length<=sizeLine) (t:Nat):
 Inv X pins σ (upd H p (.lst ys)) {s with heap:=s.heap.update p f,toks:=t}:=by
 have e:(s.heap.update p f).get? p=some {cls:=.type "list",data:=.seq its'.toArray n'}:=by
  rw [Heap.get?_update_self f ho (by rw [hf]<;>rfl),hf]
 refine I.write (x:=p) (e:=p) (by rw [h];trivial) (.inl rfl) (λb u hb q=>(Heap.get?_update_other _ _ (Ne.symm hb)).trans q) ⟨_,e⟩ ?_
 exact⟨hz,its',n',r,e⟩
def rSetL:V->V->V->Hp->(Hp->Prop)->Prop:=λo i v H Q=>∃p xs k j,o= .ref p/\i= .int k/\H p=some (.lst xs)/\ixN xs.length k=some j/\Q (upd H p (.lst (xs.set j v)))
theorem set_list:PSet X rSetL:=by
 intro pins s σ H o i v ov iv u Q I ro ri rv h
 obtain⟨p,xs,k,j,rfl,rfl,hp,hj,q⟩:=h
 cases ro
 obtain⟨t,rfl⟩:=ri
 obtain⟨its,n,r,ho,hz⟩:=I.lst hp
 obtain⟨h1,h2,h3,h4⟩:=ixN_seq hj
 have hl:=r.length
 have hn:=line63
 have I':Inv X pins σ (upd H p (.lst (xs.set j v))) {s with heap:=s.heap.update p (Obj.mapSeq (·.setIfInBounds j u))}:=
  I.lstUpd hp ho (mapSeq_set its n j u) (r.set rv j) (by rw [List.length_set];exact hz) s.toks
 by_cases h0:0<=k
 ·have hk:k.toNat=j:=by
   rw [seqIndex_of h0 h4] at h1
   exact Option.some.inj h1
  exact PySem.W.ki_setAt ho h0 (by omega) (by rw [List.size_toArray,<-hl];exact h4) (by rw [hk];exact⟨_,I',q⟩)
 ·have hk:(k+(its.toArray.size:Int)).toNat=j:=by
   rw [seqIndex_neg (by omega) h3] at h1
   rw [List.size_toArray,<-hl]
   exact Option.some.inj h1
  exact PySem.W.ki_setBack ho (by omega) (by rw [List.size_toArray,<-hl];exact h3) (by omega) (by rw [hk];exact⟨_,I',q⟩)
theorem slice_bounds(lo hi:Option Int)(n:Nat):(sliceBounds lo hi none n).1=((HT.sIx n 0 lo:Nat):Int)/\(sliceBounds lo hi none n).2.1=((HT.sIx n n hi:Nat):Int)/\(sliceBounds lo hi none n).2.2=1:=by
 refine⟨?_,?_,rfl⟩
 ·cases lo with
  | none=>simp [sliceBounds,HT.sIx]
  | some i=>
   simp only [sliceBounds,HT.sIx,Option.getD_none,show(1:Int)>0 by decide,if_true]
   by_cases h:i<0
   ·simp only [h,if_true]<;>omega
   ·simp only [h,if_false]<;>omega
 ·cases hi with
  | none=>simp [sliceBounds,HT.sIx]
  | some i=>
   simp only [sliceBounds,HT.sIx,Option.getD_none,show(1:Int)>0 by decide,if_true]
   by_cases h:i<0
   ·simp only [h,if_true]<;>omega
   ·simp only [h,if_false]<;>omega
theorem slicePick_cut(its:List Value)(lo hi:Option Int):slicePick its.toArray lo hi none=((its.drop (HT.sIx its.length 0 lo)).take (HT.sIx its.length its.length hi-HT.sIx its.length 0 lo)).toArray:=by
 obtain⟨h1,h2,h3⟩:=slice_bounds lo hi its.toArray.size
 unfold slicePick
 rw [h1,h2,h3]
 simp only [sliceRange_one,pick_run,List.size_toArray]<;>rfl
def rSlL(K:PySem.W.Frag):V->Option Int->Option Int->Hp->VK->Prop:=λx lo hi H Q=>∃a xs,x= .ref a/\SqL K H a xs/\∀p,H p=none->Q (.ref p) (upd H p (.lst (cutV xs lo hi)))
theorem sl_list:SlR X (rSlL X.K):=by
 intro pins s σ H x v vl vu lo hi sl Q I rx hs pl pu h
 obtain⟨a,xs,rfl,hx,q⟩:=h
 cases rx
 obtain⟨its,r,ht,hz⟩:=I.list hx
 have hlen:=r.length
 refine⟨"list",_,slot_list_getitem.lookup,ht.isList.typeIs,?_⟩
 refine wpAny_getItem_list_slice ht.isList hs pl pu .none (by simp) ?_ (by rw [List.size_toArray]<;>omega)
 rw [slicePick_cut,<-hlen]
 refine⟨.ref s.heap.objs.size,_,I.laid (t':=s.toks) (o:=.lst (cutV xs lo hi)) (λb ob q=>Heap.get?_push_of_some _ q) (Nat.le_refl _) ?_,rfl,q _ (I.hok.fresh (Nat.le_refl _))⟩
 exact⟨Nat.le_trans (cutV_length xs lo hi) hz,_,0,(r.drop (HT.sIx xs.length 0 lo)).take (HT.sIx xs.length xs.length hi-HT.sIx xs.length 0 lo),Heap.get?_push_size _ rfl⟩
def flatV:V->Bool
 | .non=>true
 | .bl _=>true
 | .int _=>true
 | .str _=>true
 | _=>false
def eqV:V->V->Bool
 | .non,.non=>true
 | .bl a,.bl b=>a==b
 | .bl a,.int b=>(if a then 1 else 0)==b
 | .int a,.bl b=>a==(if b then 1 else 0)
 | .int a,.int b=>a==b
 | .str a,.str b=>a==b
 | _,_=>false
theorem eqAt_V{A:Around}{s:Shared}{y x:V}{u v:Value}(ry:RelV y u)(rx:RelV x v)(fy:flatV y=true)(fx:flatV x=true):SeqAt.EqAt A s u v (eqV y x):=by
 cases y with
 | non=>
  cases ry
  cases x with
  | non=>cases rx;exact SeqAt.EqAt.same _
  | bl b=>cases rx;exact SeqAt.EqAt.none_bool b
  | int b=>obtain⟨t,rfl⟩:=rx;exact SeqAt.EqAt.none_int b t
  | str b=>obtain⟨t,rfl⟩:=rx;exact SeqAt.EqAt.none_str b t
  | _=>exact absurd (show false=true from fx) Bool.false_ne_true
 | bl a=>
  cases ry
  cases x with
  | non=>cases rx;exact SeqAt.EqAt.bool_none a
  | bl b=>cases rx;exact SeqAt.EqAt.bool_bool a b
  | int b=>obtain⟨t,rfl⟩:=rx;exact SeqAt.EqAt.bool_int a b t
  | str b=>obtain⟨t,rfl⟩:=rx;exact SeqAt.EqAt.bool_str a b t
  | _=>exact absurd (show false=true from fx) Bool.false_ne_true
 | int a=>
  obtain⟨t',rfl⟩:=ry
  cases x with
  | non=>cases rx;exact SeqAt.EqAt.int_none a t'
  | bl b=>cases rx;exact SeqAt.EqAt.int_bool a t' b
  | int b=>obtain⟨t,rfl⟩:=rx;exact SeqAt.EqAt.int_int a t' b t
  | str b=>obtain⟨t,rfl⟩:=rx;exact SeqAt.EqAt.int_str a t' b t
  | _=>exact absurd (show false=true from fx) Bool.false_ne_true
 | str a=>
  obtain⟨t',rfl⟩:=ry
  cases x with
  | non=>cases rx;exact SeqAt.EqAt.str_none a t'
  | bl b=>cases rx;exact SeqAt.EqAt.str_bool a t' b
  | int b=>obtain⟨t,rfl⟩:=rx;exact SeqAt.EqAt.str_int a t' b t
  | str b=>obtain⟨t,rfl⟩:=rx;exact SeqAt.EqAt.str_str a t' b t
  | _=>exact absurd (show false=true from fx) Bool.false_ne_true
 | _=>exact absurd (show false=true from fy) Bool.false_ne_true
def eqU(x:V)(u:Value):Bool:=match u with
 | .none=>eqV .non x
 | .bool b=>eqV (.bl b) x
 | .int i _=>eqV (.int i) x
 | .str z _=>eqV (.str z) x
 | _=>false
theorem eqU_of{x y:V}{u:Value}(r:RelV y u)(f:flatV y=true):eqU x u=eqV y x:=by
 cases y with
 | non=>cases r;rfl
 | bl b=>cases r;rfl
 | int i=>obtain⟨t,rfl⟩:=r;rfl
 | str z=>obtain⟨t,rfl⟩:=r;rfl
 | _=>exact absurd (show false=true from f) Bool.false_ne_true
theorem any_eqU{x:V}:∀{xs:List V} {us:List Value},Vals xs us->xs.all flatV=true->us.any (eqU x)=xs.any λy=>eqV y x
 | _,_,.nil,_=>rfl
 | y::xs,u::us,.cons r t,f=>by
  rw [List.all_cons,Bool.and_eq_true] at f
  rw [List.any_cons,List.any_cons,eqU_of r f.1,any_eqU t f.2]
theorem mem_eqAt{A:Around}{s:Shared}{x:V}{v:Value}(rx:RelV x v)(fx:flatV x=true):∀{xs:List V} {us:List Value},Vals xs us->xs.all flatV=true->∀u∈us,SeqAt.EqAt A s u v (eqU x u)
 | _,_,.nil,_=>λu hu=>by cases hu
 | y::xs,u::us,.cons r t,f=>λu' hu=>by
  rw [List.all_cons,Bool.and_eq_true] at f
  rcases List.mem_cons.mp hu with rfl | hu
  ·rw [eqU_of r f.1];exact eqAt_V r rx f.1 fx
  ·exact mem_eqAt rx fx t f.2 u' hu
def inV(x:V)(xs:List V):Bool:=xs.any λy=>eqV y x
def rIn(K:PySem.W.Frag)(neg:Bool):R2:=λx y H Q=>∃p xs,y= .ref p/\(SqL K H p xs\/SqT K H p xs)/\flatV x=true/\xs.all flatV=true/\Q (.bl (if neg then !inV x xs else inV x xs)) H
theorem op_in_seq:OpR X (compareOp .In) (rIn X.K false):=by
 intro pins s σ H x y v u Q I rx ry h
 obtain⟨p,xs,rfl,hq,fx,fs,q⟩:=h
 cases ry
 rcases hq with hq | hq
 ·obtain⟨its,r,pl,hz⟩:=I.list hq
  refine SeqAt.in_listAt (eqU x) pl.isList (λw hw=>mem_eqAt rx fx r fs w (by simpa using hw)) ⟨.bl _,H,I,rfl,?_⟩
  rw [show its.toArray.any (eqU x)=its.any (eqU x) by simp,any_eqU r fs]
  exact q
 ·obtain⟨its,r,pl,hz⟩:=I.tuple hq
  refine SeqAt.in_tupleAt (eqU x) pl (λw hw=>mem_eqAt rx fx r fs w (by simpa using hw)) ⟨.bl _,H,I,rfl,?_⟩
  rw [show its.toArray.any (eqU x)=its.any (eqU x) by simp,any_eqU r fs]
  exact q
theorem call_len_seq:CallR X (.builtin "len") (λxs H Q=>∃p ys,xs= [.ref p]/\(SqL X.K H p ys\/SqT X.K H p ys)/\Q (.int ys.length) H):=by
 intro pins s σ H xs us Q I r h
 obtain⟨p,ys,rfl,hq,q⟩:=h
 obtain⟨u,rfl,rx⟩:=vals1 r
 cases rx
 have hn:=line63
 rcases hq with hq | hq
 ·obtain⟨its,r',pl,hz⟩:=I.list hq
  have hlen:=r'.length
  exact Calls.call_len_list pl.isList (by simp only [List.size_toArray]<;>omega) ⟨.int ys.length,H,I.tok _,⟨s.toks+1,by rw [List.size_toArray,hlen]⟩,q⟩
 ·obtain⟨its,r',pl,hz⟩:=I.tuple hq
  have hlen:=r'.length
  exact len_tuple pl (by simp only [List.size_toArray]<;>omega) ⟨.int ys.length,H,I.tok _,⟨s.toks+1,by rw [List.size_toArray,hlen]⟩,q⟩
theorem call_list_of:CallR X (.type "list") (λxs H Q=>∃p ys,xs= [.ref p]/\(SqL X.K H p ys\/SqT X.K H p ys)/\∀l,H l=none->Q (.ref l) (upd H l (.lst ys))):=by
 intro pins s σ H xs us Q I r h
 obtain⟨p,ys,rfl,hq,q⟩:=h
 obtain⟨u,rfl,rx⟩:=vals1 r
 cases rx
 have fin:∀(its:List Value),Vals ys its->ys.length<=sizeLine->∀(h':Heap) (c':Nat),(∀b o',s.heap.get? b=some o'->h'.get? b=some o')->
  h'.get? s.heap.objs.size=some {cls:=.type "list",dict:=none,data:=.seq its.toArray c',slots:= #[]}->EP X pins σ Q (.ref s.heap.objs.size) {s with heap:=h'}:=λits r' hz h' c' kp e=>
  ⟨.ref s.heap.objs.size,_,I.laid (t':=s.toks) kp (Nat.le_refl _) (show ObjOk X.prog X.w _ h' _ (.lst ys) from ⟨hz,its,c',r',e⟩),rfl,q _ (I.hok.fresh (Nat.le_refl _))⟩
 rcases hq with hq | hq
 ·obtain⟨its,r',pl,hz⟩:=I.list hq
  have hlen:=r'.length
  obtain⟨o,ho,hc,n,hd⟩:=pl.isList
  exact call_list_seq p (.inl rfl) ho hc hd (λh' c' kp e=>fin its r' hz h' c' kp e) (by simp only [List.size_toArray]<;>omega)
 ·obtain⟨its,r',pl,hz⟩:=I.tuple hq
  have hlen:=r'.length
  obtain⟨o,ho,hc,n,hd⟩:=pl
  exact call_list_seq p (.inr rfl) ho hc hd (λh' c' kp e=>fin its r' hz h' c' kp e) (by simp only [List.size_toArray]<;>omega)
def tyV (K : PySem.W.Frag) (T : String) (x : V) (H : Hp) : Prop := match x with
  | .str _ => T = "str"
  | .int _ => T = "int"
  | .ref p => (T = "list" ∧ ∃ xs, SqL K H p xs) ∨ (T = "tuple" ∧ ∃ o, K.lookup p = some o ∧ o.cls = .type "tuple" ∧ o.dict = none) ∨
      (T = "dict" ∧ ((∃ kvs, H p = some (.dK kvs)) ∨ ∃ kvs, H p = some (.dT kvs))) ∨ (T = "set" ∧ ∃ S n, H p = some (.set S n))
  | _ => False
theorem tyV_is{pins:List (Addr×Obj)}{σ:St}{H:Hp}{s:Shared}{T:String}{x:V}{v:Value}(I:Inv X pins σ H s)(r:RelV x v)(ty:tyV X.K T x H):
 s.TypeIs v T/\∀a,v= .ref a->∃ob,s.heap.get? a=some ob/\ob.dict=none:=by
 cases x with
 | str z=>
  obtain⟨t,rfl⟩:=r
  cases (show T= "str" from ty)
  exact⟨typeIs_str s z t,λ_ e=>nomatch e⟩
 | int i=>
  obtain⟨t,rfl⟩:=r
  cases (show T= "int" from ty)
  exact⟨typeIs_int s i t,λ_ e=>nomatch e⟩
 | ref p=>
  cases r
  rcases ty with ⟨rfl,xs,hq⟩ | ⟨rfl,o,hk,hc,hd⟩ | ⟨rfl,hk⟩ | ⟨rfl,S,n,hk⟩
  ·obtain⟨its,_,pl,_⟩:=I.list hq
   refine⟨pl.isList.typeIs,λa e=>?_⟩
   cases e
   obtain⟨o,n,e,c,hd,_⟩:=pl
   exact⟨o,e,hd⟩
  ·refine⟨⟨o,I.kIn p o hk,hc⟩,λa e=>?_⟩
   cases e
   exact⟨o,I.kIn _ o hk,hd⟩
  ·have z:∃o,s.heap.get? p=some o/\o.ExactDict:=by
    rcases hk with ⟨kvs,hk⟩ | ⟨kvs,hk⟩
    ·obtain⟨_,_,_,_,o,_,_,e,ex,_⟩:=I.hok p _ hk
     exact⟨o,e,ex⟩
    ·obtain⟨_,_,_,_,o,_,_,e,ex,_⟩:=I.hok p _ hk
     exact⟨o,e,ex⟩
   obtain⟨o,e,ex⟩:=z
   refine⟨⟨o,e,ex.1⟩,λa e2=>?_⟩
   cases e2
   exact⟨o,e,ex.2.1⟩
  ·obtain⟨o,_,_,_,e,ex,_⟩:=I.hok p _ hk
   refine⟨⟨o,e,ex.1⟩,λa e2=>?_⟩
   cases e2
   exact⟨o,e,ex.2.1⟩
 | _=>exact False.elim ty
def tBM0 (K : PySem.W.Frag) (T : String) (r : V → List V → Hp → VK → Prop) (to : TE) : TE := fun σ H Q => to σ H fun x H1 => tyV K T x H1 ∧ r x [] H1 Q
def tBM (K : PySem.W.Frag) (T : String) (r : V → List V → Hp → VK → Prop) (to : TE) (t : TA) : TE := fun σ H Q => to σ H fun x H1 => tyV K T x H1 ∧ t σ H1 fun xs H2 => r x xs H2 Q
variable{o e:Expr}{es:List Expr}{to:TE}{t:TA}{name:Str}{apos cpos:Pos}{T id:String}{r:V->List V->Hp->VK->Prop}
theorem pe_bm0(pa:PlainAttrs T)(slot:Slot T name id)(hty:typeOf (.builtin id)=pure (.type "method_descriptor"))(hm:MtR X id r)(ho:PE X o to)
 (hbase:attributeBase o name X.env (eval o X.env)=eval o X.env:=by rfl) (hline:(apos.endLine==cpos.line)=true:=by rfl):PE X (.Call (.Attribute o name apos) [] [] cpos) (tBM0 X.K T r to):=by
 intro pins s σ H Q I h
 refine wpAny_Call_method0_late hbase hline (thn (ho pins s σ H _ I h) λv s1 ⟨x,H1,I1,r1,ty,q1⟩=>?_)
 obtain⟨h1,h2⟩:=tyV_is I1 r1 ty
 exact⟨T,id,pa,slot,hty,h1,h2,Calls.callWith_builtin rfl (PySem.evalArgs_none (hm pins s1 σ H1 x [] v [] Q I1 r1 .nil q1))⟩
theorem pe_bm(pa:PlainAttrs T)(slot:Slot T name id)(hty:typeOf (.builtin id)=pure (.type "method_descriptor"))(hm:MtR X id r)(ho:PE X o to)(ha:PA X (e::es) t)
 (hbase:attributeBase o name X.env (eval o X.env)=eval o X.env:=by rfl)
 (hfew:((backTo cpos (starEach (e::es) X.env)).all (λx=>!x.1)&&(backToKw cpos (keywordEach [] X.env)).all (λx=>x.1.isSome)
  && decide ((e::es).length+([]:List Keyword).length+(if ([]:List Keyword).isEmpty then 0 else 1)<30))=true:=by rfl)
 (hline:(apos.endLine==cpos.line)=true:=by rfl) (hs:starEach (e::es) X.env=(false,eval e X.env)::starEach es X.env:=by rfl) (hplain:(backTo cpos (starEach es X.env)).any (·.1)=false:=by rfl):
 PE X (.Call (.Attribute o name apos) (e::es) [] cpos) (tBM X.K T r to t):=by
 intro pins s σ H Q I h
 refine wpAny_Call_method_late hbase hfew hline rfl (thn (ho pins s σ H _ I h) λv s1 ⟨x,H1,I1,r1,ty,q1⟩=>?_)
 obtain⟨h1,h2⟩:=tyV_is I1 r1 ty
 refine⟨T,id,pa,slot,hty,h1,h2,?_⟩
 have hA:=ha cpos pins s1 σ H1 _ I1 q1
 rw [hs] at hA⊢
 refine Calls.callWith_builtin (by show(false || (backTo cpos (starEach es X.env)).any (·.1))=false;rw [hplain]<;>rfl) (Calls.evalArgs_plain ?_)
 exact thn hA λus s2 ⟨vs,H2,I2,r2,q2⟩=>hm pins s2 σ H2 x vs v us Q I2 r1 r2 q2
/- xs.append(e),list.index on a module's tuple .. are MtR facts of 06m -/
end
end L2
namespace L2
open PySem PySem.Spec PyProof.Rows
def MtM (X : Cx) (id : String) (r : V → List V → Hp → VK → Prop) : Prop :=
  ∀ (pins : List (Addr × Obj)) (s : Shared) (σ : St) (H : Hp) (x : V) (xs : List V) (v : Value) (us : List Value) (Q : VK), Inv X pins σ H s → RelV x v → Vals xs us → r x xs H Q →
    wpAny (model X.prog X.w) X.A (call (.builtin id) (v :: us)) (EP X pins σ Q) X.xe s
theorem Vals.one:∀{x:V} {us:List Value},Vals [x] us->∃u,us= [u]/\RelV x u
 | _,_,.cons r .nil=>⟨_,rfl,r⟩
theorem Vals.two:∀{x y:V} {us:List Value},Vals [x,y] us->∃u v,us= [u,v]/\RelV x u/\RelV y v
 | _,_,_,.cons r (.cons q .nil)=>⟨_,_,rfl,r,q⟩
theorem Vals.zero:∀{us:List Value},Vals [] us->us= []
 | _,.nil=>rfl
theorem Vals.eraseIdx:∀{xs:List V} {us:List Value} (i:Nat),Vals xs us->Vals (xs.eraseIdx i) (us.eraseIdx i)
 | _,_,_,.nil=>.nil
 | _,_,0,.cons _ t=>t
 | _,_,i+1,.cons r t=>.cons r (Vals.eraseIdx i t)
theorem Vals.rep{xs:List V}{us:List Value}(h:Vals xs us):∀k:Nat,Vals (List.replicate k xs).flatten (List.replicate k us).flatten
 | 0=>.nil
 | k+1=>by
  rw [List.replicate_succ,List.replicate_succ,List.flatten_cons,List.flatten_cons]
  exact Vals.append h (Vals.rep h k)
theorem len_erase{α:Type}:∀(l:List α) (i:Nat),(l.eraseIdx i).length<=l.length
 | [],_=>Nat.le_refl _
 | _::_,0=>Nat.le_succ _
 | _::r,i+1=>Nat.succ_le_succ (len_erase r i)
theorem foldl_rep(its:List Value):∀(k:Nat) (acc:List Value),
 List.foldl (λx1 x2=>x1++x2) acc.toArray (List.replicate k its.toArray)=(acc++(List.replicate k its).flatten).toArray
 | 0,acc=>by simp
 | k+1,acc=>by
  have e:acc.toArray++its.toArray=(acc++its).toArray:=by simp
  have e2:(acc++its)++(List.replicate k its).flatten=acc++(List.replicate (k+1) its).flatten:=by
   rw [List.replicate_succ,List.flatten_cons,List.append_assoc]
  rw [<-e2,<-foldl_rep its k (acc++its),<-e,List.replicate_succ,List.foldl_cons]
section
variable{X:Cx}{pins:List (Addr×Obj)}{σ:St}{H:Hp}{s:Shared}{l b:Addr}{xs ys zs:List V}
theorem Inv.lset{its its':List Value}{n:Nat}{f:Array Value->Array Value}{t':Nat}(I:Inv X pins σ H s)(hH:H l=some (.lst xs))
 (e:s.heap.get? l=some {cls:=.type "list",data:=.seq its.toArray n}) (hf:f its.toArray=its'.toArray) (hv:Vals ys its') (hz:ys.length<=sizeLine):
 Inv X pins σ (upd H l (.lst ys)) {s with heap:=s.heap.update l (Obj.mapSeq f),toks:=t'}:=by
 have q:=PySem.IsL.update e f
 rw [hf] at q
 refine I.write (x:=l) (e:=l) (by rw [hH];exact trivial) (.inl rfl) (λb' u hb hu=>(Heap.get?_update_other s.heap (Obj.mapSeq f) (Ne.symm hb)).trans hu) ⟨_,q⟩ ?_
 exact⟨hz,its',_,hv,q⟩
theorem Inv.lnew{its:List Value}{t':Nat}(I:Inv X pins σ H s)(hv:Vals ys its)(hz:ys.length<=sizeLine):
 Inv X pins σ (upd H s.heap.objs.size (.lst ys)) {s with heap:=s.heap.push {cls:=.type "list",data:=.seq its.toArray},toks:=t'}:=
 I.laid (λ_ _ q=>Heap.get?_push_of_some _ q) (Nat.le_refl _) ⟨hz,its,0,hv,Heap.get?_push_size _ rfl⟩
theorem Inv.fresh(I:Inv X pins σ H s):H s.heap.objs.size=none:=I.hok.fresh (Nat.le_refl _)
theorem Inv.lstM(I:Inv X pins σ H s)(hH:H l=some (.lst xs)):xs.length<=sizeLine/\∃(its:List Value) (n:Nat),Vals xs its/\xs.length=its.length/\s.heap.get? l=some {cls:=.type "list",data:=.seq its.toArray n}:=by
 obtain⟨z,its,n,r,e⟩:=I.hok l _ hH
 exact⟨z,its,n,r,r.length,e⟩
theorem notLongL{n:Nat}(h:n<=sizeLine):Builtin.List.listTooLong n=false:=by
 unfold Builtin.List.listTooLong
 exact decide_eq_false (by omega)
end
section
variable{X:Cx}
def rAppend:V->List V->Hp->VK->Prop:=λx vs H Q=>∃l xs y,x= .ref l/\vs= [y]/\H l=some (.lst xs)/\xs.length<sizeLine/\Q .non (upd H l (.lst (xs++[y])))
theorem mt_append:MtM X "list.append" rAppend:=by
 intro pins s σ H x vs v us Q I rx rv h
 obtain⟨l,xs,y,rfl,rfl,hH,hz,q⟩:=h
 cases rx
 obtain⟨u,rfl,ru⟩:=rv.one
 obtain⟨z,its,n,r,hl,e⟩:=I.lstM hH
 refine call_meets F.slot_list_append ⟨_,e,rfl⟩ F.entry_list_append (F.args_list_append_2 _ _) (PySem.list_append l its.toArray n u (by rw [List.size_toArray];omega)) ⟨e,?_⟩
 refine⟨.non,_,I.lset (its':=its++[u]) hH e (by simp) (r.append (.cons ru .nil)) ?_,rfl,q⟩
 rw [List.length_append,List.length_singleton]
 omega
def rPopAt:V->List V->Hp->VK->Prop:=λx vs H Q=>∃l xs i k y,x= .ref l/\vs= [.int i]/\H l=some (.lst xs)/\ -(2^63)<=i/\i<2^63/\seqIndex? i xs.length=some k/\xs[k]? =some y/\Q y (upd H l (.lst (xs.eraseIdx k)))
theorem mt_popAt:MtM X "list.pop" rPopAt:=by
 intro pins s σ H x vs v us Q I rx rv h
 obtain⟨l,xs,i,k,y,rfl,rfl,hH,h1,h2,hk,hy,q⟩:=h
 cases rx
 obtain⟨u,rfl,ru⟩:=rv.one
 obtain⟨t,rfl⟩:=ru
 obtain⟨z,its,n,r,hl,e⟩:=I.lstM hH
 obtain⟨w,hw,rw'⟩:=r.get hy
 refine call_meets F.slot_list_pop ⟨_,e,rfl⟩ F.entry_list_pop (F.args_list_pop_2 _ _)
  (MeetsSeq.list_pop_at l its.toArray n i t k w (fitsIndex_both h1 h2) (by rw [List.size_toArray,<-hl];exact hk) (by rw [<-Array.getElem?_toList];exact hw) (by rw [List.size_toArray];omega)) ⟨e,?_⟩
 refine⟨y,_,I.lset (its':=its.eraseIdx k) hH e ?_ (r.eraseIdx k) ?_,rw',q⟩
 ·show its.toArray.eraseIdxIfInBounds k=(its.eraseIdx k).toArray
  rw [List.eraseIdxIfInBounds_toArray]
 ·have:=len_erase xs k
  omega
def rCat:R2:=λx y H Q=>∃l b xs zs,x= .ref l/\y= .ref b/\H l=some (.lst xs)/\H b=some (.lst zs)/\xs.length+zs.length<=sizeLine/\∀p,H p=none->Q (.ref p) (upd H p (.lst (xs++zs)))
theorem op_cat:OpR X (binaryOp .Add) rCat:=by
 intro pins s σ H x y v u Q I rx ry h
 obtain⟨l,b,xs,zs,rfl,rfl,hH,hB,hz,q⟩:=h
 cases rx
 cases ry
 obtain⟨z,its,n,r,hl,e⟩:=I.lstM hH
 obtain⟨z2,its2,n2,r2,hl2,e2⟩:=I.lstM hB
 refine PySem.P.add_list e e2 ?_ (by rw [List.size_toArray,List.size_toArray];omega)
 have ea:its.toArray++its2.toArray=(its++its2).toArray:=by simp
 rw [ea]
 exact⟨.ref _,_,I.lnew (t':=s.toks) (r.append r2) (by rw [List.length_append];omega),rfl,q _ I.fresh⟩
def rRep:R2:=λx y H Q=>∃l k xs,x= .ref l/\y= .int k/\H l=some (.lst xs)/\ -(2^63)<=k/\k<2^63/\xs.length*k.toNat<=sizeLine/\
 ∀p,H p=none->Q (.ref p) (upd H p (.lst (List.replicate k.toNat xs).flatten))
theorem len_rep{α:Type}(xs:List α)(k:Nat):(List.replicate k xs).flatten.length=k*xs.length:=by
 induction k with
 | zero=>simp
 | succ k ih=>rw [List.replicate_succ,List.flatten_cons,List.length_append,ih,Nat.succ_mul,Nat.add_comm]
theorem op_rep:OpR X (binaryOp .Mult) rRep:=by
 intro pins s σ H x y v u Q I rx ry h
 obtain⟨l,k,xs,rfl,rfl,hH,h1,h2,hz,q⟩:=h
 cases rx
 obtain⟨t,rfl⟩:=ry
 obtain⟨z,its,n,r,hl,e⟩:=I.lstM hH
 have hlen:its.toArray.size*k.toNat<=sizeLine:=by rw [List.size_toArray,<-hl];exact hz
 have hcap:¬its.toArray.size*k.toNat>(2^63-1)/8:=by
  have:(sizeLine:Nat)<=(2^63-1)/8:=by decide
  omega
 have hfit:¬(!Builtin.List.listFitsIndex k)=true:=by
  rw [fitsIndex_both h1 h2]
  exact Bool.false_ne_true
 have hlong:¬Builtin.List.listTooLong (its.toArray.size*k.toNat)=true:=by
  rw [notLongL hlen]
  exact Bool.false_ne_true
 have hnew:List.foldl (λx1 x2=>x1++x2) #[] (List.replicate (if its.toArray.isEmpty=true then 0 else k.toNat) its.toArray)=(List.replicate k.toNat its).flatten.toArray:=by
  have f0:∀m:Nat,List.foldl (λx1 x2=>x1++x2) #[] (List.replicate m its.toArray)=(List.replicate m its).flatten.toArray:=λm=>by
   have:=foldl_rep its m []
   rw [List.nil_append] at this
   exact this
  rw [f0]
  cases its with
  | nil=>simp
  | cons a r'=>rw [if_neg (by simp)]
 refine wpAny_binaryOp_repeat_ref (T:="list") (U:="int") (by decide) ⟨_,e,rfl⟩ (λs'=>typeIs_int s' k t) noFill_list_mul F.fills_int_mul F.slot_int_rmul repeat_list F.slot_int_index.lookup
  (call_meets F.slot_int_rmul (typeIs_int s k t) F.entry_int_rmul (F.args_int_rmul_2 _ _) (int___rmul___int_list k t l its.toArray n)
   ⟨e,rfl,⟨_,e,rfl⟩,call_meets F.slot_list_mul ⟨_,e,rfl⟩ F.entry_list_mul (F.args_list_mul_2 _ _) (AutoListH.list___mul___list_int_3 l its.toArray n k t hfit hcap hlong) ⟨e,?_⟩⟩)
 rw [hnew]
 exact⟨.ref _,_,I.lnew (t':=s.toks) (r.rep k.toNat) (by rw [len_rep,Nat.mul_comm];exact hz),rfl,q _ I.fresh⟩
end
section
variable{prog:Program}{w:World}{A:Around}{E:Value->Shared->Prop}{s:Shared}
end
section
variable{X:Cx}
end
end L2
namespace L2
open PySem PySem.Spec PyProof.Rows
section
variable{κ:Type}[DecidableEq κ]
def valV(kvs:List (κ×V))(k:κ):Option V:=(kvs.find? λkv=>decide (kv.1=k)).map (·.2)
def putK(kvs:List (κ×V))(k:κ)(v:V):List (κ×V):=
 if (kvs.any λkv=>decide (kv.1=k))=true then kvs.map (λkv=>if kv.1=k then (kv.1,v) else kv) else kvs++[(k,v)]
def dropK(kvs:List (κ×V))(k:κ):List (κ×V):=kvs.filter λkv=>decide (kv.1≠k)
theorem valV_pos{p:κ×V}{r:List (κ×V)}{k:κ}(e:p.1=k):valV (p::r) k=some p.2:=by simp [valV,List.find?_cons,e]
theorem valV_neg{p:κ×V}{r:List (κ×V)}{k:κ}(e:¬p.1=k):valV (p::r) k=valV r k:=by simp [valV,List.find?_cons,e]
theorem valV_any(k:κ):∀kvs:List (κ×V),(kvs.any λkv=>decide (kv.1=k))=(valV kvs k).isSome
 | []=>rfl
 | p::r=>by
  rw [List.any_cons]
  by_cases e:p.1=k
  ·simp only [valV_pos e,decide_eq_true e,Bool.true_or,Option.isSome_some]
  ·rw [valV_neg e,decide_eq_false e,Bool.false_or];exact valV_any k r
theorem length_putK(kvs:List (κ×V))(k:κ)(v:V):(putK kvs k v).length<=kvs.length+1:=by
 unfold putK
 split
 ·rw [List.length_map];omega
 ·rw [List.length_append,List.length_cons,List.length_nil];omega
theorem putK_new{kvs:List (κ×V)}{k:κ}(v:V)(h:valV kvs k=none):putK kvs k v=kvs++[(k,v)]:=by
 unfold putK
 rw [valV_any,h]
 exact if_neg (by decide)
theorem RelO.isSome_eq{o:Option V}{u:Option Value}(r:RelO o u):o.isSome=u.isSome:=by
 cases o with
 | none=>cases u with
  | none=>rfl
  | some _=>exact(show False from r).elim
 | some _=>cases u with
  | none=>exact(show False from r).elim
  | some _=>rfl
theorem RelO.getD{o:Option V}{u:Option Value}{d:V}{d':Value}(r:RelO o u)(rd:RelV d d'):RelV (o.getD d) (u.getD d'):=by
 cases o with
 | none=>cases u with
  | none=>exact rd
  | some _=>exact(show False from r).elim
 | some _=>cases u with
  | none=>exact(show False from r).elim
  | some _=>exact r
theorem KV.val{kvs:List (κ×V)}{vs:List (κ×Value)}(r:KV kvs vs)(k:κ):RelO (valV kvs k) (valueAt vs k):=by
 unfold KV at r
 induction r with
 | nil=>exact True.intro
 | @cons p q ps qs h t ih=>
  obtain⟨h1,h2⟩:=h
  by_cases e:p.1=k
  ·have e':q.1=k:=h1.symm.trans e
   have b:valueAt (q::qs) k=some q.2:=by simp [valueAt,List.find?_cons,e']
   rw [valV_pos e,b];exact h2
  ·have e':¬q.1=k:=λz=>e (h1.trans z)
   have b:valueAt (q::qs) k=valueAt qs k:=by simp [valueAt,List.find?_cons,e']
   rw [valV_neg e,b];exact ih
theorem KV.any{kvs:List (κ×V)}{vs:List (κ×Value)}(r:KV kvs vs)(k:κ):(kvs.any λkv=>decide (kv.1=k))=vs.any λkv=>decide (kv.1=k):=by
 unfold KV at r
 induction r with
 | nil=>rfl
 | cons h t ih=>rw [List.any_cons,List.any_cons,ih,h.1]
theorem KV.repl{kvs:List (κ×V)}{vs:List (κ×Value)}(r:KV kvs vs)(k:κ){y:V}{u:Value}(ry:RelV y u):
 KV (kvs.map λkv=>if kv.1=k then (kv.1,y) else kv) (vs.map λkv=>if kv.1=k then (kv.1,u) else kv):=by
 unfold KV at r⊢
 induction r with
 | nil=>exact .nil
 | @cons p q ps qs h t ih=>
  rw [List.map_cons,List.map_cons]
  refine .cons ?_ ih
  obtain⟨h1,h2⟩:=h
  by_cases e:p.1=k
  ·rw [if_pos e,if_pos (h1.symm.trans e)];exact⟨h1,ry⟩
  ·rw [if_neg e,if_neg (λz=>e (h1.trans z))];exact⟨h1,h2⟩
theorem KV.put{kvs:List (κ×V)}{vs:List (κ×Value)}(r:KV kvs vs)(k:κ){y:V}{u:Value}(ry:RelV y u):KV (putK kvs k y) (stored vs k u):=by
 unfold putK stored
 rw [r.any k]
 by_cases e:(vs.any λkv=>decide (kv.1=k))=true
 ·rw [if_pos e,if_pos e];exact r.repl k ry
 ·rw [if_neg e,if_neg e];exact Paired.snoc r ⟨rfl,ry⟩
theorem KV.keys{kvs:List (κ×V)}{vs:List (κ×Value)}(r:KV kvs vs):kvs.map (·.1)=vs.map (·.1):=by
 unfold KV at r
 induction r with
 | nil=>rfl
 | cons h t ih=>rw [List.map_cons,List.map_cons,ih,h.1]
theorem KV.length{kvs:List (κ×V)}{vs:List (κ×Value)}(r:KV kvs vs):kvs.length=vs.length:=Paired.length r
end
theorem kV_is{P:Program}{w:World}{k:Key}{u:Value}(r:RelV (kV k) u):(mixKind P w).is k u=true:=by
 cases k with
 | inl i=>obtain⟨t,e⟩:=(show ∃t,u=Value.int i t from r);subst e;exact mixKind_int P w i t
 | inr x=>obtain⟨t,e⟩:=(show ∃t,u=Value.str x t from r);subst e;exact mixKind_str P w x t
theorem items_are{P:Program}{w:World}:∀{ks:List Key} {us:List Value},Vals (ks.map kV) us->ItemsAre (mixKind P w) ks us
 | [],_,r=>by rw [List.map_nil] at r;cases r;exact .nil
 | k::ks,_,r=>by
  rw [List.map_cons] at r
  cases r with
  | cons h t=>exact .cons (kV_is h) (items_are t)
abbrev KT(H:Hp):List (List Key×V)->List (List Key×Addr×Value)->Prop:=Paired λp q=>p.1=q.1/\H q.2.1=some (.tup (p.1.map kV))/\RelV p.2 q.2.2
theorem KT.val{H:Hp}{kvs:List (List Key×V)}{xs:List (List Key×Addr×Value)}(r:KT H kvs xs)(k:List Key):RelO (valV kvs k) ((atKey xs k).map (·.2)):=by
 induction r with
 | nil=>exact True.intro
 | @cons p q ps qs h t ih=>
  obtain⟨h1,_,h2⟩:=h
  by_cases e:p.1=k
  ·have e':q.1=k:=h1.symm.trans e
   have b:atKey (q::qs) k=some q.2:=by simp [atKey,List.find?_cons,e']
   rw [valV_pos e,b];exact h2
  ·have e':¬q.1=k:=λz=>e (h1.trans z)
   have b:atKey (q::qs) k=atKey qs k:=by simp [atKey,List.find?_cons,e']
   rw [valV_neg e,b];exact ih
theorem KT.repl{H:Hp}{kvs:List (List Key×V)}{xs:List (List Key×Addr×Value)}(r:KT H kvs xs)(k:List Key){y:V}{u:Value}(ry:RelV y u):
 KT H (kvs.map λkv=>if kv.1=k then (kv.1,y) else kv) (xs.map (putAt k u)):=by
 induction r with
 | nil=>exact .nil
 | @cons p q ps qs h t ih=>
  rw [List.map_cons,List.map_cons]
  refine .cons ?_ ih
  obtain⟨h1,h2,h3⟩:=h
  unfold putAt
  by_cases e:p.1=k
  ·rw [if_pos e,if_pos (h1.symm.trans e)];exact⟨h1,h2,ry⟩
  ·rw [if_neg e,if_neg (λz=>e (h1.trans z))];exact⟨h1,h2,h3⟩
theorem KT.put{H:Hp}{kvs:List (List Key×V)}{xs:List (List Key×Addr×Value)}(r:KT H kvs xs)(k:List Key){b:Addr}{y:V}{u:Value}(hb:H b=some (.tup (k.map kV)))(ry:RelV y u):
 KT H (putK kvs k y) (storedH xs k b u):=by
 have e:(kvs.any λkv=>decide (kv.1=k))=(atKey xs k).isSome:=by
  rw [valV_any,(r.val k).isSome_eq,Option.isSome_map]
 unfold putK storedH
 rw [e]
 by_cases q:(atKey xs k).isSome=true
 ·rw [if_pos q,if_pos q];exact r.repl k ry
 ·rw [if_neg q,if_neg q];exact Paired.snoc r ⟨rfl,hb,ry⟩
theorem KT.keeps{H H':Hp}{kvs:List (List Key×V)}{xs:List (List Key×Addr×Value)}(r:KT H kvs xs)(ht:∀b ys,H b=some (.tup ys)->H' b=some (.tup ys)):KT H' kvs xs:=
 Paired.mapP r λ_ _ z=>⟨z.1,ht _ _ z.2.1,z.2.2⟩
section
variable{P:Program}{w:World}{H:Hp}{h:Heap}{a:Addr}
theorem rd_of{u:HO}(ok:HOk P w H h)(e:Rd H a u):ObjOk P w H h a u:=e.ok ok
theorem dk_rd{kvs:List (Key×V)}(ok:HOk P w H h)(e:Rd H a (.dK kvs)):kvs.length<=sizeLine/\(a==sysModules)=false/\∃vs,KV kvs vs/\h.DictOf (mixKind P w) a vs:=
 show ObjOk P w H h a (.dK kvs) from rd_of ok e
theorem dk_of{kvs:List (Key×V)}(ok:HOk P w H h)(e:H a=some (.dK kvs)):kvs.length<=sizeLine/\(a==sysModules)=false/\∃vs,KV kvs vs/\h.DictOf (mixKind P w) a vs:=dk_rd ok (.inl e)
theorem key_of{ks:List Key}(ok:HOk P w H h)(e:H a=some (.tup (ks.map kV))):(tupleKind (mixKind P w)).is h ks a:=by
 obtain⟨_,its,r,o,h1,h2,n,h3⟩:=(show ObjOk P w H h a (.tup (ks.map kV)) from ok a _ e)
 exact⟨o,its.toArray,n,h1,h2,h3,by simpa using items_are r⟩
theorem dt_rd{kvs:List (List Key×V)}(ok:HOk P w H h)(e:Rd H a (.dT kvs)):kvs.length<=sizeLine/\(a==sysModules)=false/\
 ∃xs,KT H kvs xs/\h.DictOfH (tupleKind (mixKind P w)) a xs:=by
 obtain⟨z,y,xs,r,o,es,ep,h1,h2,h3,h4,h5⟩:=(show ObjOk P w H h a (.dT kvs) from rd_of ok e)
 refine⟨z,y,xs,r,o,es,ep,h1,h2,h3,h4,λx hx=>?_,h5⟩
 have all:∀{l:List (List Key×V)} {m:List (List Key×Addr×Value)},KT H l m->∀x∈m,(tupleKind (mixKind P w)).is h x.1 x.2.1:=by
  intro l m q
  induction q with
  | nil=>intro x hx;exact nomatch hx
  | @cons p q ps qs hq t ih=>
   intro x hx
   rcases List.mem_cons.mp hx with e | hx
   ·subst e
    exact key_of ok (by rw [<-hq.1];exact hq.2.1)
   ·exact ih x hx
 exact all r x hx
theorem dt_of{kvs:List (List Key×V)}(ok:HOk P w H h)(e:H a=some (.dT kvs)):kvs.length<=sizeLine/\(a==sysModules)=false/\
 ∃xs,KT H kvs xs/\h.DictOfH (tupleKind (mixKind P w)) a xs:=dt_rd ok (.inl e)
end
def DGet(H:Hp)(a:Addr)(y:V)(r:Option V):Prop:=
 (∃kvs k,Rd H a (.dK kvs)/\y=kV k/\r=valV kvs k)\/∃kvs k b,Rd H a (.dT kvs)/\y= .ref b/\H b=some (.tup (k.map kV))/\r=valV kvs k
def DPut(H:Hp)(a:Addr)(y v:V)(H':Hp):Prop:=
 (∃kvs k,H a=some (.dK kvs)/\y=kV k/\kvs.length<sizeLine/\H'=upd H a (.dK (putK kvs k v)))\/
 ∃kvs k b,H a=some (.dT kvs)/\y= .ref b/\H b=some (.tup (k.map kV))/\kvs.length<sizeLine/\H'=upd H a (.dT (putK kvs k v))
theorem DGet.k{H:Hp}{a:Addr}{kvs:List (Key×V)}{k:Key}(e:H a=some (.dK kvs)):DGet H a (kV k) (valV kvs k):=.inl ⟨kvs,k,.inl e,rfl,rfl⟩
theorem DPut.k{H:Hp}{a:Addr}{kvs:List (Key×V)}{k:Key}{v:V}(e:H a=some (.dK kvs))(hl:kvs.length<sizeLine):DPut H a (kV k) v (upd H a (.dK (putK kvs k v))):=.inl ⟨kvs,k,e,rfl,hl,rfl⟩
section
variable{X:Cx}{pins:List (Addr×Obj)}{σ:St}{H:Hp}{s:Shared}{a:Addr}{y v:V}{u r:Value}{o:Option V}{A:Around}{E:Value->Shared->Prop}
theorem Inv.big(I:Inv X pins σ H s):sysModules<s.heap.objs.size:=by
 have h:mainGlobals<s.heap.objs.size:=(I.mod.glob.keeps I.bk).lt
 exact Nat.lt_trans (by decide) h
theorem d_getItem{Q:Value->Shared->Prop}(hu:A.units+1<cLine)(I:Inv X pins σ H s)(g:DGet H a y (some v))(ry:RelV y u)(h:∀w' s',Inv X pins σ H s'->RelV v w'->Q w' s'):
 wpAny (model X.prog X.w) A (getItem (.ref a) u) Q E s:=by
 rcases g with ⟨kvs,k,e,ey,l⟩ | ⟨kvs,k,b,e,ey,eb,l⟩
 ·subst ey
  obtain⟨z,hd,vs,rel,dd⟩:=dk_rd I.hok e
  obtain⟨w',hw,rw'⟩:=RelO.some_of (v:=v) (o:=valueAt vs k) (by rw [l];exact rel.val k)
  exact wpAny_getItem_of (kV_is ry) dd.mapOf hw (h w' _ (I.tok _) rw')
 ·subst ey
  cases (show u=Value.ref b from ry)
  obtain⟨z,hd,xs,rel,dd⟩:=dt_rd I.hok e
  obtain⟨w',hw,rw'⟩:=RelO.some_of (v:=v) (o:=(atKey xs k).map (·.2)) (by rw [l];exact rel.val k)
  obtain⟨p,hp,hp2⟩:=Option.map_eq_some_iff.mp hw
  refine wpAny_getItem_heap (tupleKind_room_in1 hu) (key_of I.hok eb) dd hp ?_
  rw [hp2]
  exact h w' _ (I.tok _) rw'
theorem d_write{h':Heap}{t':Nat}{ob:HO}(I:Inv X pins σ H s)(mu:Mut (H a))(hs:Heap.SameBut a s.heap h')(he:∃q,h'.get? a=some q)(new:ObjOk X.prog X.w (upd H a ob) h' a ob):
 Inv X pins σ (upd H a ob) {s with heap:=h',toks:=t'}:=
 I.write (x:=a) (e:=a) mu (.inl rfl) (λb q hb z=>(hs.2 b hb).trans z) he new
theorem dk_new{P:Program}{w:World}{H':Hp}{h':Heap}{kvs:List (Key×V)}{vs:List (Key×Value)}(z:kvs.length<=sizeLine)(hd:(a==sysModules)=false)(rel:KV kvs vs)(dd:h'.DictOf (mixKind P w) a vs):
 ObjOk P w H' h' a (.dK kvs):=⟨z,hd,vs,rel,dd⟩
theorem d_setItem{H':Hp}{Q:Unit->Shared->Prop}(hu:A.units+1<cLine)(I:Inv X pins σ H s)(g:DPut H a y v H')(ry:RelV y u)(rv:RelV v r)(h:∀s',Inv X pins σ H' s'->Q () s'):
 wpAny (model X.prog X.w) A (setItem (.ref a) u r) Q E s:=by
 rcases g with ⟨kvs,k,e,ey,l,eH⟩ | ⟨kvs,k,b,e,ey,eb,l,eH⟩
 ·subst ey eH
  obtain⟨z,hd,vs,rel,dd⟩:=dk_of I.hok e
  have hz:vs.length<=sizeLine:=by rw [<-rel.length];exact z
  have hl:(putK kvs k v).length<=sizeLine:=by have:=length_putK kvs k v;omega
  refine wpAny_setItem_pairs (hsz:=hz) (kV_is ry) dd λh' dd' hs=>h _ ?_
  have he:∃q,h'.get? a=some q:=let ⟨q,_,_,hq,_⟩:=dd';⟨q,hq⟩
  exact d_write I (by rw [e];exact True.intro) hs he (dk_new hl hd (rel.put k rv) dd')
 ·subst ey eH
  cases (show u=Value.ref b from ry)
  obtain⟨z,hd,xs,rel,dd⟩:=dt_of I.hok e
  have hz:xs.length<=sizeLine:=by rw [<-Paired.length rel];exact z
  have hl:(putK kvs k v).length<=sizeLine:=by have:=length_putK kvs k v;omega
  refine wpAny_setItem_heap (hsz:=hz) (tupleKind_room_in1 hu) (key_of I.hok eb) dd λh' dd' hs=>h _ ?_
  obtain⟨q,es,ep,hq,h2,h3,h4,_,h5⟩:=dd'
  refine d_write I (by rw [e];exact True.intro) hs ⟨q,hq⟩ ⟨hl,hd,_,(rel.put k eb rv).keeps λc ys ec=>?_,q,es,ep,hq,h2,h3,h4,h5⟩
  rw [upd_ne (ne_of ec e (λz=>nomatch z))]
  exact ec
end
section
variable{X:Cx}{pins:List (Addr×Obj)}{σ:St}{H:Hp}{s:Shared}{a:Addr}{kvs:List (Key×V)}{k:Key}{u:Value}{A:Around}{E:Value->Shared->Prop}
end
def NoSl(i:Expr):Prop:=∀ov iv,subscripted i false ov iv=operate [ov,iv] (getItem ov iv)
theorem subD_of{prog:Program}{w:World}{A:Around}{E:Value->Shared->Prop}{s:Shared}{env:Env}{value slice:Expr}{pos:Pos}{T id:String}{Q:Value->Shared->Prop}
 (hl:typeLookup (.type T) "__getitem__" =pure (some (.builtin id))) (hs:NoSl slice)
 (h:wpAny (model prog w) A (eval value env) (λo s₁=>wpAny (model prog w) A (eval slice env) (λi s₂=>s₂.TypeIs o T/\wpAny (model prog w) A (getItem o i) Q E s₂) E s₁) E s):
 wpAny (model prog w) A (eval (.Subscript value slice pos) env) Q E s:=by
 refine Subscript_ (wpAny_mono h (λo s₁ h₁=>wpAny_mono h₁ (λi s₂ h₂=>?_) λ_ _ x=>x) λ_ _ x=>x)
 obtain⟨hT,h₂⟩:=h₂
 unfold subscriptTail
 refine wpAny_bind ?_
 rw [getitemInPython_of_ne hT.not_modules]
 refine wpAny_bind (wpAny_specialOf hT hl ?_)
 have fin:wpAny (model prog w) A (subscripted slice false o i) (λr s₃=>wpAny (model prog w) A (letTemporaryGo value o r >>= λ_=>pure r) Q E s₃) E s₂:=by
  rw [hs o i]
  exact wpAny_operating (wpAny_mono h₂ (λr s₃ h₃=>wpAny_bind (wpAny_letTemporaryGo (wpAny_pure h₃))) λ_ _ x=>x)
 first
  | exact wpAny_pure (wpAny_bind fin)
  | exact wpAny_bind (wpAny_pure (wpAny_bind fin))
  | exact wpAny_bind fin
theorem dict_typeIs{X:Cx}{pins:List (Addr×Obj)}{σ:St}{H:Hp}{s:Shared}{a:Addr}{y:V}{o:Option V}(I:Inv X pins σ H s)(g:DGet H a y o):s.TypeIs (.ref a) "dict":=by
 rcases g with ⟨kvs,k,e,_,_⟩ | ⟨kvs,k,b,e,_,_,_⟩
 ·obtain⟨_,_,vs,_,dd⟩:=dk_rd I.hok e
  exact dd.typeIs
 ·obtain⟨_,_,xs,_,dd⟩:=dt_rd I.hok e
  exact dd.typeIs
section
variable{X:Cx}{o i e value:Expr}{pos pos' tpos:Pos}{td ty tv:TE}
end
theorem dk_empty{P:Program}{w:World}{H:Hp}(h:Heap)(hb:sysModules<h.objs.size):ObjOk P w H (h.push {cls:=.type "dict",data:=.dict #[]}) h.objs.size (.dK []):=
 ⟨Nat.zero_le _,beq_eq_false_iff_ne.mpr (Ne.symm (Nat.ne_of_lt hb)),[],.nil,Heap.DictOf.new h⟩
def tDNewK:TE:=λ_ H Q=>∀p,H p=none->Q (.ref p) (upd H p (.dK []))
def tDNewT:TE:=λ_ H Q=>∀p,H p=none->Q (.ref p) (upd H p (.dT []))
section
variable{X:Cx}{pos:Pos}
theorem pe_dnewK:PE X (.Dict [] [] pos) tDNewK:=λpins s σ H Q I h=>
 wpAny_Dict_empty ⟨.ref s.heap.objs.size,_,I.laid (a:=s.heap.objs.size) (o:=.dK []) (t':=s.toks) (λ_ _ q=>Heap.get?_push_of_some _ q) (Nat.le_refl _) (dk_empty s.heap I.big),rfl,h _ (I.hok.fresh (Nat.le_refl _))⟩
end
def tPairs:List (TE×TE)->St->Hp->(List (V×V)->Hp->Prop)->Prop
 | [],_,H,Q=>Q [] H
 | (tk,tv)::r,σ,H,Q=>tk σ H λx H1=>tv σ H1 λy H2=>tPairs r σ H2 λps H3=>Q ((x,y)::ps) H3
abbrev VV:List (V×V)->List (Value×Value)->Prop:=Paired λp q=>RelV p.1 q.1/\RelV p.2 q.2
def PPs(X:Cx)(pos:Pos)(keys:List (Option Expr))(values:List Expr)(trs:List (TE×TE)):Prop:=
 ∀(pins:List (Addr×Obj)) (s:Shared) (σ:St) (H:Hp) (Q:List (V×V)->Hp->Prop),Inv X pins σ H s->tPairs trs σ H Q->
  wpAny (model X.prog X.w) X.A (evalPairs (pairTrees keys values X.env pos)) (λvs s'=>∃ps H',Inv X pins σ H' s'/\VV ps vs/\Q ps H') X.xe s
def mergeK(kvs more:List (Key×V)):List (Key×V):=more.foldl (λacc kv=>putK acc kv.1 kv.2) kvs
structure M1(X:Cx)(o:Expr)(m:Str)(apos:Pos)(e:Expr)(cpos:Pos):Prop where
 base:attributeBase o m X.env (eval o X.env)=eval o X.env
 few:((backTo cpos (starEach [e] X.env)).all (λx=>!x.1)&&(backToKw cpos (keywordEach [] X.env)).all (λx=>x.1.isSome)
  && decide (([e]:List Expr).length+([]:List Keyword).length+(if ([]:List Keyword).isEmpty then 0 else 1)<30))=true
 line:(apos.endLine==cpos.line)=true
 trees:backTo cpos (starEach [e] X.env)= [(false,eval e X.env)]
structure M2(X:Cx)(o:Expr)(m:Str)(apos:Pos)(e f:Expr)(cpos:Pos):Prop where
 base:attributeBase o m X.env (eval o X.env)=eval o X.env
 few:((backTo cpos (starEach [e,f] X.env)).all (λx=>!x.1)&&(backToKw cpos (keywordEach [] X.env)).all (λx=>x.1.isSome)
  && decide (([e,f]:List Expr).length+([]:List Keyword).length+(if ([]:List Keyword).isEmpty then 0 else 1)<30))=true
 line:(apos.endLine==cpos.line)=true
 trees:backTo cpos (starEach [e,f] X.env)= [(false,eval e X.env),(false,eval f X.env)]
def IsD(H:Hp)(a:Addr):Prop:=(∃kvs,Rd H a (.dK kvs))\/∃kvs,Rd H a (.dT kvs)
theorem isD_at{X:Cx}{pins:List (Addr×Obj)}{σ:St}{H:Hp}{s:Shared}{a:Addr}(I:Inv X pins σ H s)(d:IsD H a):
 s.TypeIs (.ref a) "dict"/\(∀b,Value.ref a= .ref b->∃ob,s.heap.get? b=some ob/\ob.dict=none)/\(a==sysModules)=false:=by
 rcases d with ⟨kvs,e⟩ | ⟨kvs,e⟩
 ·obtain⟨_,hd,vs,_,dd⟩:=dk_rd I.hok e
  refine⟨dd.typeIs,λb q=>?_,hd⟩
  cases q
  obtain⟨ob,_,_,h1,h2,_⟩:=dd
  exact⟨ob,h1,h2.2.1⟩
 ·obtain⟨_,hd,xs,_,dd⟩:=dt_rd I.hok e
  refine⟨dd.typeIs,λb q=>?_,hd⟩
  cases q
  obtain⟨ob,_,_,h1,h2,_⟩:=dd
  exact⟨ob,h1,h2.2.1⟩
section
variable{X:Cx}{pins:List (Addr×Obj)}{σ:St}{H:Hp}{s:Shared}{a:Addr}{y d:V}{u r:Value}{o:Option V}{A:Around}{E:Value->Shared->Prop}
theorem d_get2{Q:Value->Shared->Prop}(hu:A.units+1<cLine)(I:Inv X pins σ H s)(g:DGet H a y o)(ry:RelV y u)(rd:RelV d r)(h:∀w' s',Inv X pins σ H s'->RelV (o.getD d) w'->Q w' s'):
 wpAny (model X.prog X.w) A (call (.builtin "dict.get") [.ref a,u,r]) Q E s:=by
 rcases g with ⟨kvs,k,e,ey,l⟩ | ⟨kvs,k,b,e,ey,eb,l⟩
 ·subst ey
  obtain⟨z,hd,vs,rel,dd⟩:=dk_rd I.hok e
  refine call_meetsIn PySem.F.slot_dict_get dd.typeIs PySem.F.entry_dict_get (PySem.F.args_dict_get_3 _ _ _) (meets_dict_get_default (mixKind X.prog X.w) a (kV_is ry) hd r) ⟨_,dd.mapOf,h _ _ (I.tok _) ?_⟩
  rw [l]
  exact(rel.val k).getD rd
 ·subst ey
  cases (show u=Value.ref b from ry)
  obtain⟨z,hd,xs,rel,dd⟩:=dt_rd I.hok e
  refine call_meetsIn PySem.F.slot_dict_get dd.typeIs PySem.F.entry_dict_get (PySem.F.args_dict_get_3 _ _ _) (meetsH_dict_get_default (tupleKind (mixKind X.prog X.w)) a b hd r) ⟨tupleKind_room_in1 hu,k,xs,key_of I.hok eb,dd,h _ _ (I.tok _) ?_⟩
  rw [l]
  exact(rel.val k).getD rd
end
def tDGet2(td ty tx:TE):TE:=λσ H Q=>td σ H λx H1=>∃a,x= .ref a/\IsD H1 a/\ty σ H1 λy H2=>tx σ H2 λz H3=>∃o,DGet H3 a y o/\Q (o.getD z) H3
section
variable{X:Cx}{o e f:Expr}{apos cpos:Pos}{td ty tx:TE}
theorem pe_dget2(hu:X.A.units+1<cLine)(ho:PE X o td)(he:PE X e ty)(hf:PE X f tx)(m:M2 X o "get" apos e f cpos):PE X (.Call (.Attribute o "get" apos) [e,f] [] cpos) (tDGet2 td ty tx):=by
 intro pins s σ H Q I h
 refine wpAny_Call_method m.base m.few m.line PySem.F.plainAttrs_dict PySem.F.slot_dict_get PySem.F.type_dict_get (thn (ho pins s σ H _ I h) λu s1 ⟨x,H1,I1,rx,a,ex,d,q1⟩=>?_)
 subst ex
 obtain rfl:u=Value.ref a:=rx
 obtain⟨t1,t2,_⟩:=isD_at I1 d
 refine⟨t1,t2,?_⟩
 rw [m.trees]
 refine Calls.callWith_builtin rfl (Calls.evalArgs_plain (Calls.spliced_cons (thn (he pins s1 σ H1 _ I1 q1) λiv s2 ⟨y,H2,I2,ry,q2⟩=>
  Calls.spliced_cons (thn (hf pins s2 σ H2 _ I2 q2) λfv s3 ⟨z,H3,I3,rz,ov,g,q3⟩=>Calls.spliced_nil ?_))))
 exact d_get2 hu I3 g ry rz λw' s4 I4 rw'=>⟨_,H3,I4,rw',q3⟩
end
section
variable{X:Cx}{pins:List (Addr×Obj)}{σ:St}{H:Hp}{s:Shared}{a:Addr}{kvs:List (Key×V)}{A:Around}{E:Value->Shared->Prop}
end
section
variable{X:Cx}{pins:List (Addr×Obj)}{σ:St}{H:Hp}{s:Shared}{a:Addr}{y:V}{u:Value}{A:Around}{E:Value->Shared->Prop}
end
end L2
namespace Att
open PySem PySem.W PySem.Calls PyProof.Rows
theorem ints_of_wellAll{P:Params}{h:Heap}:∀(ns:List Int) (vs:List Value),WellAll P h vs (ns.map WData.int)->IntsAre vs ns:=by
 intro ns
 induction ns with
 | nil=>
  intro vs w
  rw [List.map_nil] at w
  cases w
  exact .nil
 | cons n ns ih=>
  intro vs w
  rw [List.map_cons] at w
  cases w with
  | cons a b=>
   cases a
   exact .cons _ _ (ih _ b)
theorem script_of{l:OpenLaw}{n:Nat}(hn:l.most=some n){P:Params}{h:Heap}{args:List WData}{vals:List Value}
 (hpre:l.row.toRowW.claim.pre args=true) (hwl:WellAll P h vals args):
 ∃a vs ns,vals= [Value.ref a]/\args= [WData.list (ns.map WData.int)]/\h.get? a=some {cls:=.type "list",data:=.seq vs.toArray}/\IntsAre vs ns/\ns.length<=n:=by
 have hsh:WShape.hasAll [] args [.list .int]=true:=(pre_splitW hpre).1
 have hc:l.pre.holds [] {args:=args}=true:=(pre_splitW hpre).2
 obtain⟨d,r,rfl,h1,h2⟩:=hasAllW_cons hsh
 obtain rfl:=hasAllW_nil h2
 obtain⟨xs,rfl,h3⟩:=hasW_list h1
 obtain⟨ns,rfl⟩:=items_int h3
 have hlen:ns.length<=n:=by
  unfold OpenLaw.pre at hc
  have h4:(WTm.not (.lt (.lit (.int (n:Int))) (.len (.arg 0)))).holds [] {args:=[.list (ns.map .int)]}=true:=by
   have h4:=(holds_andW hc).1
   rw [hn] at h4
   exact h4
  have h5:=condW_of h4 (w_not (w_lt w_lit (w_len_list (w_arg rfl))))
  rw [List.length_map] at h5
  refine Nat.le_of_not_lt λq=>?_
  have q':(n:Int)<((ns.length:Nat):Int):=by omega
  first
   | (rw [decide_eq_true q'] at h5;exact absurd h5 (by decide))
   | (simp at h5;omega)
 cases hwl with
 | cons w1 w2=>
  cases w2
  cases w1 with
  | list ho hall=>exact⟨_,_,ns,rfl,rfl,ho,ints_of_wellAll ns _ hall,hlen⟩
theorem post_true(l:OpenLaw)(args:List WData):l.row.toRowW.claim.post args (.bool true) args=true:=
 postW_of (r:=l.row.toRowW) (X:=(true==true))
  (show WShape.has [] (.bool true) .bool=true by first | rfl | decide | simp [WShape.has,WShape.arms,WShape.armsAll])
  (show(WTm.eq .res (.lit (.bool true))).value [] {args:=args,res:=some (.bool true),after:=args}=some (.bool (true==true)) from w_eq_bool (w_res rfl) w_lit) rfl
theorem attach_call{l:OpenLaw}{n:Nat}{q:Program}{loose:List Str}{XP:(Str->Option Value)->Heap->Prop}{YP:World->Heap->Prop}{d:DefRec}
 (hn:l.most=some n) (hdf:d.params.defaults= [])
 (call:∀(w:World) (s₀ s₁:Shared) (mg mb:Str->Option Value) (fa:Addr) (o:Obj) (pm cd doc:Value) (a:Addr) (vs:List Value) (ns:List Int),
  Ground q loose [] XP w s₀ mg mb s₁.heap->YP w s₁.heap->
  s₁.heap.get? fa=some o->o.data= .func (docDef d.name d.params d.body d.scope pm cd doc)->s₁.heap.CodeRec cd d.name->mg d.name=some (.ref fa)->
  s₁.heap.get? a=some {cls:=.type "list",data:=.seq vs.toArray}->IntsAre vs ns->ns.length<=n->s₁.gens= #[]->
  codeAny (model l.prog w) callerA (.call (.ref fa) ⟨[.ref a],[]⟩) (λr s'=>r= .ok (.ret (.bool true))/\OldK s₁.heap s'.heap/\s'.os=s₁.os/\AllBare s'.gens) s₁):
 WalkO q loose XP YP l.row.toRowW d [] (λf vs=>PySem.call f vs):=by
 intro w s₀ s₁ mg mb G Y fa o pm cd doc dV kV ho hd hcd hD hmg hg args vals as hpre hlay hrd hwl hlo
 obtain rfl:dV= .none:=Dflts.none hD hdf
 obtain rfl:kV= .none:=Dflts.noKw hD
 obtain⟨a,vs,ns,rfl,rfl,hobj,hints,hlen⟩:=script_of hn hpre hwl
 refine enter_call (codeAny_mono (call w s₀ s₁ mg mb fa o pm cd doc a vs ns G Y ho (fd_plain hd) hcd hmg hobj hints hlen hg) λr s' hq=>?_)
 obtain⟨rfl,h2,h3,h4⟩:=hq
 exact⟨.inl ⟨.bool true,.bool true,[],rfl,λ_=>rfl,.bool true,post_true l _,λ_=>⟨List.Pairwise.nil,λ_ hm=>(nomatch hm)⟩⟩,h2,h3,h4⟩
section
variable{prog:Program}{w:World}{A:Around}{E:Value->Shared->Prop}{s:Shared}{K:Frag}
end
end Att
namespace L2
open PySem PySem.Spec PyProof.Rows
theorem vals_ints:∀{vs:List Value} {ns:List Int},IntsAre vs ns->Vals (ns.map V.int) vs
 | _,_,.nil=>.nil
 | _,_,.cons n t h=>.cons ⟨t,rfl⟩ (vals_ints h)
def Only(H:Hp):Prop:=∀b,H b=none\/∃o xs,H b=some (.frz o (.lst xs))
theorem law_call{P:Program}{w:World}{K:PySem.W.Frag}{mg mb:Str->Option Value}{CX:CXT}{k:Nat}{fa a:Addr}{fd:FuncData}{x:Str}{sp:Sp}{s₁:Shared}{vs:List Value}{ns:List Int}
 (KX:K.In s₁.heap) (hns:s₁.heap.Ns mainGlobals mg) (hb:s₁.heap.Ns builtinsNs mb) (hbb:∀x:Str,x≠"__name__"->mb x=bootBuiltins x) (hlim:s₁.heap.NoLimit) (hg:s₁.gens= #[])
 (ha:s₁.heap.get? a=some {cls:=.type "list",data:=.seq vs.toArray}) (hi:IntsAre vs ns) (hl:ns.length<=sizeLine) (hr:Room k callerA)
 (F:∀base:Heap,K.In base->base.Ns mainGlobals mg->FnOk P w K mg base CX k fa fd [x] sp) (hbind:∀(s:Shared) (u:Value),BindsTo s fd ⟨[u],[]⟩ [(x,u)])
 (hsp:∀H:Hp,Only H->SqL K H a (ns.map V.int)->sp [.ref a] H (λv _=>v= .bl true) λ_ _ _=>False)
 (hCX:∀H e s',CX [] H s₁ (λ_ _ _=>False) e s'->False):
 codeAny (model P w) callerA (.call (.ref fa) ⟨[.ref a],[]⟩) (λr s'=>r= .ok (.ret (.bool true))/\OldK s₁.heap s'.heap/\s'.os=s₁.os/\AllBare s'.gens) s₁:=by
 have rv:=vals_ints hi
 have lenV:=hi.length
 -- from an abstract heap in which nothing but the script may be tracked
 have core:∀H:Hp,Only H->SqL K H a (ns.map V.int)->HOk P w H s₁.heap->(∀b,H b≠none->b=a)->(H a≠none->K.lookup a=none)->
  codeAny (model P w) callerA (.call (.ref fa) ⟨[.ref a],[]⟩) (λr s'=>r= .ok (.ret (.bool true))/\OldK s₁.heap s'.heap/\s'.os=s₁.os/\AllBare s'.gens) s₁:=by
  intro H hO hS hok hA hK
  have base_of:∀{b:Addr} {o:Obj},s₁.heap.get? b=some o->H b=none->(hidT s₁.heap H).get? b=some o:=λe n=>hidT_get e n
  have noA:∀{b:Addr} {o:Obj} {es:Array DictEntry} {ep:Nat},s₁.heap.get? b=some o->o.data= .dict es ep->H b=none:=λ{b o es ep} e d=>by
   cases q:H b with
   | none=>rfl
   | some u=>
    have e':b=a:=hA b (by rw [q];simp)
    subst e'
    rw [ha] at e;cases e
    have d':Data.seq vs.toArray _=Data.dict es ep:=d
    cases d'
  have nsK:∀{b:Addr} {m:Str->Option Value},s₁.heap.Ns b m->(hidT s₁.heap H).Ns b m:=λ{b m} ⟨o,es,ep,e,d,r⟩=>⟨o,es,ep,base_of e (noA e d),d,r⟩
  have hKb:K.In (hidT s₁.heap H):=λb o e=>base_of (KX b o e) (by
   cases q:H b with
   | none=>rfl
   | some u=>
    have e':b=a:=hA b (by rw [q];simp)
    subst e'
    rw [hK (by rw [q];simp)] at e;cases e)
  have hM:Mod K mg (hidT s₁.heap H):=⟨hKb,nsK hns,⟨mb,nsK hb,hbb⟩,let ⟨mc,h1,h2⟩:=hlim;⟨mc,nsK h1,h2⟩⟩
  have e0:Env0 P w K mg (hidT s₁.heap H) callerA [] s₁ H:=⟨rfl,hM,λb o e=>of_hidT e,Nat.le_of_eq (hidT_size _ _),trivial,λb hb=>absurd (show b∈([]:List Addr) from hb) (by simp),hok,.of_eq hg⟩
  refine codeAny_mono ((F _ hKb (nsK hns)).run callerA [] s₁ H ⟨[.ref a],[]⟩ [.ref a] [.ref a] _ _ hr e0 (hbind s₁ (.ref a)) (.cons rfl .nil) (hsp H hO hS)) λr s' h=>?_
  cases r with
  | error e=>exact(hCX H e s' h).elim
  | ok fl=>
   cases fl with
   | next=>exact False.elim h
   | brk=>exact False.elim h
   | cont=>exact False.elim h
   | ret u=>
    obtain⟨v,H',os,bare,un,hok',r',q⟩:=h
    have q':v= .bl true:=q
    subst q'
    obtain rfl:u=Value.bool true:=r'
    refine⟨rfl,OldK.of_keep λb o e=>?_,os,bare⟩
    cases q:H b with
    | none=>exact un.keep b o e q (by intro z;exact absurd (show b∈([]:List Addr) from z) (by simp)) (by simp)
    | some u=>
     rcases hO b with z | ⟨ob,xs,z⟩
     ·rw [q] at z;cases z
     ·have z2:=un.frzs b ob _ z
      obtain⟨e1,_⟩:=hok b _ z
      obtain⟨e2,_⟩:=hok' b _ z2
      rw [e] at e1;cases e1
      exact e2
 cases hk:K.lookup a with
 | some o=>
  -- the script is one of the module's own objects
  have e:=KX a o hk
  rw [ha] at e
  cases e
  refine core (λ_=>none) (λ_=>.inl rfl) (.inr ⟨_,vs.toArray,_,hk,rfl,rfl,rfl,by rw [List.size_toArray,lenV];exact hl,by simpa using rv⟩) (λb u z=>by have z':(none:Option HO)=some u:=z;cases z') (λb z=>absurd rfl z) λz=>absurd rfl z
 | none=>
  refine core (λb=>if b=a then some (.frz {cls:=.type "list",data:=.seq vs.toArray} (.lst (ns.map V.int))) else none) (λb=>?_) (.inl (.inr ⟨{cls:=.type "list",data:=.seq vs.toArray},if_pos rfl⟩)) (λb u z=>?_) (λb z=>?_) λ_=>hk
  ·by_cases hb:b=a
   ·exact .inr ⟨_,_,if_pos hb⟩
   ·exact .inl (if_neg hb)
  ·by_cases hb:b=a
   ·have z':=(if_pos hb).symm.trans z
    cases z'
    subst hb
    exact⟨ha,by rw [List.length_map];exact hl,vs,_,rv,ha⟩
   ·have z':=(if_neg hb).symm.trans z
    cases z'
  ·by_cases hb:b=a
   ·exact hb
   ·exact absurd (if_neg hb) z
end L2
namespace L2
open PySem PySem.Spec PyProof.Rows
end L2
/- THE LAST THEOREM (shape;LID,My.* are yours):
 My.Adr:a structure of the addresses that your layer names (classes,functions);My.Txt K t:a structure (Prop) of the equations over K;
 My.txt_mk:{K} {implicit addresses ..} (e1:nsIn K mainGlobals "law" =some (some (.ref f))) (e2:K.lookup f=some ⟨oc,od,.func (fnOf "law" "law" params body scope dV kV doc pm an cdv ct),sl⟩) (e3:codeIn K cdv "law" =true) ..:∃t,My.Txt K t
set_option maxRecDepth 100000 in
set_option maxHeartbeats 0 in
theorem PySem.Challenge.cw_LID_holds : PySem.Challenge.rw_LID.Holds := by
 w_on;o_law;k_head;(case hw=>w_witness2)
 k_fill
 refine L2.walk_of (l:=PySem.Challenge.rw_LID) (n:=63) (k:=40) (x:="script") (CX:=λw=>..) (sp:=λ_=>My.sp_law) rfl (by decide) rfl ⟨rfl,by decide,by decide⟩ (λw h Y=>PySem.W.kIn_of Y) ?F ?S ?C
 case F=>
  intro w mg fa h KX G hmg
  have T:∃t,My.Txt (L2.KOf KX) t:=by
   dsimp only [L2.KOf] -- K must stand as «<heap const> w.params» for k_is
   refine' My.txt_mk ?e1 ?e2 ?e3 ..
   (case e1=>PySem.W.k_is) -- in the order: a name -> its address -> its object -> its parts
   (case e2=>PySem.W.k_is)
   ..
  obtain⟨t,T⟩:=T
  have e0:=hmg.symm.trans (PySem.W.mg_of KX G T.law)
  cases e0 -- fa is the law's own address
  exact⟨_,λs u=>.of_eq rfl,λbase kb nb=>My.law_fn T kb nb⟩ -- if «.of_eq rfl» comes too early: refine' ⟨_, ?b, fun base kb nb => My.law_fn T kb nb⟩; exact fun s u => .of_eq rfl
 case S=>exact λw H a ns hl hO hS=>..
 case C=>exact ..
(the tactic k_is has no namespace:write k_is) -/
namespace L2
open PySem PySem.Spec PyProof.Rows
def inClass(s:Stmt)(j:Nat):Stmt:=match s with
 | .ClassDef _ _ _ body _ _ _ _ _ _ _=>body.getD j (.Pass ⟨0,0,0,0⟩)
 | _=>.Pass ⟨0,0,0,0⟩
def defArgs(s:Stmt):Arguments:=match s with
 | .FunctionDef _ a _ _ _ _ _ _ _ _=>a
 | _=>{posonlyargs:=[],args:=[],vararg:=none,kwonlyargs:=[],kw_defaults:=[],kwarg:=none,defaults:=[]}
def defBody(s:Stmt):List Stmt:=match s with
 | .FunctionDef _ _ b _ _ _ _ _ _ _=>b
 | _=>[]
def defScope(s:Stmt):Scope:=match s with
 | .FunctionDef _ _ _ _ _ _ sc _ _ _=>sc
 | _=>{kind:=.function,names:=[],isGenerator:=false,isCoroutine:=false}
abbrev CX0:CXT:=λ_ _ _ _ _ _=>False
abbrev E0:XK:=λ_ _ _=>False
theorem pass0{X:Cx}:Passes CX0 X E0:=λ_ _ _ _ _ _ _ h=>h.elim
structure Fun(K:PySem.W.Frag)(x qual:Str)(st:Stmt)(f:Addr)(fd:FuncData):Prop where
 ex:∃(oc:Value) (od:Option Addr) (kV doc pm:Value) (an:Option Addr) (cdv ct:Value) (osl:Array (Option Value)),
  fd=PySem.W.fnOf x qual (defArgs st) (defBody st) (defScope st) .none kV doc pm an cdv ct/\K.lookup f=some ⟨oc,od,.func fd,osl⟩/\PySem.W.codeIn K cdv qual=true
 kp:PySem.W.keepIn K (.ref f)=true
section
variable{P:Program}{w:World}{K:PySem.W.Frag}{mg:Str->Option Value}{base:Heap}
theorem Fun.ok{x qual:Str}{st:Stmt}{f:Addr}{fd:FuncData}{N ps:List Str}{k:Nat}{sp:Sp}(F:Fun K x qual st f fd)(S:FnScope N ps (defScope st))(len:∀vs H Q E,sp vs H Q E->vs.length=ps.length)
 (hbody:∀(cdv:Value) (A:Around) (outer:List Env) (s:Shared) (H:Hp) (vs:List V) (Q:VK) (E:XK),Room k (A.deeper (envOfC qual (defScope st) s.heap.objs.size f cdv))->sp vs H Q E->
  ∃t,PSs (cxOf CX0 P w K mg base N qual (defScope st) f cdv A outer s H E).nox (defBody st) t/\t {nx:=λ_ H'=>Q .non H',rt:=Q} (start N vs) H):FnOk P w K mg base CX0 (k+1) f fd ps sp:=by
 obtain⟨oc,od,kV,doc,pm,an,cdv,ct,osl,rfl,lk,hcd⟩:=F.ex
 refine fn_of lk hcd S len λA outer s H vs Q E hr hsp=>?_
 obtain⟨t,h,q⟩:=hbody cdv A outer s H vs Q E hr hsp
 exact⟨t,h.nox,q⟩
end
theorem hu_of{A:Around}{k:Nat}(hr:Room k A):A.units+1<cLine:=Nat.lt_of_le_of_lt (Nat.add_le_add_left (by decide:1<=64) _) hr.units
theorem small1000{n:Nat}(h:n<=1000):n<sizeLine:=Nat.lt_of_le_of_lt h (by decide)
section
variable{X:Cx}
theorem pv(i:Nat){x:Str}{pos:Pos}(hN:X.N[i]? =some x:=by rfl)(hv:Vis X.env.scope x:=by first | exact Or.inl rfl | exact Or.inr (Or.inl rfl) | exact Or.inr (Or.inr rfl))(hd:(x==("__debug__":Str))=false:=by decide)
 (hcd:(x==("__classdict__":Str))=false:=by decide):PE X (.Name x pos) (tVar i):=pe_var hN hv hd hcd
end
theorem iteF{A B:Prop}(h:B):if false=true then A else B:=by
 rw [if_neg Bool.false_ne_true]
 exact h
theorem iteT{A B:Prop}(h:A):if true=true then A else B:=by
 rw [if_pos rfl]
 exact h
theorem ite2{c A B:Prop}[Decidable c](h1:c->A)(h2:¬c->B):if c then A else B:=by
 by_cases h:c
 ·rw [if_pos h]
  exact h1 h
 ·rw [if_neg h]
  exact h2 h
def Same(H H':Hp):Prop:=∀b o,H b=some o->H' b=some o
theorem Same.refl(H:Hp):Same H H:=λ_ _ h=>h
theorem Same.trans{H H1 H2:Hp}(a:Same H H1)(b:Same H1 H2):Same H H2:=λc o h=>b c o (a c o h)
theorem Same.free{H H':Hp}(e:Same H H'){l:Addr}(h:H' l=Option.none):H l=Option.none:=by
 cases q:H l with
 | none=>rfl
 | some o=>
  rw [e l o q] at h
  cases h
section
variable{X:Cx}
end
section
variable{κ:Type}[DecidableEq κ]
end
end L2
set_option maxHeartbeats 4000000
namespace L2
open PySem PySem.Spec PyProof.Rows
mutual
inductive Rp (K:PySem.W.Frag) (H:Hp):V->PyData->Prop
 | non:Rp K H .non .none
 | bl (b:Bool):Rp K H (.bl b) (.bool b)
 | int (i:Int):Rp K H (.int i) (.int i)
 | str (x:Str):Rp K H (.str x) (.str x)
 | lst {a:Addr} {xs:List V} {ds:List PyData}:H a=some (.lst xs)->RpL K H xs ds->Rp K H (.ref a) (.list ds)
 | tup {a:Addr} {xs:List V} {ds:List PyData}:H a=some (.tup xs)->RpL K H xs ds->Rp K H (.ref a) (.tuple ds)
inductive RpL (K:PySem.W.Frag) (H:Hp):List V->List PyData->Prop
 | nil:RpL K H [] []
 | cons {x:V} {d:PyData} {xs:List V} {ds:List PyData}:Rp K H x d->RpL K H xs ds->RpL K H (x::xs) (d::ds)
end
mutual
theorem Rp.mono{K:PySem.W.Frag}{H H':Hp}(g:Same H H'):∀{v:V} {d:PyData},Rp K H v d->Rp K H' v d
 | _,_,.non=>.non
 | _,_,.bl b=>.bl b
 | _,_,.int i=>.int i
 | _,_,.str x=>.str x
 | _,_,.lst h r=>.lst (g _ _ h) (RpL.mono g r)
 | _,_,.tup h r=>.tup (g _ _ h) (RpL.mono g r)
theorem RpL.mono{K:PySem.W.Frag}{H H':Hp}(g:Same H H'):∀{vs:List V} {ds:List PyData},RpL K H vs ds->RpL K H' vs ds
 | _,_,.nil=>.nil
 | _,_,.cons h r=>.cons (Rp.mono g h) (RpL.mono g r)
end
mutual
theorem Rp.reads{X:Cx}{pins:List (Addr×Obj)}{σ:St}{H:Hp}{s:Shared}(I:Inv X pins σ H s):∀{v:V} {d:PyData} {u:Value},Rp X.K H v d->RelV v u->∃as,Reads s.heap u d as
 | _,_,_,.non,r=>by cases r;exact⟨_,.none⟩
 | _,_,_,.bl b,r=>by cases r;exact⟨_,.bool b⟩
 | _,_,_,.int i,r=>by obtain⟨t,rfl⟩:=r;exact⟨_,.int i t⟩
 | _,_,_,.str x,r=>by obtain⟨t,rfl⟩:=r;exact⟨_,.str x t⟩
 | _,_,_,.lst h q,r=>by
  cases r
  obtain⟨its,rv,⟨o,n,e,hc,hd,hs⟩,_⟩:=I.list (SqL.of h)
  obtain⟨as,ra⟩:=RpL.reads I q rv
  exact⟨_,.list e hc hs (by simpa using ra)⟩
 | _,_,_,.tup h q,r=>by
  cases r
  obtain⟨its,rv,⟨o,e,hc,n,hs⟩,_⟩:=I.tuple (SqT.of h)
  obtain⟨as,ra⟩:=RpL.reads I q rv
  exact⟨_,.tuple e hc hs (by simpa using ra)⟩
theorem RpL.reads{X:Cx}{pins:List (Addr×Obj)}{σ:St}{H:Hp}{s:Shared}(I:Inv X pins σ H s):∀{vs:List V} {ds:List PyData} {us:List Value},RpL X.K H vs ds->Vals vs us->∃as,ReadsAll s.heap us ds as
 | _,_,_,.nil,.nil=>⟨_,.nil⟩
 | _,_,_,.cons h q,.cons r t=>by
  obtain⟨as,ra⟩:=Rp.reads I h r
  obtain⟨bs,rb⟩:=RpL.reads I q t
  exact⟨_,.cons ra rb⟩
end
theorem same_new{H:Hp}{p:Addr}(h:H p=none)(o:HO):Same H (upd H p o):=λb u q=>by rw [upd_ne (ne_of_none q h)];exact q
section
variable{X:Cx}
def rEqD(K:PySem.W.Frag):R2:=λx y H Q=>∃d e,Rp K H x d/\Rp K H y e/\SeqAt.shaped d=true/\SeqAt.shaped e=true/\Q (.bl (PyData.eqv d e)) H
def rNeD(K:PySem.W.Frag):R2:=λx y H Q=>∃d e,Rp K H x d/\Rp K H y e/\SeqAt.shaped d=true/\SeqAt.shaped e=true/\Q (.bl (!PyData.eqv d e)) H
theorem op_eqD(hu:X.A.units+64<cLine):OpR X (compareOp .Eq) (rEqD X.K):=by
 intro pins s σ H x y v u Q I rx ry h
 obtain⟨d,e,hx,hy,sd,se,q⟩:=h
 obtain⟨as,ra⟩:=hx.reads I rx
 obtain⟨bs,rb⟩:=hy.reads I ry
 exact eq_dataH ra rb sd se hu ⟨.bl _,H,I,rfl,q⟩
theorem op_neD(hu:X.A.units+64<cLine):OpR X (compareOp .NotEq) (rNeD X.K):=by
 intro pins s σ H x y v u Q I rx ry h
 obtain⟨d,e,hx,hy,sd,se,q⟩:=h
 obtain⟨as,ra⟩:=hx.reads I rx
 obtain⟨bs,rb⟩:=hy.reads I ry
 exact ne_dataH ra rb sd se hu ⟨.bl _,H,I,rfl,q⟩
def rIsi(K:PySem.W.Frag):List V->Hp->VK->Prop:=λxs H Q=>∃x T t b,xs= [x,.ty T]/\TyOf K H x t/\PySem.W.kitOne K t (.type T)=some b/\Q (.bl b) H
theorem call_isinst:CallR X (.builtin "isinstance") (rIsi X.K):=by
 intro pins s σ H xs us Q I r h
 obtain⟨x,T,t,b,rfl,ty,e,q⟩:=h
 obtain⟨u,w,rfl,ru,rw'⟩:=vals2 r
 cases rw'
 exact isinst_ok I ru ty e λtk=>⟨.bl b,H,I.tok _,rfl,q⟩
theorem pe_type {n : Str} {T : String} {pos : Pos} (hg : Gl X n) (hm : X.mg n = none) (hv : bootBuiltins n = some (.type T)) (hn : n ≠ "__name__" := by decide) (hd : (n == ("__debug__" : Str)) = false := by decide) : PE X (.Name n pos) (tC (.ty T)) :=
  pe_bltn hg hm hv rfl hn hd
end
def rIxG:R2:=λx y H Q=>∃p i xs v,x= .ref p/\y= .int i/\(H p=some (.tup xs)\/H p=some (.lst xs))/\atI xs i=some v/\Q v H
theorem ix_g{X:Cx}:IxR X rIxG:=by
 intro value slice pins s σ H x y v u Q I rx ry h hs
 obtain⟨p,i,xs,z,rfl,rfl,hq,he,q⟩:=h
 rcases hq with hq | hq
 ·exact ix_tup value slice pins s σ H _ _ v u Q I rx ry ⟨p,xs,i,z,rfl,rfl,SqT.of hq,he,q⟩ hs
 ·exact ix_list value slice pins s σ H _ _ v u Q I rx ry ⟨p,xs,i,z,rfl,rfl,SqL.of hq,he,q⟩ hs
theorem atI_0{α:Type}{a:α}{l:List α}:atI (a::l) 0=some a:=atI_nat (j:=0) rfl
theorem atI_1{α:Type}{a b:α}{l:List α}:atI (a::b::l) 1=some b:=atI_nat (j:=1) rfl
theorem atI_2{α:Type}{a b c:α}{l:List α}:atI (a::b::c::l) 2=some c:=atI_nat (j:=2) rfl
theorem atI_3{α:Type}{a b c d:α}{l:List α}:atI (a::b::c::d::l) 3=some d:=atI_nat (j:=3) rfl
theorem atI_4{α:Type}{a b c d e:α}{l:List α}:atI (a::b::c::d::e::l) 4=some e:=atI_nat (j:=4) rfl
theorem atI_in{α:Type}{xs:List α}{i:Int}(h0:0<=i)(h1:i<xs.length):∃v,atI xs i=some v/\v∈xs/\xs[i.toNat]? =some v:=by
 have hk:i.toNat<xs.length:=by omega
 have e:((i.toNat:Nat):Int)=i:=by omega
 refine⟨xs[i.toNat],?_,List.getElem_mem hk,List.getElem?_eq_getElem hk⟩
 have:=atI_nat (xs:=xs) (j:=i.toNat) (v:=xs[i.toNat]) (List.getElem?_eq_getElem hk)
 rwa [e] at this
theorem fresh_any{H:Hp}{o:HO}{R:Addr->Hp->Prop}(h:∀p H',H p=none->Same H H'->H' p=some o->R p H'):∀p,H p=none->R p (upd H p o):=λp hp=>h p _ hp (same_new hp o) upd_same
theorem sz{n:Nat}(h:n<=1000):(n<=sizeLine)=True:=eq_true (Nat.le_of_lt (small1000 h))
theorem mn1{n:Nat}:min 1 (n+1)=1:=by omega
theorem mn2{n:Nat}:min 2 (n+2)=2:=by omega
theorem na2:Int.natAbs 2=2:=rfl
theorem na10:Int.natAbs 10=10:=rfl
theorem sz0:(0<=sizeLine)=True:=sz (by decide)
theorem sz1:(1<=sizeLine)=True:=sz (by decide)
theorem sz2:(2<=sizeLine)=True:=sz (by decide)
theorem sz3:(3<=sizeLine)=True:=sz (by decide)
theorem sz4:(4<=sizeLine)=True:=sz (by decide)
theorem sz5:(5<=sizeLine)=True:=sz (by decide)
theorem sz6:(6<=sizeLine)=True:=sz (by decide)
theorem ofString_inj {a b : String} : (Str.ofString a = Str.ofString b) = (a = b) := by
  apply propext
  constructor
  · intro h
    rw [Str.ofString_eq_toList, Str.ofString_eq_toList] at h
    injection h with h
    have h2 : a.toList.map Char.toNat = b.toList.map Char.toNat := by simpa using congrArg Array.toList h
    have inj : ∀ c d : Char, c.toNat = d.toNat → c = d := fun c d e => Char.ext (UInt32.toNat_inj.mp e)
    exact String.toList_inj.mp (List.map_inj_right (fun c d e => inj c d e) |>.mp h2)
  · rintro rfl; rfl
def keyOf:V->Option Key
 | .int i=>some (.inl i)
 | .str x=>some (.inr x)
 | _=>none
theorem kV_of{y:V}{k:Key}(h:keyOf y=some k):y=kV k:=by
 cases y<;>simp only [keyOf,Option.some.injEq,reduceCtorEq] at h<;>subst h<;>rfl
section
variable{X:Cx}{i o e value:Expr}{ty td te tv:TE}{pos pos' apos cpos:Pos}
def tDInG(ty td:TE):TE:=λσ H Q=>ty σ H λy H1=>td σ H1 λx H2=>∃a kvs k,x= .ref a/\H2 a=some (.dK kvs)/\keyOf y=some k/\Q (.bl (valV kvs k).isSome) H2
def tDNotInG(ty td:TE):TE:=λσ H Q=>ty σ H λy H1=>td σ H1 λx H2=>∃a kvs k,x= .ref a/\H2 a=some (.dK kvs)/\keyOf y=some k/\Q (.bl (!(valV kvs k).isSome)) H2
def tDGetG(td ty:TE):TE:=λσ H Q=>td σ H λx H1=>ty σ H1 λy H2=>∃a kvs k v,x= .ref a/\H2 a=some (.dK kvs)/\keyOf y=some k/\valV kvs k=some v/\Q v H2
def sDPutG(td ty tv:TE):TS:=λD σ H=>tv σ H λv H1=>td σ H1 λx H2=>ty σ H2 λy H3=>∃a kvs k,x= .ref a/\H3 a=some (.dK kvs)/\keyOf y=some k/\kvs.length<sizeLine/\D.nx σ (upd H3 a (.dK (putK kvs k v)))
theorem pe_dgetG(hu:X.A.units+1<cLine)(ho:PE X o td)(hi:PE X i ty)(hs:NoSl i):PE X (.Subscript o i pos) (tDGetG td ty):=by
 intro pins s σ H Q I h
 refine subD_of PySem.F.slot_dict_getitem.lookup hs (thn (ho pins s σ H _ I h) λu s1 ⟨x,H1,I1,rx,q1⟩=>thn (hi pins s1 σ H1 _ I1 q1) λiv s2 ⟨y,H2,I2,ry,a,kvs,k,v,ex,ha,ek,ev,q2⟩=>?_)
 subst ex
 obtain rfl:u=Value.ref a:=rx
 have g:DGet H2 a y (some v):=by rw [kV_of ek,<-ev];exact DGet.k ha
 exact⟨dict_typeIs I2 g,d_getItem hu I2 g ry λw' s3 I3 rw'=>⟨v,H2,I3,rw',q2⟩⟩
theorem ps_dputG(hu:X.A.units+1<cLine)(ho:PE X o td)(hi:PE X i ty)(hv:PE X value tv)(hs:swapsWith value (some (.Subscript o i pos')) pos.line X.env=pure false:=by rfl):
 PS X (.Assign [.Subscript o i pos'] value pos) (sDPutG td ty tv):=by
 intro pins s σ H D I h
 refine wpAny_Assign_Subscript (thn (hv pins s σ H _ I h) λr s1 ⟨v,H1,I1,rv,q1⟩=>thn (ho pins s1 σ H1 _ I1 q1) λu s2 ⟨x,H2,I2,rx,q2⟩=>thn (hi pins s2 σ H2 _ I2 q2) λiv s3 ⟨y,H3,I3,ry,a,kvs,k,ex,ha,ek,hz,q3⟩=>?_) hs
 subst ex
 obtain rfl:u=Value.ref a:=rx
 have g:DPut H3 a y v (upd H3 a (.dK (putK kvs k v))):=by rw [kV_of ek];exact DPut.k ha hz
 exact d_setItem hu I3 g ry rv λs4 I4=>⟨σ,_,I4,q3⟩
def tApp(to te:TE):TE:=λσ H Q=>to σ H λx H1=>∃l xs,x= .ref l/\H1 l=some (.lst xs)/\te σ H1 λy H2=>rAppend (.ref l) [y] H2 Q
theorem pe_app(ho:PE X o td)(he:PE X e te)
 (hbase:attributeBase o "append" X.env (eval o X.env)=eval o X.env:=by rfl)
 (hfew:((backTo cpos (starEach [e] X.env)).all (λx=>!x.1)&&(backToKw cpos (keywordEach [] X.env)).all (λx=>x.1.isSome)
  && decide ([e].length+([]:List Keyword).length+(if ([]:List Keyword).isEmpty then 0 else 1)<30))=true:=by rfl)
 (hline:(apos.endLine==cpos.line)=true:=by rfl) (hs:starEach [e] X.env= [(false,eval e X.env)]:=by rfl):
 PE X (.Call (.Attribute o "append" apos) [e] [] cpos) (tApp td te):=by
 intro pins s σ H Q I h
 refine wpAny_Call_method_late hbase hfew hline rfl (thn (ho pins s σ H _ I h) λv s1 ⟨x,H1,I1,r1,l,xs,ex,hl,q1⟩=>?_)
 subst ex
 obtain⟨h1,h2⟩:=tyV_is (T:="list") I1 r1 (Or.inl ⟨rfl,xs,SqL.of hl⟩)
 refine⟨"list",_,PySem.F.plainAttrs_list,PySem.F.slot_list_append,PySem.F.type_list_append,h1,h2,?_⟩
 have hA:=(pa_cons he pa_nil (hs:=by rw [hs];rfl)) cpos pins s1 σ H1 (λvs H2=>rAppend (.ref l) vs H2 Q) I1 q1
 rw [hs] at hA⊢
 refine Calls.callWith_builtin (by rfl) (Calls.evalArgs_plain ?_)
 exact thn hA λus s2 ⟨vs,H2,I2,r2,q2⟩=>mt_append pins s2 σ H2 _ vs v us Q I2 r1 r2 q2
end
theorem scal_ss{a b:Str}:scal (.str a) (.str b)=true:=rfl
theorem scal_ii{a b:Int}:scal (.int a) (.int b)=true:=rfl
theorem scal_bb{a b:Bool}:scal (.bl a) (.bl b)=true:=rfl
theorem scal_nn:scal .non .non=true:=rfl
theorem scal_ns{b:Str}:scal .non (.str b)=true:=rfl
theorem scal_sn{b:Str}:scal (.str b) .non=true:=rfl
theorem scal_ni{b:Int}:scal .non (.int b)=true:=rfl
theorem scal_in{b:Int}:scal (.int b) .non=true:=rfl
theorem keyOf_s{a:Str}:keyOf (.str a)=some (.inr a):=rfl
theorem keyOf_i{a:Int}:keyOf (.int a)=some (.inl a):=rfl
theorem flat_s{a:Str}:flatV (.str a)=true:=rfl
theorem flat_i{a:Int}:flatV (.int a)=true:=rfl
theorem flat_n:flatV .non=true:=rfl
theorem flat_b{a:Bool}:flatV (.bl a)=true:=rfl
theorem inV_nil{x:V}:inV x []=false:=rfl
theorem inV_cons{x y:V}{l:List V}:inV x (y::l)=(eqV y x || inV x l):=rfl
theorem eqV_ss{a b:Str}:eqV (.str a) (.str b)=decide (a=b):=by
 show(a==b)=_
 rw [Bool.eq_iff_iff];simp
theorem eqV_ii{a b:Int}:eqV (.int a) (.int b)=decide (a=b):=by
 show(a==b)=_
 rw [Bool.eq_iff_iff];simp
theorem cx_K{CX:CXT}{P:Program}{w:World}{K:PySem.W.Frag}{mg:Str->Option Value}{base:Heap}{N:List Str}{qual:Str}{scope:Scope}{f:Addr}{cd:Value}{A:Around}{outer:List Env}{s:Shared}{H:Hp}{E:XK}:(cxOf CX P w K mg base N qual scope f cd A outer s H E).K=K:=rfl
section
variable{X:Cx}
def rInG(neg:Bool):R2:=λx y H Q=>∃p xs,y= .ref p/\(H p=some (.tup xs)\/H p=some (.lst xs))/\flatV x=true/\xs.all flatV=true/\Q (.bl (if neg then !inV x xs else inV x xs)) H
theorem op_inG:OpR X (compareOp .In) (rInG false):=by
 intro pins s σ H x y v u Q I rx ry h
 obtain⟨p,xs,rfl,hq,fx,fs,q⟩:=h
 exact op_in_seq pins s σ H x _ v u Q I rx ry ⟨p,xs,rfl,hq.symm.imp SqL.of SqT.of,fx,fs,q⟩
def gTupG(n:Nat)(t:TGs):TG:=λv σ H Q=>∃a xs,v= .ref a/\H a=some (.tup xs)/\xs.length=n/\t xs σ H Q
theorem pg_tupG{es:List Expr}{k:Nat}{t:TGs}{pos:Pos}(n:Nat)(hc:X.calm=true)(h:PGs X es t)
 (hn:(assignEach es X.env).length=n:=by rfl) (hst:(assignEach es X.env).findIdx? (·.1)=none:=by rfl):PG X (.Tuple es k pos) (gTupG n t):=by
 intro pins s σ H v u Q I r hw
 obtain⟨a,xs,e1,hq,hl,hw⟩:=hw
 exact pg_tup hc h hn hst pins s σ H v u Q I r ⟨a,xs,e1,SqT.of hq,hl,hw⟩
def tM(t:TE):TE:=λσ H Q=>∃Q1:VK,t σ H Q1/\∀v H',Q1 v H'->Q v H'
theorem PE.up{e:Expr}{t:TE}(h:PE X e t):PE X e (tM t):=by
 intro pins s σ H Q I hq
 obtain⟨Q1,h1,h2⟩:=hq
 exact thn (h pins s σ H Q1 I h1) λu s' ⟨v,H',I',r,q⟩=>⟨v,H',I',r,h2 v H' q⟩
def rSlG:V->Option Int->Option Int->Hp->VK->Prop:=λx lo hi H Q=>∃a xs,x= .ref a/\
 ((H a = some (.tup xs) ∧ ¬ (HT.sIx xs.length 0 lo = 0 ∧ HT.sIx xs.length xs.length hi = xs.length) ∧ ∀ p H', H p = none → Same H H' → H' p = some (.tup (cutV xs lo hi)) → Q (.ref p) H') ∨
  (H a=some (.lst xs)/\∀p H',H p=none->Same H H'->H' p=some (.lst (cutV xs lo hi))->Q (.ref p) H'))
theorem sl_g:SlR X rSlG:=by
 intro pins s σ H x v vl vu lo hi sl Q I rx hs pl pu h
 obtain⟨a,xs,rfl,⟨ha,hn,q⟩ | ⟨ha,q⟩⟩:=h
 ·exact sl_tup pins s σ H _ v vl vu lo hi sl Q I rx hs pl pu ⟨a,xs,rfl,SqT.of ha,hn,fresh_any q⟩
 ·exact sl_list pins s σ H _ v vl vu lo hi sl Q I rx hs pl pu ⟨a,xs,rfl,SqL.of ha,fresh_any q⟩
def rSlK(K:PySem.W.Frag):V->Option Int->Option Int->Hp->VK->Prop:=λx lo hi H Q=>∃a xs,x= .ref a/\SqL K H a xs/\∀p H',H p=none->Same H H'->H' p=some (.lst (cutV xs lo hi))->Q (.ref p) H'
theorem sl_k:SlR X (rSlK X.K):=by
 intro pins s σ H x v vl vu lo hi sl Q I rx hs pl pu h
 obtain⟨a,xs,rfl,ha,q⟩:=h
 exact sl_list pins s σ H _ v vl vu lo hi sl Q I rx hs pl pu ⟨a,xs,rfl,ha,fresh_any q⟩
def tMA(t:TA):TA:=λσ H Q=>∃Q1:List V->Hp->Prop,t σ H Q1/\∀vs H',Q1 vs H'->Q vs H'
theorem PA.up{es:List Expr}{t:TA}(h:PA X es t):PA X es (tMA t):=by
 intro pos pins s σ H Q I hq
 obtain⟨Q1,h1,h2⟩:=hq
 exact thn (h pos pins s σ H Q1 I h1) λus s' ⟨vs,H',I',r,q⟩=>⟨vs,H',I',r,h2 vs H' q⟩
def tTupG(t:TA):TE:=λσ H Q=>t σ H λxs H1=>xs.length<=sizeLine/\∀p H',H1 p=none->Same H1 H'->H' p=some (.tup xs)->Q (.ref p) H'
def tLstG(t:TA):TE:=λσ H Q=>t σ H λxs H1=>xs.length<=sizeLine/\∀p H',H1 p=none->Same H1 H'->H' p=some (.lst xs)->Q (.ref p) H'
theorem pe_tupG{es:List Expr}{t:TA}{pos:Pos}{x1}(h:PA X es t):PE X (.Tuple es x1 pos) (tTupG t):=λpins s σ H Q I hq=>
 pe_tup h.up pins s σ H Q I ⟨_,hq,λ_ _ q=>⟨q.1,fresh_any q.2⟩⟩
theorem pe_lstG{es:List Expr}{t:TA}{pos:Pos}(h:PA X es t):PE X (.List es pos) (tLstG t):=λpins s σ H Q I hq=>
 pe_lst h.up pins s σ H Q I ⟨_,hq,λ_ _ q=>⟨q.1,fresh_any q.2⟩⟩
def tDNewG:TE:=λ_ H Q=>∀p H',H p=none->Same H H'->H' p=some (.dK [])->Q (.ref p) H'
theorem pe_dnewG{pos:Pos}:PE X (.Dict [] [] pos) tDNewG:=λpins s σ H Q I h=>pe_dnewK pins s σ H Q I (fresh_any h)
def rDictG:List V->Hp->VK->Prop:=λxs H Q=>∃a kvs,xs= [.ref a]/\H a=some (.dK kvs)/\∀p H',H p=none->Same H H'->H' p=some (.dK kvs)->Q (.ref p) H'
structure Mu(H:Hp)(l:Addr)(o:HO)(H':Hp):Prop where
 at_:H' l=some o
 else_:∀a,a≠l->H' a=H a
theorem Mu.mk'{H:Hp}{l:Addr}{o:HO}:Mu H l o (upd H l o):=⟨upd_same,λ_ h=>upd_ne h⟩
theorem Mu.old{H H':Hp}{l a:Addr}{o u:HO}(m:Mu H l o H')(h:H a=some u)(n:a≠l):H' a=some u:=by rw [m.else_ a n];exact h
theorem Mu.same{H0 H H':Hp}{l:Addr}{o:HO}(m:Mu H l o H')(g:Same H0 H)(n:H0 l=none):Same H0 H':=λa u h=>m.old (g a u h) (ne_of_none h n)
def tAppG(to te:TE):TE:=λσ H Q=>to σ H λx H1=>∃l xs,x= .ref l/\H1 l=some (.lst xs)/\te σ H1 λy H2=>∃ys,H2 l=some (.lst ys)/\ys.length<sizeLine/\∀H3,Mu H2 l (.lst (ys++[y])) H3->Q .non H3
theorem pe_appG{o e:Expr}{td te:TE}{apos cpos:Pos}(ho:PE X o td)(he:PE X e te)
 (hbase:attributeBase o "append" X.env (eval o X.env)=eval o X.env:=by rfl)
 (hfew:((backTo cpos (starEach [e] X.env)).all (λx=>!x.1)&&(backToKw cpos (keywordEach [] X.env)).all (λx=>x.1.isSome)
  && decide ([e].length+([]:List Keyword).length+(if ([]:List Keyword).isEmpty then 0 else 1)<30))=true:=by rfl)
 (hline:(apos.endLine==cpos.line)=true:=by rfl) (hs:starEach [e] X.env= [(false,eval e X.env)]:=by rfl):
 PE X (.Call (.Attribute o "append" apos) [e] [] cpos) (tAppG td te):=λpins s σ H Q I h=>
 pe_app ho.up he.up hbase hfew hline hs pins s σ H Q I ⟨_,h,λ_ _ ⟨l,xs,e1,h1,q⟩=>⟨l,xs,e1,h1,_,q,λy _ ⟨ys,h2,hz,q⟩=>⟨l,ys,y,rfl,rfl,h2,hz,q _ .mk'⟩⟩⟩
def sDPutG2(td ty tv:TE):TS:=λD σ H=>tv σ H λv H1=>td σ H1 λx H2=>ty σ H2 λy H3=>∃a kvs k,x= .ref a/\H3 a=some (.dK kvs)/\keyOf y=some k/\kvs.length<sizeLine/\∀H4,Mu H3 a (.dK (putK kvs k v)) H4->D.nx σ H4
theorem ps_dputG2{i o value:Expr}{ty td tv:TE}{pos pos':Pos}(hu:X.A.units+1<cLine)(ho:PE X o td)(hi:PE X i ty)(hv:PE X value tv)(hs:swapsWith value (some (.Subscript o i pos')) pos.line X.env=pure false:=by rfl):
 PS X (.Assign [.Subscript o i pos'] value pos) (sDPutG2 td ty tv):=λpins s σ H D I h=>
 ps_dputG hu ho.up hi.up hv.up hs pins s σ H D I ⟨_,h,λ_ _ q=>⟨_,q,λ_ _ q=>⟨_,q,λ_ _ ⟨a,kvs,k,e1,e2,e3,e4,q⟩=>⟨a,kvs,k,e1,e2,e3,e4,q _ .mk'⟩⟩⟩⟩
def pairsOf:List (V×V)->Option (List (Key×V))
 | []=>some []
 | (x,y)::r=>(keyOf x).bind λk=>(pairsOf r).bind λl=>some ((k,y)::l)
def tDispG(trs:List (TE×TE)):TE:=λσ H Q=>∀p H',H p=none->Same H H'->H' p=some (.dK [])->tPairs trs σ H' λps H2=>H2 p=some (.dK [])/\∃kvs,pairsOf ps=some kvs/\kvs.length<=15/\∀H3,Mu H2 p (.dK (mergeK [] kvs)) H3->Q (.ref p) H3
def turns(a:Addr)(o:HO)(g:TG)(tb:TS)(D:Ends):List V->St->Hp->Prop
 | [],σ,H=>H a=some o/\D.nx σ H
 | x::r,σ,H=>H a=some o/\g x σ H λσ2 H2=>tb {D with nx:=turns a o g tb D r,ct:=turns a o g tb D r,bk:=D.nx} σ2 H2
def tForT(tl:TE)(g:TG)(tb:TS):TS:=λD σ H=>tl σ H λx H1=>∃a xs,x= .ref a/\H1 a=some (.tup xs)/\turns a (.tup xs) g tb D xs σ H1
def tForL(tl:TE)(g:TG)(tb:TS):TS:=λD σ H=>tl σ H λx H1=>∃a xs,x= .ref a/\H1 a=some (.lst xs)/\turns a (.lst xs) g tb D xs σ H1
end
def hoT:HO->Option String
 | .lst _=>some "list"
 | .tup _=>some "tuple"
 | .dK _=>some "dict"
 | _=>none
def tyG(H:Hp):V->Option String
 | .non=>some "NoneType"
 | .bl _=>some "bool"
 | .int _=>some "int"
 | .str _=>some "str"
 | .ref a=>(H a).bind hoT
 | _=>none
theorem tyG_n{H:Hp}:tyG H .non=some "NoneType":=rfl
theorem tyG_b{H:Hp}{x:Bool}:tyG H (.bl x)=some "bool":=rfl
theorem tyG_i{H:Hp}{x:Int}:tyG H (.int x)=some "int":=rfl
theorem tyG_s{H:Hp}{x:Str}:tyG H (.str x)=some "str":=rfl
theorem tyG_r{H:Hp}{a:Addr}:tyG H (.ref a)=(H a).bind hoT:=rfl
theorem hoT_l{xs:List V}:hoT (.lst xs)=some "list":=rfl
theorem hoT_t{xs:List V}:hoT (.tup xs)=some "tuple":=rfl
theorem hoT_d{xs:List (Key×V)}:hoT (.dK xs)=some "dict":=rfl
theorem tyOf_of{K:PySem.W.Frag}{H:Hp}{x:V}{t:String}(h:tyG H x=some t):TyOf K H x (.type t):=by
 cases x with
 | non=>cases h;exact .non
 | bl b=>cases h;exact .bl b
 | int b=>cases h;exact .int b
 | str b=>cases h;exact .str b
 | ref a=>
  rw [tyG_r] at h
  cases e:H a with
  | none=>rw [e] at h;cases h
  | some o=>
   rw [e] at h
   cases o with
   | lst xs=>cases h;exact .lst e
   | tup xs=>cases h;exact .tup e
   | dK xs=>cases h;exact .dK e
   | _=>cases h
 | _=>cases h
def rIsiG(K:PySem.W.Frag):List V->Hp->VK->Prop:=λxs H Q=>∃x T t b,xs= [x,.ty T]/\tyG H x=some t/\PySem.W.kitOne K (.type t) (.type T)=some b/\Q (.bl b) H
theorem call_isinstG{X:Cx}:CallR X (.builtin "isinstance") (rIsiG X.K):=by
 intro pins s σ H xs us Q I r h
 obtain⟨x,T,t,b,e1,e2,e3,q⟩:=h
 exact call_isinst pins s σ H xs us Q I r ⟨x,T,_,b,e1,tyOf_of e2,e3,q⟩
theorem kit_ii{K:PySem.W.Frag}:PySem.W.kitOne K (.type "int") (.type "int")=some true:=rfl
theorem kit_it{K:PySem.W.Frag}:PySem.W.kitOne K (.type "int") (.type "tuple")=some false:=rfl
theorem kit_il{K:PySem.W.Frag}:PySem.W.kitOne K (.type "int") (.type "list")=some false:=rfl
theorem kit_is{K:PySem.W.Frag}:PySem.W.kitOne K (.type "int") (.type "str")=some false:=rfl
theorem kit_ib{K:PySem.W.Frag}:PySem.W.kitOne K (.type "int") (.type "bool")=some false:=rfl
theorem kit_id{K:PySem.W.Frag}:PySem.W.kitOne K (.type "int") (.type "dict")=some false:=rfl
theorem kit_ni{K:PySem.W.Frag}:PySem.W.kitOne K (.type "NoneType") (.type "int")=some false:=rfl
theorem kit_nt{K:PySem.W.Frag}:PySem.W.kitOne K (.type "NoneType") (.type "tuple")=some false:=rfl
theorem kit_nl{K:PySem.W.Frag}:PySem.W.kitOne K (.type "NoneType") (.type "list")=some false:=rfl
theorem kit_ns{K:PySem.W.Frag}:PySem.W.kitOne K (.type "NoneType") (.type "str")=some false:=rfl
theorem kit_nb{K:PySem.W.Frag}:PySem.W.kitOne K (.type "NoneType") (.type "bool")=some false:=rfl
theorem kit_nd{K:PySem.W.Frag}:PySem.W.kitOne K (.type "NoneType") (.type "dict")=some false:=rfl
theorem kit_ti{K:PySem.W.Frag}:PySem.W.kitOne K (.type "tuple") (.type "int")=some false:=rfl
theorem kit_tt{K:PySem.W.Frag}:PySem.W.kitOne K (.type "tuple") (.type "tuple")=some true:=rfl
theorem kit_tl{K:PySem.W.Frag}:PySem.W.kitOne K (.type "tuple") (.type "list")=some false:=rfl
theorem kit_ts{K:PySem.W.Frag}:PySem.W.kitOne K (.type "tuple") (.type "str")=some false:=rfl
theorem kit_tb{K:PySem.W.Frag}:PySem.W.kitOne K (.type "tuple") (.type "bool")=some false:=rfl
theorem kit_td{K:PySem.W.Frag}:PySem.W.kitOne K (.type "tuple") (.type "dict")=some false:=rfl
theorem kit_li{K:PySem.W.Frag}:PySem.W.kitOne K (.type "list") (.type "int")=some false:=rfl
theorem kit_lt{K:PySem.W.Frag}:PySem.W.kitOne K (.type "list") (.type "tuple")=some false:=rfl
theorem kit_ll{K:PySem.W.Frag}:PySem.W.kitOne K (.type "list") (.type "list")=some true:=rfl
theorem kit_ls{K:PySem.W.Frag}:PySem.W.kitOne K (.type "list") (.type "str")=some false:=rfl
theorem kit_lb{K:PySem.W.Frag}:PySem.W.kitOne K (.type "list") (.type "bool")=some false:=rfl
theorem kit_ld{K:PySem.W.Frag}:PySem.W.kitOne K (.type "list") (.type "dict")=some false:=rfl
theorem kit_si{K:PySem.W.Frag}:PySem.W.kitOne K (.type "str") (.type "int")=some false:=rfl
theorem kit_st{K:PySem.W.Frag}:PySem.W.kitOne K (.type "str") (.type "tuple")=some false:=rfl
theorem kit_sl{K:PySem.W.Frag}:PySem.W.kitOne K (.type "str") (.type "list")=some false:=rfl
theorem kit_ss{K:PySem.W.Frag}:PySem.W.kitOne K (.type "str") (.type "str")=some true:=rfl
theorem kit_sb{K:PySem.W.Frag}:PySem.W.kitOne K (.type "str") (.type "bool")=some false:=rfl
theorem kit_sd{K:PySem.W.Frag}:PySem.W.kitOne K (.type "str") (.type "dict")=some false:=rfl
theorem kit_bi{K:PySem.W.Frag}:PySem.W.kitOne K (.type "bool") (.type "int")=some true:=rfl
theorem kit_bt{K:PySem.W.Frag}:PySem.W.kitOne K (.type "bool") (.type "tuple")=some false:=rfl
theorem kit_bl{K:PySem.W.Frag}:PySem.W.kitOne K (.type "bool") (.type "list")=some false:=rfl
theorem kit_bs{K:PySem.W.Frag}:PySem.W.kitOne K (.type "bool") (.type "str")=some false:=rfl
theorem kit_bb{K:PySem.W.Frag}:PySem.W.kitOne K (.type "bool") (.type "bool")=some true:=rfl
theorem kit_bd{K:PySem.W.Frag}:PySem.W.kitOne K (.type "bool") (.type "dict")=some false:=rfl
theorem kit_di{K:PySem.W.Frag}:PySem.W.kitOne K (.type "dict") (.type "int")=some false:=rfl
theorem kit_dt{K:PySem.W.Frag}:PySem.W.kitOne K (.type "dict") (.type "tuple")=some false:=rfl
theorem kit_dl{K:PySem.W.Frag}:PySem.W.kitOne K (.type "dict") (.type "list")=some false:=rfl
theorem kit_ds{K:PySem.W.Frag}:PySem.W.kitOne K (.type "dict") (.type "str")=some false:=rfl
theorem kit_db{K:PySem.W.Frag}:PySem.W.kitOne K (.type "dict") (.type "bool")=some false:=rfl
theorem kit_dd{K:PySem.W.Frag}:PySem.W.kitOne K (.type "dict") (.type "dict")=some true:=rfl
def notStar:Expr->Bool
 | .Starred _ _=>false
 | _=>true
theorem star_of{e:Expr}{es:List Expr}{env:Env}(h:notStar e=true):starEach (e::es) env=(false,eval e env)::starEach es env:=by
 cases e with
 | Starred v q=>exact absurd (show false=true from h) Bool.false_ne_true
 | _=>rfl
theorem star_all{pos:Pos}{env:Env}:∀{es:List Expr},es.all notStar=true->(backTo pos (starEach es env)).any (·.1)=false
 | [],_=>rfl
 | e::es,h=>by
  rw [List.all_cons,Bool.and_eq_true] at h
  rw [star_of h.1]
  show(false || (backTo pos (starEach es env)).any (·.1))=false
  rw [star_all h.2]
  rfl
section
variable{X:Cx}{e:Expr}{es:List Expr}{te:TE}{t:TA}{x:Str}{p pos:Pos}{id T:String}{r:List V->Hp->VK->Prop}
theorem pa_c(ha:PE X e te)(hr:PA X es t)(hn:notStar e=true:=by rfl):PA X (e::es) (tCons te t):=pa_cons ha hr (star_of hn)
theorem pe_cB(hc:CallR X (.builtin id) r)(hg:Gl X x)(hm:X.mg x=none)(hv:bootBuiltins x=some (.builtin id))(ha:PA X (e::es) t)(hn:x≠"__name__":=by decide)(hdb:(x==("__debug__":Str))=false:=by decide)
 (hs:(e::es).all notStar=true:=by rfl):PE X (.Call (.Name x p) (e::es) [] pos) (tCB r t):=
 pe_callB hc hg hm hv ha hn hdb (star_of (Bool.and_eq_true_iff.mp hs).1) (star_all (Bool.and_eq_true_iff.mp hs).2)
theorem pe_cTy(hc:CallR X (.type T) r)(hg:Gl X x)(hm:X.mg x=none)(hv:bootBuiltins x=some (.type T))(ha:PA X (e::es) t)(hn:x≠"__name__":=by decide)(hdb:(x==("__debug__":Str))=false:=by decide)
 (hs:(e::es).all notStar=true:=by rfl):PE X (.Call (.Name x p) (e::es) [] pos) (tCB r t):=
 pe_callTy hc hg hm hv ha hn hdb (star_of (Bool.and_eq_true_iff.mp hs).1) (star_all (Bool.and_eq_true_iff.mp hs).2)
end
structure DefAt(K:PySem.W.Frag)(mg:Str->Option Value)(x:Str)(st:Stmt)(ps:List Str):Prop where
 ex:∃f fd,mg x=some (.ref f)/\Fun K x x st f fd/\Binds K fd ps []
structure OkD(P:Program)(w:World)(K:PySem.W.Frag)(mg:Str->Option Value)(base:Heap)(n:Nat)(x:Str)(ps:List Str)(sp:Sp):Prop where
 ex:∃f fd,mg x=some (.ref f)/\PySem.W.keepIn K (.ref f)=true/\Binds K fd ps []/\FnOk P w K mg base CX0 n f fd ps sp
def tDef(sp:Sp)(t:TA):TE:=λσ H Q=>t σ H λvs H1=>sp vs H1 Q E0
section
variable{P:Program}{w:World}{K:PySem.W.Frag}{mg:Str->Option Value}{base:Heap}{x:Str}{st:Stmt}{N ps:List Str}{k:Nat}{sp:Sp}
theorem DefAt.ok(D:DefAt K mg x st ps)(S:FnScope N ps (defScope st))(len:∀vs H Q E,sp vs H Q E->vs.length=ps.length)
 (hbody:∀(f:Addr) (cdv:Value) (A:Around) (outer:List Env) (s:Shared) (H:Hp) (vs:List V) (Q:VK) (E:XK),Room k (A.deeper (envOfC x (defScope st) s.heap.objs.size f cdv))->sp vs H Q E->
  ∃t,PSs (cxOf CX0 P w K mg base N x (defScope st) f cdv A outer s H E).nox (defBody st) t/\t {nx:=λ_ H'=>Q .non H',rt:=Q} (start N vs) H):OkD P w K mg base (k+1) x ps sp:=by
 obtain⟨f,fd,hm,F,hb⟩:=D.ex
 exact⟨f,fd,hm,F.kp,hb,F.ok S len (hbody f)⟩
end
section
variable{X:Cx}{k n:Nat}{ps:List Str}{sp:Sp}{x:Str}{p pos:Pos}{e:Expr}{es:List Expr}{t:TA}
theorem pe_def(G:OkD X.prog X.w X.K X.mg X.base k x ps sp)(hr:Room n X.A)(hg:Gl X x)(ha:PA X (e::es) t)(hk:k<=n:=by omega)(hdb:(x==("__debug__":Str))=false:=by decide)
 (hs:(e::es).all notStar=true:=by rfl):PE X (.Call (.Name x p) (e::es) [] pos) (tDef sp t):=by
 obtain⟨f,fd,hm,kp,hb,F⟩:=G.ex
 intro pins s σ H Q I h
 refine pe_call F (hr.mono hk) hg hm kp hb .nil pass0 ha hdb (star_of (Bool.and_eq_true_iff.mp hs).1) (star_all (Bool.and_eq_true_iff.mp hs).2) pins s σ H Q I ?_
 have e:(λvs H1=>sp (vs++[]) H1 Q E0)=λvs H1=>sp vs H1 Q E0:=by funext vs H1;rw [List.append_nil]
 show t σ H λvs H1=>sp (vs++[]) H1 Q E0
 rw [e]
 exact h
end
def spLaw(K:PySem.W.Frag):Sp:=λvs H Q _=>∃(a:Addr) (ns:List Int),vs= [.ref a]/\SqL K H a (ns.map V.int)/\ns.length<=63/\∀H',Q (.bl true) H'
end L2
namespace L2
open PySem PySem.Spec PyProof.Rows
structure Fly(h:Heap)(x T:Addr)(cls fl:Value):Prop where
 ex:∃oe vs oT ts,h.get? x=some oe/\oe.cls=cls/\oe.dict=none/\oe.data= .fields vs/\vs[1]? =some (.ref T)/\T≠x/\h.get? T=some oT/\oT.data= .fields ts/\ts[3]? =some fl
def CXr(P:Program)(w:World):CXT:=λouter H s E e s'=>∃(x T:Addr) (cls:Value) (H':Hp),e= .ref x/\s'.os=s.os/\AllBare s'.gens/\Un (frs outer) [] H H' s.heap s'.heap/\HOk P w H' s'.heap/\
 Fly s'.heap x T cls .none/\s.heap.get? x=none/\s.heap.get? T=none/\H' x=none/\H' T=none/\E cls none H'
structure Kept(x:Addr)(ts fr:List Addr)(h h':Heap):Prop where
 keep:∀b o,h.get? b=some o->b≠x->b∉ts->b∉fr->h'.get? b=some o
 slot:∀b o,h.get? b=some o->b≠x->b∉ts->∃sl,h'.get? b=some {o with slots:=sl}
section
variable{M:Model}{A:Around}{E:Value->Shared->Prop}{s:Shared}{base:Heap}{env:Env}{outer:List Env}{L x:Addr}{oe:Obj}{vs:Array Value}{Q:Unit->Shared->Prop}
end
section
variable{X:Cx}{pins:List (Addr×Obj)}{σ:St}{H1:Hp}{s1:Shared}
end
section
variable{P:Program}{w:World}{K:PySem.W.Frag}{mg:Str->Option Value}{base:Heap}{N:List Str}{qual:Str}{scope:Scope}{f:Addr}{cd:Value}{A:Around}{outer:List Env}{s:Shared}{H:Hp}{E:XK}
end
def veM:List Value:=[.type "ValueError",.type "Exception",.type "BaseException",.type "object"]
structure ExcAt(K:PySem.W.Frag)(mg:Str->Option Value)(x:Str)(C:Addr):Prop where
 gl:mg x=some (.ref C)
 ok:PySem.W.excIn K C veM "ValueError.__new__" =true
def tRaise(C:Addr)(t:TA)(E:XK):TS:=λ_ σ H=>t σ H λvs H1=>vs.length<=sizeLine/\E (.ref C) none H1
section
variable{X:Cx}{E:XK}{x:Str}{C:Addr}{np cpos pos:Pos}{e:Expr}{es:List Expr}{t:TA}
end
section
variable{P:Program}{w:World}{K:PySem.W.Frag}{mg:Str->Option Value}{base:Heap}{N:List Str}{qual:Str}{scope:Scope}{f:Addr}{cd:Value}{A:Around}{outer:List Env}{s:Shared}{H:Hp}{E:XK}
end
structure OkR(P:Program)(w:World)(K:PySem.W.Frag)(mg:Str->Option Value)(base:Heap)(n:Nat)(x:Str)(ps:List Str)(sp:Sp):Prop where
 ex:∃f fd,mg x=some (.ref f)/\PySem.W.keepIn K (.ref f)=true/\Binds K fd ps []/\FnOk P w K mg base (CXr P w) n f fd ps sp
def tDefR(sp:Sp)(E:XK)(t:TA):TE:=λσ H Q=>t σ H λvs H1=>sp vs H1 Q E
section
variable{P:Program}{w:World}{K:PySem.W.Frag}{mg:Str->Option Value}{base:Heap}{x:Str}{st:Stmt}{N ps:List Str}{k:Nat}{sp:Sp}
end
section
variable{X:Cx}{E:XK}{k n:Nat}{ps:List Str}{sp:Sp}{x:Str}{p pos:Pos}{e:Expr}{es:List Expr}{t:TA}
end
section
variable{X:Cx}{pins:List (Addr×Obj)}{σ:St}{H:Hp}{s:Shared}
structure Far(X:Cx)(pins:List (Addr×Obj))(b:Addr):Prop where
 old:X.s₀.heap.get? b=none
 loc:b≠X.env.locals
 cel:∀y c,X.env.cells.lookup y=some c->c≠b
 pin:∀p∈X.pn++pins,p.1≠b
end
def ExcIs(x C:Addr)(h:Heap):Prop:=∃ox,PySem.W.InstAt h x ox C none
def excO(x C:Addr):HO:=.ext (ExcIs x C)
section
open PySem.W
end
structure PlainX(K:PySem.W.Frag)(C:Addr):Prop where
 ga:PySem.W.findIn K (.ref C) "__getattribute__" =some (some (.builtin "BaseException.__getattribute__"))
 gt:PySem.W.findIn K (.ref C) "__getattr__" =some none
 mroB:PySem.W.mroIn K C (.type "BaseException")=some true
 cls:(PySem.W.clsIn K C).isSome=true
 fnd:PySem.W.findIn K (.ref C) "__class__" =some (some (.builtin "object.__class__"))
 spc:PySem.W.specialIn K (.builtin "object.__class__") "__get__" =some (some (.builtin "getset_descriptor.__get__"))
 tak:PySem.W.takesIn K (.builtin "object.__class__")=some true
 mro:PySem.W.mroIn K C (.type "object")=some true
def rIsiX(K:PySem.W.Frag):List V->Hp->VK->Prop:=λxs H Q=>∃x C c cv b,xs= [.ref x,c]/\H x=some (excO x C)/\PlainX K C/\(c= .ref cv/\PySem.W.kitOne K (.ref C) (.ref cv)=some b/\Q (.bl b) H)
def rIsiXT(K:PySem.W.Frag):List V->Hp->VK->Prop:=λxs H Q=>∃x C T b,xs= [.ref x,.ty T]/\H x=some (excO x C)/\PlainX K C/\PySem.W.kitOne K (.ref C) (.type T)=some b/\Q (.bl b) H
abbrev TX:=St->Hp->VK->XK->Prop
def tCallX(sp:Sp)(t:TA):TX:=λσ H Q E=>t σ H λvs H1=>sp vs H1 Q E
section
variable{X:Cx}{k n:Nat}{ps:List Str}{sp:Sp}{x:Str}{p pos:Pos}{e:Expr}{es:List Expr}{t:TA}
end
def tTry1(K:PySem.W.Frag)(B:Addr)(i:Nat)(t:TX)(th:TS):TS:=λD σ H=>t σ H (λ_ H1=>D.nx σ H1) λcls _ H1=>∃C,cls= .ref C/\PySem.W.exmOne K (.ref C) (.ref B)=some true/\
 ∀x H2,H1 x=none->Same H1 H2->H2 x=some (excO x C)->th {nx:=λσ' H'=>D.nx (σ'.set i none) H',rt:=D.rt,bk:=λσ' H'=>D.bk (σ'.set i none) H',ct:=λσ' H'=>D.ct (σ'.set i none) H'} (σ.set i (some (.ref x))) H2
section
variable{X:Cx}{B:Addr}{i:Nat}{n cx:Str}{e:Expr}{b0:Stmt}{suite:List Stmt}{ep np hpos pos:Pos}{t:TX}{th:TS}
end
end L2
namespace L2
open PySem PySem.Spec PyProof.Rows
abbrev Cx.comp(X:Cx)(scope:Scope)(cl:List (Str×Addr))(N:List Str)(C:Addr)(fp:List Addr)(s₀:Shared)(H₀:Hp):Cx:=
 {X with N:=N,s₀:=s₀,H₀:=H₀,env:=compEnvC scope cl C X.env,outer:=X.stack,ex:=fp,fn:=λ_=>false,pn:=[],xe:=λ_ _=>False}
structure CompScope(X:Cx)(scope:Scope)(cl:List (Str×Addr))(N:List Str)(cap:List Nat):Prop where
 kind:scope.kind= .function
 clos:X.Ok->closureFor scope X.env=pure cl
 ncell:∀y∈scope.names,y.2≠.cell
 names:∀y∈scope.names,y.2= .local->scope.names.lookup y.1=some .local
 nd:N.Nodup
 has:∀y,((relabel scope X.env).names.lookup y=some .cell\/(relabel scope X.env).names.lookup y=some .free)->∃c,cl.lookup y=some c
 sub:X.Ok->∀y c,cl.lookup y=some c->X.env.cells.lookup y=some c
 len:N.length=cap.length+1
 cap:∀(j i:Nat) (y:Str),N[j+1]? =some y->cap[j]? =some i->X.N[i]? =some y/\Vis X.env.scope y/\X.env.kindOf y≠some .local/\((relabel scope X.env).names.lookup y=some .cell\/(relabel scope X.env).names.lookup y=some .free)
def capOf(σ:St)(cap:List Nat):St:=cap.map λi=>(σ[i]?).join
section
variable{X:Cx}{pins:List (Addr×Obj)}{σ:St}{H:Hp}{s:Shared}{scope:Scope}{cl:List (Str×Addr)}{N:List Str}{cap:List Nat}
end
def PTs(X:Cx)(ifs:List Expr)(t:TT):Prop:=
 ∀(pins:List (Addr×Obj)) (s:Shared) (σ:St) (H:Hp) (Q:Bool->Hp->Prop),Inv X pins σ H s->t σ H Q->
  wpAny (model X.prog X.w) X.A (forIn ifs true λc r=>if r=true then do let ok <-isTrue c X.env (eval c X.env);pure (ForInStep.yield ok) else pure (ForInStep.yield r)) (TP X pins σ Q) X.xe s
def tYes:TT:=λ_ H Q=>Q true H
theorem pts_nil{X:Cx}:PTs X [] tYes:=λ_ _ _ H _ I h=>wpAny_tests_nil ⟨H,I,h⟩
theorem pts_one{X:Cx}{c:Expr}{t:TT}(h:PT X c t):PTs X [c] t:=λpins s σ H Q I q=>wpAny_tests_one (h pins s σ H Q I q)
section
variable{X:Cx}{scope:Scope}{cl:List (Str×Addr)}{N:List Str}{cap:List Nat}{x:Str}{px pos:Pos}{iter elt:Expr}{ifs:List Expr}{wi:TI}{tc:TT}{te:TE}
end
end L2
namespace L2
open PySem PySem.Spec PyProof.Rows
def rAll:List V->Hp->VK->Prop:=λxs H Q=>∃(p:Addr) (bs:List Bool),xs= [.ref p]/\H p=some (.lst (bs.map V.bl))/\Q (.bl (bs.all id)) H
structure Over(J:It)(xs:List V)(ok:Hp->Prop):Prop where
 go:∀i H,ok H->i<xs.length->J.go i H
 stop:∀i H,ok H->xs.length<=i->J.stop i H
 yld:∀i H x H',ok H->i<xs.length->J.yld i H x H'->H'=H/\xs[i]? =some x
theorem over_list{K:PySem.W.Frag}{a:Addr}{xs:List V}:Over (Itl K a) xs (λH=>H a=some (.lst xs)) where
 go:=λi H e h=>⟨xs,xs[i],SqL.of e,List.getElem?_eq_getElem h⟩
 stop:=λi H e h=>⟨xs,SqL.of e,h⟩
 yld:=λi H v H' e h y=>⟨y.1,y.2 xs (SqL.of e)⟩
theorem over_tup{K:PySem.W.Frag}{a:Addr}{xs:List V}:Over (Itt K a) xs (λH=>H a=some (.tup xs)) where
 go:=λi H e h=>⟨xs,xs[i],SqT.of e,List.getElem?_eq_getElem h⟩
 stop:=λi H e h=>⟨xs,SqT.of e,h⟩
 yld:=λi H v H' e h y=>⟨y.1,y.2 xs (SqT.of e)⟩
theorem lookup_mem{names:List (Str×NameKind)}{y:Str}{k:NameKind}(h:names.lookup y=some k):(y,k)∈names:=PySem.mem_of_lookup h
def tFmt(te:TE):TE:=λσ H Q=>te σ H λv H1=>(∃x,v= .str x/\x.length<=sizeLine/\Q (.str x) H1)\/∃i:Int,v= .int i/\i.natAbs.log2<1920/\Q (.str (toString i)) H1
abbrev TJ:=Str->St->Hp->(Str->Hp->Prop)->Prop
def jNil:TJ:=λout _ H Q=>out.length<=sizeLine/\Q out H
def jCons(te:TE)(t:TJ):TJ:=λout σ H Q=>te σ H λv H1=>∃x,v= .str x/\(out++x).length<=sizeLine/\t (out++x) σ H1 Q
def tJoin(t:TJ):TE:=λσ H Q=>t Str.empty σ H λx H1=>Q (.str x) H1
end L2
namespace L2
open PySem PySem.Spec PyProof.Rows
section
variable{X:Cx}
def rStarts:V->List V->Hp->VK->Prop:=λx vs H Q=>∃a b,x= .str a/\vs= [.str b]/\Q (.bl (PySem.Txt.startswith a b)) H
def rMulS:R2:=λx y H Q=>∃a n,x= .str a/\y= .int n/\MulOk a n/\Q (.str (PySem.Txt.mul a n)) H
def rSlS:V->Option Int->Option Int->Hp->VK->Prop:=λx lo hi H Q=>∃a,x= .str a/\a.length<=sizeLine/\Q (.str (PySem.Txt.slice a lo hi)) H
def rJoinS:V->List V->Hp->VK->Prop:=λx vs H Q=>∃a l ys,x= .str a/\vs= [.ref l]/\H l=some (.lst (ys.map V.str))/\JoinOk a ys=true/\Q (.str (PySem.Txt.join a ys)) H
def rInK(K:PySem.W.Frag)(neg:Bool):R2:=λx y H Q=>∃p xs,y= .ref p/\(∀H,SqT K H p xs)/\flatV x=true/\xs.all flatV=true/\Q (.bl (if neg then !inV x xs else inV x xs)) H
end
def rCatG:R2:=λx y H Q=>∃l b xs zs,x= .ref l/\y= .ref b/\H l=some (.lst xs)/\H b=some (.lst zs)/\xs.length+zs.length<=sizeLine/\∀p H',H p=none->Same H H'->H' p=some (.lst (xs++zs))->Q (.ref p) H'
theorem op_catG{X:Cx}:OpR X (binaryOp .Add) rCatG:=by
 intro pins s σ H x y v u Q I rx ry h
 obtain⟨l,b,xs,zs,e1,e2,h1,h2,hz,q⟩:=h
 exact op_cat pins s σ H x y v u Q I rx ry ⟨l,b,xs,zs,e1,e2,h1,h2,hz,fresh_any q⟩
def rSetG:V->V->V->Hp->(Hp->Prop)->Prop:=λo i v H Q=>∃p xs k j,o= .ref p/\i= .int k/\H p=some (.lst xs)/\ixN xs.length k=some j/\∀H',Mu H p (.lst (xs.set j v)) H'->Q H'
theorem set_listG{X:Cx}:PSet X rSetG:=by
 intro pins s σ H o i v ov iv u Q I ro ri rv h
 obtain⟨p,xs,k,j,e1,e2,h1,h2,q⟩:=h
 exact set_list pins s σ H o i v ov iv u Q I ro ri rv ⟨p,xs,k,j,e1,e2,h1,h2,q _ .mk'⟩
def tMs(t:TS):TS:=λD σ H=>∃Z:St->Hp->Prop,t {D with nx:=Z} σ H/\∀σ' H',Z σ' H'->D.nx σ' H'
theorem ps_up{X:Cx}{st:Stmt}{t:TS}(h:PS X st t):PS X st (tMs t):=by
 intro pins s σ H D I hq
 obtain⟨Z,h1,h2⟩:=hq
 refine thn (h pins s σ H _ I h1) λfl s' hs=>?_
 cases fl with
 | next=>obtain⟨σ',H',I',q⟩:=hs;exact⟨σ',H',I',h2 _ _ q⟩
 | _=>exact hs
end L2
namespace L2
open PySem PySem.Spec PyProof.Rows
section
variable{X:Cx}{pins:List (Addr×Obj)}{σ:St}{H:Hp}{s:Shared}{h':Heap}
theorem Inv.turnedL{t':Nat}{ch:List Addr}(I:Inv X pins σ H s)(k:∀b o,b∉ch->s.heap.get? b=some o->h'.get? b=some o)(hf:∀b∈ch,FpOk X pins H b):Inv X pins σ H {s with heap:=h',toks:=t'}:=by
 have nit:∀b u,H b=some u->b∉ch:=λb u e z=>by rw [(hf b z).1] at e;cases e
 refine I.step (g':=s.gens) (d':=s.drawn) (ch:=ch) (λb hb=>?_) (λb o _ _ hc e _=>k b o hc e) (λb o _ _ hc e _=>⟨o.slots,k b o hc e⟩) (λ_ _ _ _ n=>n)
  (λb o hc e=>⟨o,k b o hc e⟩) (λ_ _ e=>e) (λ_ _ _ e=>e) (λb ps e=>⟨#[],by rw [e];simp⟩) (λm hm=>?_) (λb u e=>?_) I.bare
 ·obtain⟨_,f1,_,f3,f4,f5⟩:=hf b hb
  exact⟨f3,f1,f4,f5⟩
 ·obtain⟨o,es,ep,ho,r⟩:=hm
  exact⟨o,es,ep,k _ o (λz=>(hf _ z).2.1 rfl) ho,r⟩
 ·refine(I.hok b u e).stay (λc v hc q=>k c v ?_ q) (λ_ q=>q) λ_ _ q=>q
  rcases hc with z | z
  ·rw [z];exact nit b u e
  ·exact nit c _ z
end
inductive F2 (R:V->V->Prop):List V->List V->Prop
 | nil:F2 R [] []
 | cons {x v:V} {xs vs:List V}:R x v->F2 R xs vs->F2 R (x::xs) (v::vs)
theorem forIn_yield_fold{α β:Type}{f:α->β->Sem (ForInStep β)}(g:α->β->β):∀(l:List α) (b:β),(∀x∈l,∀b,f x b=pure (.yield (g x b)))->forIn l b f=pure (l.foldl (λb x=>g x b) b)
 | [],b,_=>by rw [List.forIn_nil];rfl
 | x::l,b,h=>by
  rw [List.forIn_cons,h x List.mem_cons_self b,pure_bind]
  exact forIn_yield_fold g l (g x b) λy hy=>h y (List.mem_cons_of_mem _ hy)
def capG(env:Env)(x:Str×NameKind)(r:List (Str×Addr)):List (Str×Addr):=if x.2== .free then (x.1,(env.cells.lookup x.1).getD 0)::r else r
def clOf(env:Env)(scope:Scope):List (Str×Addr):=scope.names.foldl (λr x=>capG env x r) []
theorem closure_of{scope:Scope}{env:Env}(h:∀y∈scope.names,y.2= .free->∃c,env.cells.lookup y.1=some c):closureFor scope env=pure (clOf env scope):=by
 simp only [closureFor]
 rw [forIn_yield_fold (capG env) scope.names [] (λx hx b=>by
  obtain⟨n,k⟩:=x
  cases hk:(k==NameKind.free) with
  | false=>simp [capG,hk]
  | true=>
   have e:k= .free:=by simpa using hk
   obtain⟨c,hc⟩:=h _ hx e
   have hc':env.cells.lookup n=some c:=hc
   simp [capG,hk,cellOf,hc'])]
 rfl
theorem cl_sub{env:Env}:∀(names:List (Str×NameKind)) (acc:List (Str×Addr)),(∀y∈names,y.2= .free->∃c,env.cells.lookup y.1=some c)->(∀y c,acc.lookup y=some c->env.cells.lookup y=some c)->
 ∀y c,(names.foldl (λr x=>capG env x r) acc).lookup y=some c->env.cells.lookup y=some c
 | [],acc,_,ha,y,c,e=>ha y c e
 | (n,k)::names,acc,h,ha,y,c,e=>by
  refine cl_sub names (capG env (n,k) acc) (λz hz=>h z (List.mem_cons_of_mem _ hz)) (λz d ez=>?_) y c e
  unfold capG at ez
  split at ez
  ·rename_i hk
   have hk':k= .free:=by simpa using hk
   obtain⟨c',hc'⟩:=h _ List.mem_cons_self hk'
   have hc':env.cells.lookup n=some c':=hc'
   rw [List.lookup_cons] at ez
   split at ez
   ·rename_i hzn
    have:z=n:=by simpa using hzn
    subst this
    rw [hc'] at ez⊢
    exact ez
   ·exact ha z d ez
  ·exact ha z d ez
theorem cl_has{env:Env}:∀(names:List (Str×NameKind)) (acc:List (Str×Addr)) (y:Str),((y,NameKind.free)∈names\/(acc.lookup y).isSome)->((names.foldl (λr x=>capG env x r) acc).lookup y).isSome
 | [],acc,y,h=>h.elim (λz=>absurd z List.not_mem_nil) id
 | (n,k)::names,acc,y,h=>by
  refine cl_has names (capG env (n,k) acc) y ?_
  rcases h with h | h
  ·rcases List.mem_cons.mp h with h | h
   ·obtain⟨rfl,rfl⟩:=Prod.mk.inj h
    right
    simp [capG]
   ·exact .inl h
  ·right
   unfold capG
   split
   ·rw [List.lookup_cons]
    split
    ·rfl
    ·exact h
   ·exact h
theorem lookup_relabel_free{env:Env}:∀{names:List (Str×NameKind)} {x:Str},names.lookup x=some .free->
 (names.map λ(n,k)=>if (k==NameKind.free&&env.scope.kind== .function&&env.kindOf n==some .cell) then (n,NameKind.cell) else (n,k)).lookup x=some .cell\/
 (names.map λ(n,k)=>if (k==NameKind.free&&env.scope.kind== .function&&env.kindOf n==some .cell) then (n,NameKind.cell) else (n,k)).lookup x=some .free
 | [],_,h=>by simp at h
 | (n,k)::r,x,h=>by
  have ih:= @lookup_relabel_free env r x
  rw [List.lookup_cons] at h
  rw [List.map_cons]
  cases hx:x==n with
  | true=>
   rw [hx] at h
   have hk:k= .free:=by simpa using h
   subst hk
   dsimp only
   split
   ·left;rw [List.lookup_cons,hx]
   ·right;rw [List.lookup_cons,hx]
  | false=>
   rw [hx] at h
   dsimp only
   split
   ·rw [List.lookup_cons,hx];exact ih h
   ·rw [List.lookup_cons,hx];exact ih h
def tTry0(K:PySem.W.Frag)(B:Addr)(t:TX)(th:TS):TS:=λD σ H=>t σ H (λ_ H1=>D.nx σ H1) λcls _ H1=>∃C,cls= .ref C/\PySem.W.exmOne K (.ref C) (.ref B)=some true/\th D σ H1
section
variable{X:Cx}{B:Addr}{cx:Str}{e:Expr}{b0:Stmt}{suite:List Stmt}{ep np hpos pos:Pos}{t:TX}{th:TS}
end
def ForJ(J:It)(g:TG)(tb:TS)(D:Ends)(σ:St)(H1:Hp):Prop:=∃W:Nat->Nat->St->Hp->Prop,(∃m,W 0 m σ H1)/\∀i m σ H,W i m σ H->
 (J.stop i H/\D.nx σ H)\/(J.go i H/\∃N:St->Hp->Prop,(∀σ' H',N σ' H'->∃m',m'<m/\W (i+1) m' σ' H')/\∀x H',J.yld i H x H'->g x σ H' λσ2 H2=>tb {D with nx:=N,ct:=N,bk:=D.nx} σ2 H2)
theorem tfor_in{wi:TI}{g:TG}{tb:TS}{D:Ends}{σ:St}{H:Hp}(h:wi σ H λJ H1=>ForJ J g tb D σ H1):tFor wi g tb D σ H:=h
end L2
namespace L2
open PySem PySem.Spec PyProof.Rows
section
variable{X:Cx}{pins:List (Addr×Obj)}{σ:St}{H:Hp}{s:Shared}
def NoFz(X:Cx)(d:Addr):Prop:=∀o u,X.H₀ d≠some (.frz o u)
theorem Inv.retag{d:Addr}{u u':HO}(I:Inv X pins σ H s)(hd:H d=some u)(n1:∀xs,u≠.tup xs)(n2:NoFz X d)(n3:∀ps,u≠.tbl ps)(n4:∀x,u≠.own x)(new:ObjOk X.prog X.w (upd H d u') s.heap d u'):Inv X pins σ (upd H d u') s:=by
 have ne:∀{b:Addr},H b=none->b≠d:=λh z=>by rw [z,hd] at h;cases h
 have sub:∀{b:Addr},H b=none->upd H d u' b=none:=λ{b} h=>by rw [upd_ne (ne h)];exact h
 have bs:=I.base
 refine⟨I.ok,I.os,I.bare,⟨bs.keep,bs.slot,λb o e n hx=>sub (bs.free b o e n hx),bs.there,λb xs e=>?_,λb o v e=>?_,λb ps e=>?_⟩,I.loc,I.cell,sub I.free,λx c e=>sub (I.freeC x c e),λp hp=>?_,λa v e=>?_,I.len⟩
 ·have:=bs.tups b xs e
  have nb:b≠d:=λz=>by rw [z,hd] at this;exact n1 xs (Option.some.inj this)
  rw [upd_ne nb];exact this
 ·have nb:b≠d:=λz=>n2 o v (by rw [<-z];exact e)
  rw [upd_ne nb];exact bs.frzs b o v e
 ·obtain⟨more,h1⟩:=bs.tbls b ps e
  have nb:b≠d:=λz=>by rw [z,hd] at h1;exact n3 _ (Option.some.inj h1)
  exact⟨more,by rw [upd_ne nb];exact h1⟩
 ·obtain⟨p1,p2,p3,p4,p5⟩:=I.pin p hp
  exact⟨p1,sub p2,p3,p4,p5⟩
 ·by_cases ha:a=d
  ·subst ha
   rw [upd_same] at e
   cases e
   exact new
  ·rw [upd_ne ha] at e
   refine(I.hok a v e).stay (λ_ _ _ q=>q) (λb q=>?_) λb xs q=>?_
   ·have nb:b≠d:=λz=>by rw [z,hd] at q;exact n4 _ (Option.some.inj q)
    rw [upd_ne nb];exact q
   ·have nb:b≠d:=λz=>by rw [z,hd] at q;exact n1 _ (Option.some.inj q)
    rw [upd_ne nb];exact q
theorem Inv.nofz{d:Addr}{kvs:List (Key×V)}(I:Inv X pins σ H s)(hd:H d=some (.dK kvs)):NoFz X d:=λo u e=>by
 have:=I.base.frzs d o u e
 rw [hd] at this;cases this
end
def Itk(d:Addr)(o:Obj)(kvs:List (Key×V)):It:=
 ⟨λi H=>i<kvs.length/\H d=some (.frz o (.dK kvs)),λi H x H'=>H'=H/\∃k v,kvs[i]? =some (k,v)/\x=kV k,λi H=>kvs.length<=i/\H d=some (.frz o (.dK kvs))⟩
theorem relV_key{k:Key}{v:Value}(h:keyIs k v=true):RelV (kV k) v:=by
 rcases keyIs_shape h with ⟨i,t,rfl,rfl⟩ | ⟨x,t,rfl,rfl⟩
 ·exact⟨t,rfl⟩
 ·exact⟨t,rfl⟩
def iKeys(nf:Addr->Prop)(tl:TE):TI:=λσ H R=>tl σ H λx H1=>∃d kvs,x= .ref d/\H1 d=some (.dK kvs)/\∀o,nf d->R (Itk d o kvs) (upd H1 d (.frz o (.dK kvs)))
def tForK(nf:Addr->Prop)(tl:TE)(g:TG)(tb:TS):TS:=λD=>tFor (iKeys nf tl) g tb {D with nx:=λσ' H'=>∃d o kvs,nf d/\H' d=some (.frz o (.dK kvs))/\D.nx σ' (upd H' d (.dK kvs))}
def tDGetR(td ty:TE):TE:=λσ H Q=>td σ H λx H1=>ty σ H1 λy H2=>∃a kvs k v,x= .ref a/\Rd H2 a (.dK kvs)/\keyOf y=some k/\valV kvs k=some v/\Q v H2
section
variable{X:Cx}
def rPopG:V->List V->Hp->VK->Prop:=λx vs H Q=>∃l xs y,x= .ref l/\vs= []/\H l=some (.lst (xs++[y]))/\∀H',Mu H l (.lst xs) H'->Q y H'
def rRepG:R2:=λx y H Q=>∃l k xs,x= .ref l/\y= .int k/\H l=some (.lst xs)/\ -(2^63)<=k/\k<2^63/\xs.length*k.toNat<=sizeLine/\∀p H',H p=none->Same H H'->H' p=some (.lst (List.replicate k.toNat xs).flatten)->Q (.ref p) H'
theorem op_repG:OpR X (binaryOp .Mult) rRepG:=by
 intro pins s σ H x y v u Q I rx ry h
 obtain⟨l,k,xs,e1,e2,h1,h2,h3,h4,q⟩:=h
 exact op_rep pins s σ H x y v u Q I rx ry ⟨l,k,xs,e1,e2,h1,h2,h3,h4,fresh_any q⟩
end
section
variable{prog:Program}{w:World}{A:Around}{E:Value->Shared->Prop}{s:Shared}
end
def gLstG(n:Nat)(t:TGs):TG:=λv σ H Q=>∃a xs,v= .ref a/\H a=some (.lst xs)/\xs.length=n/\t xs σ H Q
end L2
namespace L2
open PySem PySem.Spec PyProof.Rows
theorem ints_are:∀{ns:List Int} {its:List Value},Vals (ns.map V.int) its->IntsAre its ns
 | [],_,.nil=>.nil
 | n::ns,_,.cons h r=>by
  obtain⟨t,rfl⟩:=h
  exact .cons n t (ints_are r)
theorem are_ints:∀{ns:List Int} {its:List Value},IntsAre its ns->Vals (ns.map V.int) its
 | _,_,.nil=>.nil
 | _,_,.cons n t r=>.cons ⟨t,rfl⟩ (are_ints r)
def rSum:List V->Hp->VK->Prop:=λxs H Q=>∃(p:Addr) (ns:List Int),xs= [.ref p]/\H p=some (.lst (ns.map V.int))/\Q (.int ns.sum) H
theorem call_sum{X:Cx}(hc:X.calm=true):CallR X (.builtin "sum") rSum:=by
 intro pins s σ H xs us Q I r h
 obtain⟨p,ns,rfl,hp,q⟩:=h
 obtain⟨u,rfl,ru⟩:=vals1 r
 cases ru
 obtain⟨its,rv,pl,hz⟩:=I.list (SqL.of hp)
 have hi:=ints_are rv
 obtain⟨xs,hx⟩:=hi.allInts.items
 have hl:s.heap.IsList p (intItems xs):=hx▸pl.isList
 refine PySem.sum_intListG (I.ok.hd hc) hl λh' tk t' hk=>?_
 have e1:ns=xs.toList.map (·.1):=by
  rw [<-nums_intItems,<-hx]
  exact(show numsOf its.toArray.toList=ns from hi.numsOf).symm
 have e2:preSum (numAt xs) xs.size=ns.sum:=by
  rw [preSum_eq,List.take_of_length_le (by simp),e1]
 rw [e2]
 exact⟨.int ns.sum,H,I.kept hk,⟨t',rfl⟩,q⟩
def rSort:List V->Hp->VK->Prop:=λxs H Q=>∃(p:Addr) (ns:List Int),xs= [.ref p]/\(H p=some (.lst (ns.map V.int))\/∃kvs:List (Key×V),H p=some (.dK kvs)/\kvs.map (·.1)=ns.map Sum.inl)/\ns.length<64/\
 ∀D H' ms,H D=none->Same H H'->H' D=some (.lst (ms.map V.int))->List.Perm ms ns->List.Pairwise (λx y=>x<=y) ms->Q (.ref D) H'
def rListG(K:PySem.W.Frag):List V->Hp->VK->Prop:=λxs H Q=>∃p ys,xs= [.ref p]/\(H p=some (.lst ys)\/H p=some (.tup ys))/\∀l H',H l=none->Same H H'->H' l=some (.lst ys)->Q (.ref l) H'
theorem call_listG{X:Cx}:CallR X (.type "list") (rListG X.K):=by
 intro pins s σ H xs us Q I r h
 obtain⟨p,ys,e,hp,q⟩:=h
 exact call_list_of pins s σ H xs us Q I r ⟨p,ys,e,hp.elim (λh=>.inl (SqL.of h)) (λh=>.inr (.inl (.inl h))),fresh_any q⟩
def insL(xs:List V)(k:Nat)(y:V):List V:=xs.take k++y::xs.drop k
def rInsG:V->List V->Hp->VK->Prop:=λx vs H Q=>∃l xs k y,x= .ref l/\vs= [.int k,y]/\H l=some (.lst xs)/\0<=k/\k<=xs.length/\xs.length<1000/\∀H',Mu H l (.lst (insL xs k.toNat y)) H'->Q .non H'
def tDPopG(td ty:TE):TE:=λσ H Q=>td σ H λx H1=>∃a,x= .ref a/\(∃kvs,H1 a=some (.dK kvs))/\ty σ H1 λy H2=>∃kvs k v,H2 a=some (.dK kvs)/\keyOf y=some k/\valV kvs k=some v/\∀H',Mu H2 a (.dK (dropK kvs k)) H'->Q v H'
section
variable{prog:Program}{w:World}{A:Around}{s:Shared}
theorem cl_loop{elt target iter:PySem.Expr}{ifs:List PySem.Expr}{scope:Scope}{pos:Pos}{it acc:Value}{env:Env}{R:Result->Shared->Prop}(I:Nat->Shared->Prop)
 (turn:∀n s,I n s->wpAny (model prog w) A (pyNext it) (λr s₁=>match r with
  | none=>R (.ok .next) s₁
  | some v=>wpAny (model prog w) A (letOwnedTupleGo target it v) (λ_ s₀=>wpAny (model prog w) A (assign target env v) (λ_ s₂=>
   wpAny (model prog w) A (forIn ifs true λc r=>if r=true then do let ok <-isTrue c env (eval c env);pure (ForInStep.yield ok) else pure (ForInStep.yield r)) (λok s₃=>if ok=true then wpAny (model prog w) A (eval elt env) (λx s₄=>
    wpAny (model prog w) A (call (.builtin "list.append") [acc,x]) (λ_ s₅=>∃m,m<n/\I m s₅) (notedBy (model prog w) A env λe s'=>R (.error e) s') s₄) (notedBy (model prog w) A env λe s'=>R (.error e) s') s₃
    else ∃m,m<n/\I m s₃) (notedBy (model prog w) A env λe s'=>R (.error e) s') s₂)
   (notedBy (model prog w) A env λe s'=>R (.error e) s') s₀) (notedBy (model prog w) A env λe s'=>R (.error e) s') s₁) (notedBy (model prog w) A env λe s'=>R (.error e) s') s)
 (n:Nat) (h:I n s):codeAny (model prog w) A (.compLoop (.ListComp elt [⟨target,iter,ifs,0⟩] scope pos) 0 it acc env) R s:=by
 refine codeAny_loop rfl I (λn s hI=>?_) n h
 refine(show wpAny _ A ((compTurn (.ListComp elt [⟨target,iter,ifs,0⟩] scope pos) 0 it acc env).onRaise _) _ _ s from wpAny_noted ?_)
 rw [compTurn_list]
 refine wpAny_bind (wpAny_standAt (wpAny_bind (wpAny_mono (turn n s hI) (λr s1 q1=>?_) λ_ _ z=>z)))
 cases r with
 | none=>exact wpAny_pure q1
 | some v=>
  refine wpAny_bind (wpAny_mono q1 (λ_ s2 q2=>wpAny_bind (wpAny_mono q2 (λ_ s3 q3=>wpAny_bind (wpAny_mono q3 (λb s4 q4=>?_) λ_ _ z=>z)) λ_ _ z=>z)) λ_ _ z=>z)
  cases b with
  | false=>exact wpAny_pure ⟨rfl,q4⟩
  | true=>exact wpAny_bind (wpAny_bind (wpAny_mono q4 (λx s5 q5=>wpAny_bind (wpAny_mono q5 (λ_ s6 q6=>wpAny_pure (wpAny_pure ⟨rfl,q6⟩)) λ_ _ z=>z)) λ_ _ z=>z))
end
structure CompScopeN(X:Cx)(scope:Scope)(cl:List (Str×Addr))(N:List Str)(cap:List Nat)(k:Nat):Prop where
 kind:scope.kind= .function
 clos:X.Ok->closureFor scope X.env=pure cl
 ncell:∀y∈scope.names,y.2≠.cell
 names:∀y∈scope.names,y.2= .local->scope.names.lookup y.1=some .local
 nd:N.Nodup
 has:∀y,((relabel scope X.env).names.lookup y=some .cell\/(relabel scope X.env).names.lookup y=some .free)->∃c,cl.lookup y=some c
 sub:X.Ok->∀y c,cl.lookup y=some c->X.env.cells.lookup y=some c
 len:N.length=cap.length+k
 cap:∀(j i:Nat) (y:Str),N[j+k]? =some y->cap[j]? =some i->X.N[i]? =some y/\Vis X.env.scope y/\X.env.kindOf y≠some .local/\((relabel scope X.env).names.lookup y=some .cell\/(relabel scope X.env).names.lookup y=some .free)
def frameN(k:Nat)(σ:St)(cap:List Nat):St:=List.replicate k none++capOf σ cap
def tCompN(k:Nat)(cap:List Nat)(wi:TI)(g:TG)(tc:TT)(te:TE):TE:=λσ H Q=>wi σ H λJ H1=>∀D,H1 D=none->∃W:Nat->Nat->St->Hp->Prop,(∃m,W 0 m (frameN k σ cap) (upd H1 D (.lst [])))/\∀i m σ1 H,W i m σ1 H->
 (J.stop i H/\Q (.ref D) H)\/(J.go i H/\∀x H',J.yld i H x H'->g x σ1 H' λσ2 H1=>tc σ2 H1 λb H2=>if b=true then te σ2 H2 λv H3=>∃ys,H3 D=some (.lst ys)/\ys.length<sizeLine/\∃m',m'<m/\W (i+1) m' σ2 (upd H3 D (.lst (ys++[v])))
  else ∃m',m'<m/\W (i+1) m' σ2 H2)
section
variable{X:Cx}{pins:List (Addr×Obj)}{σ:St}{H:Hp}{s:Shared}{scope:Scope}{cl:List (Str×Addr)}{N:List Str}{cap:List Nat}{k:Nat}
theorem Inv.enterN{fp:List Addr}{h':Heap}{tk:Nat}(S:CompScopeN X scope cl N cap k)(I:Inv X pins σ H s)(f:∀b∈fp,FpOk X pins H b/\b<s.heap.objs.size)(hn:h'.Ns s.heap.objs.size λ_=>none)
 (kp:∀b o,s.heap.get? b=some o->h'.get? b=some o):Inv (X.comp scope cl N s.heap.objs.size fp s H) [] (frameN k σ cap) H {s with heap:=h',toks:=tk}:=by
 have nC:∀b o,s.heap.get? b=some o->b≠s.heap.objs.size:=λb o e=>Nat.ne_of_lt (Heap.lt_size e)
 have ok:=I.ok
 have cellOut:∀y c,cl.lookup y=some c->∃v,s.heap.IsCell c v:=λy c e=>I.cell y c (S.sub I.ok y c e)
 refine⟨⟨ok.mod,?_,ok.glob,ok.blt,Nat.le_refl _,λx y c a b=>ok.inj x y c (S.sub I.ok x c a) (S.sub I.ok y c b),S.has,λ_ _ z=>absurd z Bool.false_ne_true,ok.hd,ok.frames,.inl rfl,λb hb=>⟨Nat.ne_of_lt (f b hb).2,λy c e=>(f b hb).1.2.2.2.2.1 y c (S.sub I.ok y c e)⟩,I.bs,Nat.le_trans ok.bsz I.sz,λb o e hb=>?_,λb hb z=>?_,I.stack,I.stkFree⟩,
  rfl,I.bare,Un.kept kp,⟨_,hn,λi y v a b c=>?_⟩,λy c e=>?_,I.hok.fresh (Nat.le_refl _),λy c e=>I.freeC y c (S.sub I.ok y c e),λp hp=>by simp at hp,I.hok.kept kp,?_⟩
 ·exact S.kind
 ·have:=(f b hb).1.2.2.2.1
  rcases this with z | z
  ·exact ok.noex b o e z
  ·have l1:=Heap.lt_size e
   exact absurd (Nat.lt_of_lt_of_le l1 (Nat.le_trans ok.bsz z)) (Nat.lt_irrefl _)
 ·rcases List.mem_cons.mp (I.stkSub b z) with q | q
  ·exact(f b hb).1.2.1 q
  ·exact(f b hb).1.2.2.1 q
 ·unfold frameN at b
  by_cases hik:i<k
  ·rw [List.getElem?_append_left (by rw [List.length_replicate];exact hik)] at b
   simp [hik] at b
  ·obtain⟨j,rfl⟩:∃j,i=j+k:=⟨i-k,by omega⟩
   rw [List.getElem?_append_right (by rw [List.length_replicate];omega),List.length_replicate,Nat.add_sub_cancel] at b
   unfold capOf at b
   rw [List.getElem?_map] at b
   cases e:cap[j]? with
   | none=>rw [e] at b;cases b
   | some i=>
    rw [e] at b
    have b:(σ[i]?).join=some v:=by simpa using b
    obtain⟨p1,p2,p3,p4⟩:=S.cap j i y a e
    have b':σ[i]? =some (some v):=by
     cases q:σ[i]? with
     | none=>rw [q] at b;cases b
     | some w=>rw [q] at b;exact congrArg some b
    obtain⟨m,hm,hl⟩:=I.loc
    obtain⟨u,ru,l⟩:=hl i y v p1 b' p2
    refine⟨u,ru,.inr ⟨p4,?_⟩⟩
    rcases l with l | ⟨l,c0,e0,o',q',hd'⟩
    ·exact absurd l.1 p3
    ·obtain⟨c,ec⟩:=S.has y p4
     have:=S.sub I.ok y c ec
     rw [e0] at this
     cases this
     exact⟨c0,ec,o',kp _ _ q',hd'⟩
 ·obtain⟨v,o,q,hd⟩:=cellOut y c e
  exact⟨v,o,kp _ _ q,hd⟩
 ·show(frameN k σ cap).length=N.length
  unfold frameN capOf
  rw [S.len,List.length_append,List.length_replicate,List.length_map]
  omega
end
section
variable{X:Cx}{scope:Scope}{cl:List (Str×Addr)}{N:List Str}{cap:List Nat}{k:Nat}{tg:Expr}{g:TG}{pos:Pos}{iter elt:Expr}{ifs:List Expr}{wi:TI}{tc:TT}{te:TE}
theorem comp_coreN{use:Option (Value->Sem Unit)}{Qv:Value->Shared->Prop}{pins:List (Addr×Obj)}{s:Shared}{σ:St}{H:Hp}{Q:VK}{pos':Pos}(S:CompScopeN X scope cl N cap k)(hc:X.calm=true)(hi:PI X tg iter wi)(hg:∀C fp s₀ H₀,PG (X.comp scope cl N C fp s₀ H₀) tg g)
 (ht:∀C fp s₀ H₀,PTs (X.comp scope cl N C fp s₀ H₀) ifs tc) (he:∀C fp s₀ H₀,PE (X.comp scope cl N C fp s₀ H₀) elt te) (hs:∀x,foldedSetIterable iter X.env x=pure x)
 (I:Inv X pins σ H s) (h:tCompN k cap wi g tc te σ H Q)
 (fin:∀(D C:Addr) (H6:Hp) (s6:Shared) (m:Str->Option Value),Inv X pins σ H6 s6->FpOk X pins H6 C->s6.heap.Ns C m->Q (.ref D) H6->compPost (model X.prog X.w) X.A X.xe use Qv (.ref D) C (.ok .next) s6):
 wpAny (model X.prog X.w) X.A (comprehension (.ListComp elt [⟨tg,iter,ifs,0⟩] scope pos) scope X.env pos' (newList []) false (eval iter X.env) use) Qv X.xe s:=by
 refine wpAny_comprehension_free (use:=use) rfl hs (S.clos I.ok) S.kind S.names (thn (hi pins s σ H _ I h) λv s1 h1=>thn h1 λitv s2 h2=>?_)
 obtain⟨it,fp,tn,J,H2,rfl,I2,T,st2,f2,q⟩:=h2
 obtain⟨W,⟨m0,w0⟩,turn⟩:=q s2.heap.objs.size (I2.hok.fresh (Nat.le_refl _))
 have I3:Inv X pins σ (upd H2 s2.heap.objs.size (.lst [])) {s2 with heap:=s2.heap.push {cls:=.type "list",dict:=none,data:=.seq ([]:List Value).toArray}}:=
  I2.laid (t':=s2.toks) (λb u e=>Heap.get?_push_of_some _ e) (Nat.le_refl _) ⟨Nat.zero_le _,[],0,.nil,Heap.get?_push_size _ rfl⟩
 refine wpAny_newObj_type (wpAny_newFunctionEnv S.ncell (by intro y hy;simp at hy) (λh4 hns hsb=>?_) S.kind)
 generalize hs3:({s2 with heap:=s2.heap.push {cls:=.type "list",dict:=none,data:=.seq ([]:List Value).toArray}}:Shared)=s3 at I3 hns hsb⊢
 have f3:∀b∈fp,FpOk X pins (upd H2 s2.heap.objs.size (.lst [])) b/\b<s3.heap.objs.size:=λb hb=>by
  obtain⟨o,ho,_⟩:=T.obj _ _ st2 b hb
  have l1:b<s2.heap.objs.size:=Heap.lt_size ho
  refine⟨⟨?_,(f2 b hb).2⟩,?_⟩
  ·rw [upd_ne (Nat.ne_of_lt l1)];exact(f2 b hb).1
  ·rw [<-hs3,Heap.size_push];exact Nat.lt_succ_of_lt l1
 have nsN:h4.Ns s3.heap.objs.size λ_=>none:=by
  have:=hns
  simpa using this
 have keep4:∀b o,s3.heap.get? b=some o->h4.get? b=some o:=λb o e=>(hsb.2 b (Nat.ne_of_lt (Heap.lt_size e))).trans (Heap.get?_push_of_some _ e)
 have Ic:=I3.enterN (tk:=s3.toks+([]:List (Str×Value)).length) S f3 nsN keep4
 have st4:tn 0 h4:=T.keep _ _ _ st2 λb hb o e=>keep4 b o (by rw [<-hs3];exact Heap.get?_push_of_some _ e)
 have stat:∀{H':Hp},(∀b∈fp,H' b=none)->∀b∈fp,FpOk (X.comp scope cl N s3.heap.objs.size fp s3 (upd H2 s2.heap.objs.size (.lst []))) [] H' b:=λhn b hb=>
  ⟨hn b hb,Nat.ne_of_lt (f3 b hb).2,λz=>(List.mem_cons.mp (I3.stkSub b z)).elim (λq=>(f3 b hb).1.2.1 q) λq=>(f3 b hb).1.2.2.1 q,.inl hb,λy c e=>(f3 b hb).1.2.2.2.2.1 y c (S.sub I.ok y c e),λp hp=>by simp at hp⟩
 have out:∀{σx:St} {H6:Hp} {s6:Shared},Inv (X.comp scope cl N s3.heap.objs.size fp s3 (upd H2 s2.heap.objs.size (.lst []))) [] σx H6 s6->Q (.ref s2.heap.objs.size) H6->
  compPost (model X.prog X.w) X.A X.xe use Qv (Value.ref s2.heap.objs.size) s3.heap.objs.size (.ok .next) s6:=λ{σx H6 s6} I6 q6=>by
  obtain⟨m,hm,_⟩:=I6.loc
  have Io:Inv X pins σ H6 s6:=I3.call' I6.os I6.base I6.hok I6.bare λb hb=>⟨(f3 b hb).1.2.2.2.1,(f3 b hb).1.2.1,(f3 b hb).1.2.2.2.2.1,(f3 b hb).1.2.2.2.2.2⟩
  exact fin _ _ _ _ m Io (I3.fpOk (b:=s3.heap.objs.size) (H':=H6) (Nat.le_refl _) I6.free) hm q6
 have loop:codeAny (model X.prog X.w) X.A (.compLoop (.ListComp elt [⟨tg,iter,ifs,0⟩] scope pos) 0 (.ref it) (.ref s2.heap.objs.size) (compEnvC scope cl s3.heap.objs.size X.env))
  (compPost (model X.prog X.w) X.A X.xe use Qv (Value.ref s2.heap.objs.size) s3.heap.objs.size) {s3 with heap:=h4,toks:=s3.toks+([]:List (Str×Value)).length}:=by
  refine cl_loop (λn s'=>∃i σx H',Inv (X.comp scope cl N s3.heap.objs.size fp s3 (upd H2 s2.heap.objs.size (.lst []))) [] σx H' s'/\tn i s'.heap/\(∀b∈fp,H' b=none)/\W i n σx H') ?_ m0 ⟨0,_,_,Ic,st4,λb hb=>(f3 b hb).1.1,w0⟩
  rintro n s5 ⟨i,σx,H5,I5,st5,fr5,w5⟩
  rcases turn i n σx H5 w5 with ⟨stop,qd⟩ | ⟨go,step⟩
  ·refine wpAny_mono (T.done (X.comp scope cl N s3.heap.objs.size fp s3 (upd H2 s2.heap.objs.size (.lst []))) rfl rfl rfl hc i [] s5 _ H5 (λ_ _=>False) I5 (stat fr5) st5 stop) (λr s6 ⟨hr,I6⟩=>?_) λ_ _ z=>z.elim
   subst hr
   exact out I6 qd
  ·refine wpAny_mono (T.item (X.comp scope cl N s3.heap.objs.size fp s3 (upd H2 s2.heap.objs.size (.lst []))) rfl rfl rfl hc i [] s5 _ H5 (λ_ _=>False) I5 (stat fr5) st5 go) (λr s6 ⟨u,hr,h6⟩=>?_) λ_ _ z=>z.elim
   subst hr
   refine wpAny_mono h6 (λ_ s7 ⟨v,H7,I7,r7,y7,st7,fr7⟩=>?_) λ_ _ z=>z.elim
   have I7':=I7.pinned (stat fr7) (T.obj _ _ st7)
   have again:∀{σ9:St} {H9:Hp} {s9:Shared},Inv (X.comp scope cl N s3.heap.objs.size fp s3 (upd H2 s2.heap.objs.size (.lst []))) ([]++pinsAt fp s7.heap) σ9 H9 s9->(∃m',m'<n/\W (i+1) m' σ9 H9)->
    ∃m',m'<n/\∃i σx H',Inv (X.comp scope cl N s3.heap.objs.size fp s3 (upd H2 s2.heap.objs.size (.lst []))) [] σx H' s9/\tn i s9.heap/\(∀b∈fp,H' b=none)/\W i m' σx H':=λ{σ9 H9 s9} I9 ⟨m',lt,w'⟩=>by
    refine⟨m',lt,i+1,σ9,H9,I9.unpinned,T.keep _ _ _ st7 λb hb o e=>(I9.pin (b,o) (List.mem_append_right _ (List.mem_append_right _ (mem_pinsAt hb e)))).1,λb hb=>?_,w'⟩
    obtain⟨o,e,d⟩:=T.obj _ _ st7 b hb
    exact(I9.pin (b,o) (List.mem_append_right _ (List.mem_append_right _ (mem_pinsAt hb e)))).2.1
   refine wpAny_mono (hg _ _ _ _ _ s7 σx H7 v u _ I7' r7 (step v H7 y7)) (λ_ s8 ⟨σ8,H8,I8,q8⟩=>?_) λ_ _ z=>z.elim
   refine wpAny_mono (ht _ _ _ _ _ s8 _ H8 _ I8 q8) (λb s9 ⟨H9,I9,q9⟩=>?_) λ_ _ z=>z.elim
   cases b with
   | false=>exact again I9 q9
   | true=>
    refine wpAny_mono (he _ _ _ _ _ s9 _ H9 _ I9 q9) (λu' s10 ⟨v',H10,I10,r10,ys,hD,hz,q10⟩=>?_) λ_ _ z=>z.elim
    refine wpAny_mono (mt_append (X:=X.comp scope cl N s3.heap.objs.size fp s3 (upd H2 s2.heap.objs.size (.lst []))) _ s10 _ H10 (.ref s2.heap.objs.size) [v'] (.ref s2.heap.objs.size) [u'] (λ_ H'=>∃m',m'<n/\W (i+1) m' σ8 H') I10 rfl (.cons r10 .nil) ⟨_,ys,v',rfl,rfl,hD,hz,q10⟩) (λ_ s11 ⟨_,H11,I11,_,q11⟩=>again I11 q11) λ_ _ z=>z.elim
 exact codeAny_compStart_list loop (T.self _ 0 _ _ _ st4 loop)
theorem pe_compN(S:CompScopeN X scope cl N cap k)(hc:X.calm=true)(hi:PI X tg iter wi)(hg:∀C fp s₀ H₀,PG (X.comp scope cl N C fp s₀ H₀) tg g)
 (ht:∀C fp s₀ H₀,PTs (X.comp scope cl N C fp s₀ H₀) ifs tc) (he:∀C fp s₀ H₀,PE (X.comp scope cl N C fp s₀ H₀) elt te) (hs:∀x,foldedSetIterable iter X.env x=pure x:=by intro _;rfl):
 PE X (.ListComp elt [⟨tg,iter,ifs,0⟩] scope pos) (tCompN k cap wi g tc te):=by
 intro pins s σ H Q I h
 rw [eval_ListComp]
 refine comp_coreN S hc hi hg ht he hs I h λD C H6 s6 m Io Cf hm q6=>?_
 exact⟨m,hm,λh' sb=>⟨.ref D,H6,Io.turned (it:=C) (t':=s6.toks) (λb o n e=>(sb.2 b n).trans e) Cf.1 Cf.2.1 Cf.2.2.2.1 Cf.2.2.2.2.1 Cf.2.2.2.2.2,rfl,q6⟩⟩
theorem ps_setCN{i:Nat}{y:Str}{py spos:Pos}(hN:X.N.Nodup)(hiy:X.N[i]? =some y)(hy:Loc X.env.scope y)(S:CompScopeN X scope cl N cap k)(hc:X.calm=true)(hi:PI X tg iter wi)(hg:∀C fp s₀ H₀,PG (X.comp scope cl N C fp s₀ H₀) tg g)
 (ht:∀C fp s₀ H₀,PTs (X.comp scope cl N C fp s₀ H₀) ifs tc) (he:∀C fp s₀ H₀,PE (X.comp scope cl N C fp s₀ H₀) elt te) (hs:∀x,foldedSetIterable iter X.env x=pure x:=by intro _;rfl)
 (hsw:swapsWith (.ListComp elt [⟨tg,iter,ifs,0⟩] scope pos) (some (.Name y py)) spos.line X.env=pure true:=by rfl)
 (hf:X.fn y=true\/X.env.scope.names.lookup y=some .local:=by first | exact .inl rfl | exact .inr rfl | assumption):
 PS X (.Assign [.Name y py] (.ListComp elt [⟨tg,iter,ifs,0⟩] scope pos) spos) (tAsg (tCompN k cap wi g tc te) (gName i)):=by
 intro pins s σ H D I h
 rw [exec_Assign_Name_used _ _ _ _ hsw]
 refine wpAny_bind (wpAny_standAt (wpAny_bind ?_))
 show wpAny _ X.A (do let _ <-comprehension (.ListComp elt [⟨tg,iter,ifs,0⟩] scope pos) scope X.env _ (newList []) false (eval iter X.env) (some (assign (.Name y py) X.env))) _ _ s
 refine wpAny_bind (wpAny_mono (comp_coreN (use:=some (assign (.Name y py) X.env)) (Qv:=λ_ s'=>SP X pins D .next s') S hc hi hg ht he hs I h λD' C H6 s6 m Io Cf hm q6=>?_) (λ_ s' hq=>wpAny_pure (wpAny_pure hq)) λ_ _ e=>e)
 show wpAny _ X.A (assign (.Name y py) X.env (.ref D')) _ _ _
 refine wpAny_assign_Name (store_ok2 (v:=.ref D') Io hN hiy hy rfl (λs7 I7 hsb=>?_) hf)
 obtain⟨a,sb,ha⟩:=hsb
 have hne:C≠a:=λe=>ha.elim (λq=>Cf.2.1 (e.trans q)) λq=>Cf.2.2.2.2.1 _ _ q e.symm
 refine⟨m,hm.at' λo e=>(sb.2 C hne).trans e,λh' sb'=>?_⟩
 exact⟨_,H6,I7.turned (it:=C) (t':=s7.toks) (λb o n e=>(sb'.2 b n).trans e) Cf.1 Cf.2.1 Cf.2.2.2.1 Cf.2.2.2.2.1 Cf.2.2.2.2.2,q6⟩
end
theorem comp_scopeN(k:Nat){X:Cx}{scope:Scope}{N:List Str}{cap:List Nat}(hk:scope.kind= .function)(h1:scope.names.all (λy=>y.2 != .cell)=true)(h2:scope.names.all (λy=>y.2 != .local || scope.names.lookup y.1==some .local)=true)
 (h3:scope.names.all (λy=>y.2 != .free || X.env.scope.names.lookup y.1==some .cell || X.env.scope.names.lookup y.1==some .free)=true)
 (nd:N.Nodup) (hl:N.length=cap.length+k) (hc:(N.drop k).map some=cap.map (λi=>X.N[i]?)) (hf:(N.drop k).all (λy=>scope.names.lookup y==some .free)=true):CompScopeN X scope (clOf X.env scope) N cap k:=by
 have fr:∀y:Str,(y,NameKind.free)∈scope.names->X.env.scope.names.lookup y=some .cell\/X.env.scope.names.lookup y=some .free:=λy hy=>by
  have:=List.all_eq_true.mp h3 _ hy
  simpa using this
 have nc:∀y∈scope.names,y.2≠.cell:=λy hy=>by
  have:=List.all_eq_true.mp h1 y hy
  simpa using this
 have fr2:X.Ok->∀y∈scope.names,y.2= .free->∃c,X.env.cells.lookup y.1=some c:=λok y hy e=>by
  obtain⟨n,k⟩:=y
  have e:k= .free:=e
  subst e
  exact ok.has n (fr n hy)
 refine⟨hk,λok=>closure_of (fr2 ok),nc,λy hy e=>?_,nd,λy hy=>?_,λok y c e=>cl_sub scope.names [] (fr2 ok) (λ_ _ z=>by simp at z) y c e,hl,λj i y a b=>?_⟩
 ·have:=List.all_eq_true.mp h2 y hy
  simpa [e] using this
 ·have hm:(y,NameKind.free)∈scope.names:=by
   have:∃k',(k'=NameKind.cell\/k'=NameKind.free)/\(y,k')∈(relabel scope X.env).names:=by
    rcases hy with hy | hy
    ·exact⟨_,.inl rfl,lookup_mem hy⟩
    ·exact⟨_,.inr rfl,lookup_mem hy⟩
   obtain⟨k',hk',hm⟩:=this
   obtain⟨⟨n,k⟩,hz,e⟩:=List.mem_map.mp hm
   dsimp only at e
   split at e
   ·rename_i hcond
    obtain⟨rfl,rfl⟩:=Prod.mk.inj e
    simp only [Bool.and_eq_true] at hcond
    have:k= .free:=by simpa using hcond.1.1
    subst this
    exact hz
   ·obtain⟨rfl,rfl⟩:=Prod.mk.inj e
    rcases hk' with rfl | rfl
    ·exact absurd rfl (nc _ hz)
    ·exact hz
  have:=cl_has (env:=X.env) scope.names [] y (.inl hm)
  exact Option.isSome_iff_exists.mp this
 ·have hy:y∈N.drop k:=by
   refine List.mem_of_getElem? (i:=j) ?_
   rw [List.getElem?_drop,Nat.add_comm]
   exact a
  have e1:X.N[i]? =some y:=by
   have:=congrArg (λl=>l[j]?) hc
   simp only [List.getElem?_map,List.getElem?_drop,Nat.add_comm k j,a,b,Option.map_some] at this
   exact(Option.some.inj this).symm
  have e2:scope.names.lookup y=some .free:=by
   have:=List.all_eq_true.mp hf y hy
   simpa using this
  have e3:=fr y (lookup_mem e2)
  refine⟨e1,e3.elim (λz=>.inr (.inl z)) λz=>.inr (.inr z),?_,lookup_relabel_free e2⟩
  intro z
  have z:X.env.scope.names.lookup y=some .local:=z
  rcases e3 with e3 | e3<;>rw [e3] at z<;>cases z
def CompJ(J:It)(g:TG)(tc:TT)(te:TE)(cs:St)(H1:Hp)(Q:VK):Prop:=∀D,H1 D=none->∃W:Nat->Nat->St->Hp->Prop,(∃m,W 0 m cs (upd H1 D (.lst [])))/\∀i m σ1 H,W i m σ1 H->
 (J.stop i H/\Q (.ref D) H)\/(J.go i H/\∀x H',J.yld i H x H'->g x σ1 H' λσ2 H1=>tc σ2 H1 λb H2=>if b=true then te σ2 H2 λv H3=>∃ys,H3 D=some (.lst ys)/\ys.length<sizeLine/\∃m',m'<m/\W (i+1) m' σ2 (upd H3 D (.lst (ys++[v])))
  else ∃m',m'<m/\W (i+1) m' σ2 H2)
theorem tcomp_in{k:Nat}{cap:List Nat}{wi:TI}{g:TG}{tc:TT}{te:TE}{σ:St}{H:Hp}{Q:VK}(h:wi σ H λJ H1=>CompJ J g tc te (frameN k σ cap) H1 Q):tCompN k cap wi g tc te σ H Q:=h
def CW(xs:List V)(H1:Hp)(D:Addr)(Pv:Nat->List V->St->Hp->Prop)(i m:Nat)(σ1:St)(H:Hp):Prop:=m=xs.length-i/\i<=xs.length/\Same H1 H/\∃ys,H D=some (.lst ys)/\ys.length<=i/\Pv i ys σ1 H
def Put(xs:List V)(H1:Hp)(D:Addr)(Pv:Nat->List V->St->Hp->Prop)(i:Nat)(σ2:St)(v:V)(H3:Hp):Prop:=∃ys,H3 D=some (.lst ys)/\ys.length<sizeLine/\∃m',m'<xs.length-i/\CW xs H1 D Pv (i+1) m' σ2 (upd H3 D (.lst (ys++[v])))
def Skip(xs:List V)(H1:Hp)(D:Addr)(Pv:Nat->List V->St->Hp->Prop)(i:Nat)(σ2:St)(H2:Hp):Prop:=∃m',m'<xs.length-i/\CW xs H1 D Pv (i+1) m' σ2 H2
structure At(xs:List V)(H1:Hp)(D:Addr)(i:Nat)(ys:List V)(H:Hp):Prop where
 new:H1 D=none
 lt:i<xs.length
 sz:xs.length<sizeLine
 same:Same H1 H
 lst:H D=some (.lst ys)
 le:ys.length<=i
theorem At.put{xs:List V}{H1:Hp}{D:Addr}{i:Nat}{ys:List V}{H H4:Hp}{Pv:Nat->List V->St->Hp->Prop}{σ2:St}{v:V}(a:At xs H1 D i ys H)(g:Same H H4)(p:∀H5,Mu H4 D (.lst (ys++[v])) H5->Pv (i+1) (ys++[v]) σ2 H5):Put xs H1 D Pv i σ2 v H4:=
 ⟨ys,g _ _ a.lst,by have:=a.le;have:=a.lt;have:=a.sz;omega,xs.length-(i+1),by have:=a.lt;omega,rfl,a.lt,Mu.mk'.same (a.same.trans g) a.new,_,upd_same,by have:=a.le;rw [List.length_append,List.length_singleton];omega,p _ Mu.mk'⟩
theorem At.skip{xs:List V}{H1:Hp}{D:Addr}{i:Nat}{ys:List V}{H H4:Hp}{Pv:Nat->List V->St->Hp->Prop}{σ2:St}(a:At xs H1 D i ys H)(g:Same H H4)(p:Pv (i+1) ys σ2 H4):Skip xs H1 D Pv i σ2 H4:=
 ⟨xs.length-(i+1),by have:=a.lt;omega,rfl,a.lt,a.same.trans g,ys,g _ _ a.lst,Nat.le_succ_of_le a.le,p⟩
theorem compJ{J:It}{xs:List V}{ok:Hp->Prop}(O:Over J xs ok){g:TG}{tc:TT}{te:TE}{cs:St}{H1:Hp}{Q:VK}(hok:∀H,Same H1 H->ok H)(sz:xs.length<sizeLine)(Pv:Nat->List V->St->Hp->Prop)
 (h0:∀H',Same H1 H'->Pv 0 [] cs H')
 (hs:∀D i x ys σ1 H',xs[i]? =some x->At xs H1 D i ys H'->Pv i ys σ1 H'->g x σ1 H' λσ2 H2=>tc σ2 H2 λb H3=>if b=true then te σ2 H3 λv H4=>Put xs H1 D Pv i σ2 v H4 else Skip xs H1 D Pv i σ2 H3)
 (hd:∀D ys σ1 H',H1 D=none->Same H1 H'->H' D=some (.lst ys)->ys.length<=xs.length->Pv xs.length ys σ1 H'->Q (.ref D) H'):CompJ J g tc te cs H1 Q:=by
 intro D hD
 refine⟨CW xs H1 D Pv,⟨_,rfl,Nat.zero_le _,same_new hD _,[],upd_same,Nat.le_refl _,h0 _ (same_new hD _)⟩,?_⟩
 rintro i m σ1 H ⟨rfl,hi,sm,ys,hy,ly,p⟩
 by_cases hlt:i<xs.length
 ·refine .inr ⟨O.go i _ (hok _ sm) hlt,λx H' y=>?_⟩
  obtain⟨rfl,hx⟩:=O.yld i _ x H' (hok _ sm) hlt y
  exact hs D i x ys σ1 H' hx ⟨hD,hlt,sz,sm,hy,ly⟩ p
 ·have e:i=xs.length:=by omega
  subst e
  exact .inl ⟨O.stop _ _ (hok _ sm) (Nat.le_refl _),hd D ys σ1 _ hD sm hy ly p⟩
theorem compJ_list{K:PySem.W.Frag}{a:Addr}{xs:List V}{g:TG}{tc:TT}{te:TE}{cs:St}{H1:Hp}{Q:VK}(ha:H1 a=some (.lst xs))(sz:xs.length<sizeLine)(Pv:Nat->List V->St->Hp->Prop)
 (h0:∀H',Same H1 H'->Pv 0 [] cs H')
 (hs:∀D i x ys σ1 H',xs[i]? =some x->At xs H1 D i ys H'->Pv i ys σ1 H'->g x σ1 H' λσ2 H2=>tc σ2 H2 λb H3=>if b=true then te σ2 H3 λv H4=>Put xs H1 D Pv i σ2 v H4 else Skip xs H1 D Pv i σ2 H3)
 (hd:∀D ys σ1 H',H1 D=none->Same H1 H'->H' D=some (.lst ys)->ys.length<=xs.length->Pv xs.length ys σ1 H'->Q (.ref D) H'):CompJ (Itl K a) g tc te cs H1 Q:=
 compJ over_list (λH g=>g _ _ ha) sz Pv h0 hs hd
end L2
namespace L2
open PySem PySem.Spec PyProof.Rows
def hide(D:Addr)(H:Hp):Hp:=λc=>if c=D then none else H c
theorem hide_of{D c:Addr}{H:Hp}{u:HO}(n:c≠D)(h:H c=some u):hide D H c=some u:=by unfold hide;rw [if_neg n];exact h
theorem hide_inv{D c:Addr}{H:Hp}{u:HO}(h:hide D H c=some u):c≠D/\H c=some u:=by
 unfold hide at h
 by_cases e:c=D
 ·rw [if_pos e] at h;cases h
 ·rw [if_neg e] at h;exact⟨e,h⟩
theorem hide_le{D:Addr}{H:Hp}:Same (hide D H) H:=λc u h=>(hide_inv h).2
theorem hide_same{D:Addr}{H H':Hp}(g:Same H H'):Same (hide D H) (hide D H'):=λc u h=>hide_of (hide_inv h).1 (g _ _ (hide_inv h).2)
theorem hide_mu{D:Addr}{H H':Hp}{o:HO}(mu:Mu H D o H'):Same (hide D H) (hide D H'):=λc u h=>hide_of (hide_inv h).1 (mu.old (hide_inv h).2 (hide_inv h).1)
theorem compJD{J:It}{xs:List V}{ok:Hp->Prop}(O:Over J xs ok){g:TG}{tc:TT}{te:TE}{cs:St}{H1:Hp}{Q:VK}(hok:∀H,Same H1 H->ok H)(sz:xs.length<sizeLine)(Pv:Addr->Nat->List V->St->Hp->Prop)
 (h0:∀D H',H1 D=none->Same H1 H'->H' D=some (.lst [])->Pv D 0 [] cs H')
 (hs:∀D i x ys σ1 H',xs[i]? =some x->At xs H1 D i ys H'->Pv D i ys σ1 H'->g x σ1 H' λσ2 H2=>tc σ2 H2 λb H3=>if b=true then te σ2 H3 λv H4=>Put xs H1 D (Pv D) i σ2 v H4 else Skip xs H1 D (Pv D) i σ2 H3)
 (hd:∀D ys σ1 H',H1 D=none->Same H1 H'->H' D=some (.lst ys)->ys.length<=xs.length->Pv D xs.length ys σ1 H'->Q (.ref D) H'):CompJ J g tc te cs H1 Q:=by
 intro D hD
 refine⟨CW xs H1 D (Pv D),⟨_,rfl,Nat.zero_le _,same_new hD _,[],upd_same,Nat.le_refl _,h0 D _ hD (same_new hD _) upd_same⟩,?_⟩
 rintro i m σ1 H ⟨rfl,hi,sm,ys,hy,ly,p⟩
 by_cases hlt:i<xs.length
 ·refine .inr ⟨O.go i _ (hok _ sm) hlt,λx H' y=>?_⟩
  obtain⟨rfl,hx⟩:=O.yld i _ x H' (hok _ sm) hlt y
  exact hs D i x ys σ1 H' hx ⟨hD,hlt,sz,sm,hy,ly⟩ p
 ·have e:i=xs.length:=by omega
  subst e
  exact .inl ⟨O.stop _ _ (hok _ sm) (Nat.le_refl _),hd D ys σ1 _ hD sm hy ly p⟩
theorem compJD_list{K:PySem.W.Frag}{a:Addr}{xs:List V}{g:TG}{tc:TT}{te:TE}{cs:St}{H1:Hp}{Q:VK}(ha:H1 a=some (.lst xs))(sz:xs.length<sizeLine)(Pv:Addr->Nat->List V->St->Hp->Prop)
 (h0:∀D H',H1 D=none->Same H1 H'->H' D=some (.lst [])->Pv D 0 [] cs H')
 (hs:∀D i x ys σ1 H',xs[i]? =some x->At xs H1 D i ys H'->Pv D i ys σ1 H'->g x σ1 H' λσ2 H2=>tc σ2 H2 λb H3=>if b=true then te σ2 H3 λv H4=>Put xs H1 D (Pv D) i σ2 v H4 else Skip xs H1 D (Pv D) i σ2 H3)
 (hd:∀D ys σ1 H',H1 D=none->Same H1 H'->H' D=some (.lst ys)->ys.length<=xs.length->Pv D xs.length ys σ1 H'->Q (.ref D) H'):CompJ (Itl K a) g tc te cs H1 Q:=
 compJD over_list (λH g=>g _ _ ha) sz Pv h0 hs hd
end L2
namespace L2
open PySem PySem.Spec PyProof.Rows
section
variable{X:Cx}
def rPopAtG:V->List V->Hp->VK->Prop:=λx vs H Q=>∃l xs i y,x= .ref l/\vs= [.int i]/\H l=some (.lst xs)/\0<=i/\i<xs.length/\xs.length<100000/\xs[i.toNat]? =some y/\∀H',Mu H l (.lst (xs.eraseIdx i.toNat)) H'->Q y H'
theorem mt_popAtG:MtR X "list.pop" rPopAtG:=by
 intro pins s σ H x vs v us Q I rx rv h
 obtain⟨l,xs,i,y,e1,e2,hH,h0,h1,h2,hy,q⟩:=h
 exact mt_popAt pins s σ H x vs v us Q I rx rv ⟨l,xs,i,i.toNat,y,e1,e2,hH,by omega,by omega,PySem.StrLaws.seqIndex_nonneg h0 h1,hy,q _ .mk'⟩
def tRng1(ta:TA):TE:=λσ H Q=>ta σ H λvs H1=>∃j:Int,vs= [.int j]/\∀p H',H1 p=none->Same H1 H'->H' p=some (.rng 0 j)->Q (.ref p) H'
def rListRng:List V->Hp->VK->Prop:=λxs H Q=>∃p,∃n:Nat,xs= [.ref p]/\H p=some (.rng 0 n)/\n<100000/\∀l H',H l=none->Same H H'->H' l=some (.lst (((List.range n).map λk=>((k:Nat):Int)).map V.int))->Q (.ref l) H'
def tRev(te:TE)(ts:TO):TE:=λσ H Q=>te σ H λx H1=>ts σ H1 λo H2=>o=some (-1)/\∃a xs,x= .ref a/\H2 a=some (.lst xs)/\∀p H',H2 p=none->Same H2 H'->H' p=some (.lst xs.reverse)->Q (.ref p) H'
end
end L2
namespace L2
open PySem PySem.Spec PyProof.Rows
section
variable{X:Cx}
def rMinL:List V->Hp->VK->Prop:=λxs H Q=>∃(p:Addr) (ns:List Int),xs= [.ref p]/\H p=some (.lst (ns.map V.int))/\0<ns.length/\∀M:Int,M∈ns->(∀a∈ns,M<=a)->Q (.int M) H
def rIdxG:V->List V->Hp->VK->Prop:=λx vs H Q=>∃(l:Addr) (ns:List Int) (k:Int),x= .ref l/\vs= [.int k]/\H l=some (.lst (ns.map V.int))/\k∈ns/\ns.length<100000/\Q (.int (ns.idxOf k:Nat)) H
end
end L2
namespace L2
open PySem PySem.Spec PyProof.Rows
theorem lookup_n{f:Str}:List.lookup f ([]:List (Str×V))=none:=rfl
theorem lookup_c{f g:Str}{v:V}{r:List (Str×V)}:List.lookup f ((g,v)::r)=if f=g then some v else List.lookup f r:=by
 by_cases h:f=g
 ·have hb:(f==g)=true:=beq_iff_eq.mpr h
  simp only [List.lookup,hb,if_pos h]
 ·have hb:(f==g)=false:=beq_eq_false_iff_ne.mpr h
  simp only [List.lookup,hb,if_neg h]
theorem putF_n{f:Str}{v:V}:putF f v []= [(f,v)]:=rfl
theorem putF_c{f g:Str}{v x:V}{r:List (Str×V)}:putF f v ((g,x)::r)=if g=f then (g,v)::r else (g,x)::putF f v r:=rfl
structure MethAt(K:PySem.W.Frag)(C:Addr)(m q:Str)(st:Stmt)(ps:List Str):Prop where
 ex:∃f fd,Meth K C m f/\Fun K m q st f fd/\Binds K fd ps []
structure OkM(P:Program)(w:World)(K:PySem.W.Frag)(mg:Str->Option Value)(base:Heap)(n:Nat)(C:Addr)(m:Str)(ps:List Str)(sp:Sp):Prop where
 ex:∃f fd,Meth K C m f/\Binds K fd ps []/\FnOk P w K mg base CX0 n f fd ps sp
 cl:Cls K C
structure MakeAt(K:PySem.W.Frag)(mg:Str->Option Value)(x:Str)(C:Addr)(q:Str)(st:Stmt)(ps:List Str):Prop where
 ex:∃f fd,mg x=some (.ref C)/\Mk K C f/\Fun K "__init__" q st f fd/\Binds K fd ps []
structure OkC(P:Program)(w:World)(K:PySem.W.Frag)(mg:Str->Option Value)(base:Heap)(n:Nat)(x:Str)(C:Addr)(ps:List Str)(sp:Sp):Prop where
 ex:∃f fd,mg x=some (.ref C)/\Mk K C f/\Binds K fd ps []/\FnOk P w K mg base CX0 n f fd ps sp
section
variable{P:Program}{w:World}{K:PySem.W.Frag}{mg:Str->Option Value}{base:Heap}{x m q:Str}{st:Stmt}{N ps:List Str}{k:Nat}{sp:Sp}{C:Addr}
theorem MethAt.ok(D:MethAt K C m q st ps)(cl:Cls K C)(S:FnScope N ps (defScope st))(len:∀vs H Q E,sp vs H Q E->vs.length=ps.length)
 (hbody:∀(f:Addr) (cdv:Value) (A:Around) (outer:List Env) (s:Shared) (H:Hp) (vs:List V) (Q:VK) (E:XK),Room k (A.deeper (envOfC q (defScope st) s.heap.objs.size f cdv))->sp vs H Q E->
  ∃t,PSs (cxOf CX0 P w K mg base N q (defScope st) f cdv A outer s H E).nox (defBody st) t/\t {nx:=λ_ H'=>Q .non H',rt:=Q} (start N vs) H):OkM P w K mg base (k+1) C m ps sp:=by
 obtain⟨f,fd,hm,F,hb⟩:=D.ex
 exact⟨⟨f,fd,hm,hb,F.ok S len (hbody f)⟩,cl⟩
theorem MakeAt.ok(D:MakeAt K mg x C q st ps)(S:FnScope N ps (defScope st))(len:∀vs H Q E,sp vs H Q E->vs.length=ps.length)
 (hbody:∀(f:Addr) (cdv:Value) (A:Around) (outer:List Env) (s:Shared) (H:Hp) (vs:List V) (Q:VK) (E:XK),Room k (A.deeper (envOfC q (defScope st) s.heap.objs.size f cdv))->sp vs H Q E->
  ∃t,PSs (cxOf CX0 P w K mg base N q (defScope st) f cdv A outer s H E).nox (defBody st) t/\t {nx:=λ_ H'=>Q .non H',rt:=Q} (start N vs) H):OkC P w K mg base (k+1) x C ps sp:=by
 obtain⟨f,fd,hg,hm,F,hb⟩:=D.ex
 exact⟨f,fd,hg,hm,hb,F.ok S len (hbody f)⟩
end
def tFldG(C:Addr)(f:Str)(ta:TE):TE:=λσ H Q=>ta σ H λx H1=>∃a dx fs v,x= .ref a/\H1 a=some (.ins C dx fs)/\fs.lookup f=some v/\Q v H1
def sFldG(C:Addr)(f:Str)(ta tv:TE):TS:=λD σ H=>tv σ H λy H1=>ta σ H1 λx H2=>∃a dx fs,x= .ref a/\H2 a=some (.ins C dx fs)/\fs.length<1000/\∀H',Mu H2 a (.ins C dx (putF f y fs)) H'->D.nx σ H'
def tMethG(C:Addr)(m:Str)(sp:Sp)(ta:TE)(t:TA):TE:=λσ H Q=>ta σ H λx H1=>∃a dx fs,x= .ref a/\H1 a=some (.ins C dx fs)/\fs.lookup m=none/\t σ H1 λvs H2=>sp (x::vs) H2 Q E0
def tMakeG(C:Addr)(sp:Sp)(t:TA):TE:=λσ H Q=>t σ H λvs H1=>∀x dx H',H1 x=none->H1 dx=none->Same H1 H'->H' x=some (.ins C dx [])->H' dx=some (.own x)->sp (.ref x::vs) H' (λv H2=>v= .non/\Q (.ref x) H2) E0
section
variable{X:Cx}{k n:Nat}{ps:List Str}{sp:Sp}{x m f:Str}{p pos pos' apos:Pos}{o e value:Expr}{es:List Expr}{t:TA}{ta tv:TE}{C:Addr}
theorem pe_fldG(c:Cls X.K C)(nn:NoAttr X.K C f)(he:PE X e ta)(hb:attributeBase e f X.env (eval e X.env)=eval e X.env:=by rfl):PE X (.Attribute e f pos) (tFldG C f ta):=by
 intro pins s σ H Q I h
 refine attr_of hb (thn (he pins s σ H _ I h) λu s1 ⟨x,H1,I1,rx,a,dx,fs,v,ex,ea,l,q⟩=>?_)
 subst ex
 obtain rfl:u=Value.ref a:=rx
 exact getattr_ok I1 ea c nn l λu' s2 I2 ru=>⟨v,H1,I2,ru,q⟩
theorem ps_fldG(c:Cls X.K C)(nn:NoAttr X.K C f)(ha:PE X o ta)(hv:PE X value tv)(hs:swapsWith value (some (.Attribute o f pos')) pos.line X.env=pure false:=by rfl):PS X (.Assign [.Attribute o f pos'] value pos) (sFldG C f ta tv):=by
 intro pins s σ H D I h
 refine plainObj_wpAny_Assign_Attribute (thn (hv pins s σ H _ I h) λu s1 ⟨y,H1,I1,ry,q⟩=>thn (ha pins s1 σ H1 _ I1 q) λov s2 ⟨x,H2,I2,rx,a,dx,fs,ex,ea,l,q2⟩=>?_) hs
 subst ex
 obtain rfl:ov=Value.ref a:=rx
 exact setattr_ok I2 ea c nn l ry λs3 I3=>⟨σ,_,I3,q2 _ .mk'⟩
theorem pe_methG{pl:Sem Bool}(G:OkM X.prog X.w X.K X.mg X.base k C m ps sp)(hr:Room n X.A)(he:PE X o ta)(ha:PA X (e::es) t)(hk:k<=n:=by omega)(hs:(e::es).all notStar=true:=by rfl)
 (ht:eval (.Call (.Attribute o m apos) (e::es) [] pos) X.env=(do
  let ov <-eval o X.env
  standAt apos.atName
  let (f,first) <-holding [ov] (getMethod ov m pl)
  callWith pos f first (backTo pos (starEach (e::es) X.env)) (backToKw pos (keywordEach [] X.env))):=by rfl):PE X (.Call (.Attribute o m apos) (e::es) [] pos) (tMethG C m sp ta t):=by
 obtain⟨⟨f,fd,hm,hb,F⟩,cl⟩:=G
 intro pins s σ H Q I h
 refine pe_meth (C:=C) (dvs:=[]) (E:=E0) he cl hm F (hr.mono hk) hb .nil pass0 ha (star_of (Bool.and_eq_true_iff.mp hs).1) (star_all (Bool.and_eq_true_iff.mp hs).2) ht pins s σ H Q I ?_
 have e:∀y,(λvs H1=>sp (y::(vs++[])) H1 Q E0)=λvs H1=>sp (y::vs) H1 Q E0:=λy=>by funext vs H1;rw [List.append_nil]
 show ta σ H λy H1=>∃a dx fs,y= .ref a/\H1 a=some (.ins C dx fs)/\fs.lookup m=none/\t σ H1 λvs H2=>sp (y::(vs++[])) H2 Q E0
 simp only [e]
 exact h
theorem pe_meth0G{pl:Sem Bool}(G:OkM X.prog X.w X.K X.mg X.base k C m ps sp)(hr:Room n X.A)(he:PE X o ta)(hk:k<=n:=by omega)
 (ht:eval (.Call (.Attribute o m apos) [] [] pos) X.env=(do
  let ov <-eval o X.env
  standAt apos.atName
  let (f,first) <-holding [ov] (getMethod ov m pl)
  callWith pos f first (backTo pos (starEach [] X.env)) (backToKw pos (keywordEach [] X.env))):=by rfl):PE X (.Call (.Attribute o m apos) [] [] pos) (tMethG C m sp ta tNil):=by
 obtain⟨⟨f,fd,hm,hb,F⟩,cl⟩:=G
 exact pe_meth0 (C:=C) (dvs:=[]) (E:=E0) he cl hm F (hr.mono hk) hb .nil pass0 ht
theorem make_any{H1:Hp}{Q:VK}{vs:List V}(h:∀x dx H',H1 x=none->H1 dx=none->Same H1 H'->H' x=some (.ins C dx [])->H' dx=some (.own x)->sp (.ref x::vs) H' (λv H2=>v= .non/\Q (.ref x) H2) E0):
 ∀x dx,H1 x=none->H1 dx=none->dx≠x->sp (.ref x::(vs++[])) (upd (upd H1 dx (.own x)) x (.ins C dx [])) (λv H2=>v= .non/\Q (.ref x) H2) E0:=λx dx hx hdx ne=>by
 rw [List.append_nil]
 exact h x dx _ hx hdx (λc u hc=>by rw [upd_ne (ne_of_none hc hx),upd_ne (ne_of_none hc hdx)];exact hc) upd_same (by rw [upd_ne ne,upd_same])
theorem pe_makeG(G:OkC X.prog X.w X.K X.mg X.base k x C ps sp)(hr:Room n X.A)(hg:Gl X x)(ha:PA X (e::es) t)(hk:k+1<=n:=by omega)(hdb:(x==("__debug__":Str))=false:=by decide)(hs:(e::es).all notStar=true:=by rfl):
 PE X (.Call (.Name x p) (e::es) [] pos) (tMakeG C sp t):=by
 obtain⟨f,fd,hm,M,hb,F⟩:=G.ex
 intro pins s σ H Q I h
 refine wpAny_Call_Name_kw (ld_glob I hg hm ?_ hdb)
 refine PySem.W.callWith_K (h₀:=X.base) I.ok.mod.kin M.kp (thn (ha pos pins s σ H _ I h) λus s1 ⟨vs,H1,I1,r,q⟩=>⟨I1.kIn,?_⟩) (star_of (Bool.and_eq_true_iff.mp hs).1) (star_all (Bool.and_eq_true_iff.mp hs).2)
 exact run_make (dvs:=[]) (ds:=[]) M F (hr.mono hk) hb .nil pass0 I1 r (make_any q)
end
end L2
namespace L2
open PySem PySem.Spec PyProof.Rows
theorem kv_get:∀{kvs:List (Key×V)} {vs:List (Key×Value)},KV kvs vs->∀{i:Nat} {k:Key} {x:V},kvs[i]? =some (k,x)->∃u,vs[i]? =some (k,u)/\RelV x u
 | [],_,_,i,k,x,e=>by simp at e
 | p::kvs,[],r,i,k,x,e=>by cases r
 | p::kvs,(k',u)::vs,r,i,k,x,e=>by
  cases r with
  | cons h r=>
   cases i with
   | zero=>
    simp at e
    subst e
    have h1:k=k':=h.1
    exact⟨u,by simp [h1],h.2⟩
   | succ i=>simpa using kv_get (kvs:=kvs) (vs:=vs) r (i:=i) (k:=k) (x:=x) (by simpa using e)
def Itv(d:Addr)(o:Obj)(kvs:List (Key×V)):It:=
 ⟨λi H=>i<kvs.length/\H d=some (.frz o (.dK kvs)),λi H x H'=>H'=H/\∃k,kvs[i]? =some (k,x),λi H=>kvs.length<=i/\H d=some (.frz o (.dK kvs))⟩
def Iti(d:Addr)(o:Obj)(kvs:List (Key×V)):It:=
 ⟨λi H=>i<kvs.length/\H d=some (.frz o (.dK kvs)),λi H v H'=>∃p k x,v= .ref p/\H p=none/\Same H H'/\H' p=some (.tup [kV k,x])/\kvs[i]? =some (k,x),λi H=>kvs.length<=i/\H d=some (.frz o (.dK kvs))⟩
theorem turn_vals{P:Program}{w:World}{K:PySem.W.Frag}{tg:Expr}(d it:Addr)(o:Obj)(kvs:List (Key×V))(vs:List (Key×Value))(ep:Nat)(hne:d≠it)(rel:KV kvs vs)(D0:∀h:Heap,h.get? d=some o->h.DictAt (mixKind P w) d vs ep):
 Turn P w K tg (Itv d o kvs) [it] it (λi h=>h.IsValIter it d i vs.length ep) where
 mem:=List.mem_singleton_self _
 obj:=λi h st b hb=>by
  obtain rfl:=List.mem_singleton.mp hb
  obtain⟨o,e,c,dd⟩:=st
  exact⟨o,e,λv z=>by rw [dd] at z;cases z⟩
 keep:=λi h h' st k=>st.at λo e=>k it (List.mem_singleton_self _) o e
 item:=by
  intro X hP hw hK hc i pins s σ H E I hf st hg
  subst hP hw hK
  obtain⟨hi,hd⟩:=hg
  obtain⟨f0,f1,f2,f3,f4,f5⟩:=hf it (List.mem_singleton_self _)
  obtain⟨ho,_⟩:=(show ObjOk X.prog X.w H s.heap d (.frz o (.dK kvs)) from I.hok d _ hd)
  obtain⟨u,hx,ru⟩:=kv_get rel (k:=kvs[i].1) (x:=kvs[i].2) (List.getElem?_eq_getElem hi)
  refine wpAny_pyNext_values_item st (D0 _ ho) hx λh' st' sb=>?_
  have I1:Inv X pins σ H {s with heap:=h'}:=I.turned (t':=s.toks) (λb o hb e=>(sb.2 b hb).trans e) f0 f1 f3 f4 f5
  obtain⟨oi,e,c,dd⟩:=id st'
  exact⟨u,rfl,go_of (s:={s with heap:=h'}) e c dd (by decide) ⟨kvs[i].2,H,I1,ru,⟨rfl,kvs[i].1,List.getElem?_eq_getElem hi⟩,st',λb hb=>(hf b hb).1⟩⟩
 done := by
   intro X hP hw hK hc i pins s σ H E I hf st hg
   subst hP hw hK
   obtain⟨hi,hd⟩:=hg
   obtain⟨f0,f1,f2,f3,f4,f5⟩:=hf it (List.mem_singleton_self _)
   obtain⟨ho,_⟩:=(show ObjOk X.prog X.w H s.heap d (.frz o (.dK kvs)) from I.hok d _ hd)
   have hl:kvs.length=vs.length:=rel.length
   exact wpAny_pyNext_values_end (I.ok.hd hc) st (D0 _ ho) (List.getElem?_eq_none (by omega)) λh' eb=>⟨rfl,I.turned (t':=s.toks) (λb o hb e=>eb b o hb e) f0 f1 f3 f4 f5⟩
 self:=λ_ _ _ _ _ st h=>wpAny_pyIter_valiter st h
theorem turn_items{P:Program}{w:World}{K:PySem.W.Frag}{elts:List Expr}{kk:Nat}{tpos:Pos}(d it:Addr)(o:Obj)(kvs:List (Key×V))(vs:List (Key×Value))(ep:Nat)(hne:d≠it)(rel:KV kvs vs)(D0:∀h:Heap,h.get? d=some o->h.DictAt (mixKind P w) d vs ep):
 Turn P w K (.Tuple elts kk tpos) (Iti d o kvs) [it] it (λi h=>∃ok ov,IsItemIter h it d i vs.length ep ok ov) where
 mem:=List.mem_singleton_self _
 obj:=λi h st b hb=>by
  obtain rfl:=List.mem_singleton.mp hb
  obtain⟨ok,ov,e⟩:=st
  exact⟨_,e,λv z=>by
   have z':Data.fields _=Data.cell v:=z
   cases z'⟩
 keep:=λi h h' ⟨ok,ov,e⟩ k=>⟨ok,ov,k it (List.mem_singleton_self _) _ e⟩
 item:=by
  intro X hP hw hK hc i pins s σ H E I hf st hg
  subst hP hw hK
  obtain⟨hi,hd⟩:=hg
  obtain⟨ok,ov,he⟩:=st
  obtain⟨ho,_⟩:=(show ObjOk X.prog X.w H s.heap d (.frz o (.dK kvs)) from I.hok d _ hd)
  obtain⟨u,hx,ru⟩:=kv_get rel (k:=kvs[i].1) (x:=kvs[i].2) (List.getElem?_eq_getElem hi)
  refine wpAny_pyNext_items_item he (D0 _ ho) hx λkey h' hkey hout hT hsz hk=>?_
  refine⟨_,rfl,wpAny_letOwnedTupleGo_items hout λh'' he'' hs=>?_⟩
  have helt:it<s.heap.objs.size:=Heap.lt_size he
  have I1:Inv X pins σ (upd H s.heap.objs.size (.tup [kV kvs[i].1,kvs[i].2])) {s with heap:=s.heap.push {cls:=.type "tuple",data:=.seq #[key,u]},toks:=s.toks}:=
   I.laid (λb o q=>Heap.get?_push_of_some _ q) (Nat.le_refl _) ⟨by show 2<=sizeLine;decide,[key,u],.cons (relV_key hkey) (.cons ru .nil),⟨_,Heap.get?_push_size _ rfl,rfl,_,rfl⟩⟩
  have hf':∀b∈[it],FpOk X pins (upd H s.heap.objs.size (.tup [kV kvs[i].1,kvs[i].2])) b:=λb hb=>by
   obtain rfl:=List.mem_singleton.mp hb
   refine⟨?_,(hf b (List.mem_singleton_self _)).2⟩
   rw [upd_ne (Nat.ne_of_lt helt)]
   exact(hf b (List.mem_singleton_self _)).1
  have I2:Inv X pins σ (upd H s.heap.objs.size (.tup [kV kvs[i].1,kvs[i].2])) {s with heap:=h'',toks:=s.toks}:=I1.turnedL (t':=s.toks) (λb o hb q=>by
   have n1:b≠it:=λz=>hb (by simp [z])
   refine(hs.2 b n1).trans ?_
   by_cases hbT:b=s.heap.objs.size
   ·subst hbT
    have q':(s.heap.push {cls:=.type "tuple",data:=.seq #[key,u]}).get? s.heap.objs.size=some o:=q
    rw [Heap.get?_push_size _ rfl] at q'
    cases q'
    exact hT
   ·have q':(s.heap.push {cls:=.type "tuple",data:=.seq #[key,u]}).get? b=some o:=q
    rw [Heap.get?_push_ne _ _ _ hbT] at q'
    exact hk b o n1 q') hf'
  exact⟨.ref s.heap.objs.size,_,I2,rfl,⟨_,kvs[i].1,kvs[i].2,rfl,I.hok.fresh (Nat.le_refl _),same_new (I.hok.fresh (Nat.le_refl _)) _,upd_same,List.getElem?_eq_getElem hi⟩,⟨_,_,he''⟩,λb hb=>(hf' b hb).1⟩
 done := by
   intro X hP hw hK hc i pins s σ H E I hf st hg
   subst hP hw hK
   obtain⟨hi,hd⟩:=hg
   obtain⟨ok,ov,he⟩:=st
   obtain⟨f0,f1,f2,f3,f4,f5⟩:=hf it (List.mem_singleton_self _)
   obtain⟨ho,_⟩:=(show ObjOk X.prog X.w H s.heap d (.frz o (.dK kvs)) from I.hok d _ hd)
   have hl:kvs.length=vs.length:=rel.length
   exact wpAny_pyNext_items_end (I.ok.hd hc) he (D0 _ ho) (List.getElem?_eq_none (by omega)) λh' eb=>⟨rfl,I.turned (t':=s.toks) (λb o hb e=>eb b o hb e) f0 f1 f3 f4 f5⟩
 self:=λ_ _ _ _ _ st h=>by
  obtain⟨ok,ov,he⟩:=st
  exact PySem.W.kcp_self he h
def iVals(nf:Addr->Prop)(tl:TE):TI:=λσ H R=>tl σ H λx H1=>∃d kvs,x= .ref d/\H1 d=some (.dK kvs)/\∀o,nf d->R (Itv d o kvs) (upd H1 d (.frz o (.dK kvs)))
def iItems(nf:Addr->Prop)(tl:TE):TI:=λσ H R=>tl σ H λx H1=>∃d kvs,x= .ref d/\H1 d=some (.dK kvs)/\∀o,nf d->R (Iti d o kvs) (upd H1 d (.frz o (.dK kvs)))
theorem pi_vals{X:Cx}{tg l:Expr}{tl:TE}{apos cpos:Pos}(hl:PE X l tl)(hbase:attributeBase l "values" X.env (eval l X.env)=eval l X.env:=by rfl)(hline:(apos.endLine==cpos.line)=true:=by rfl):
 PI X tg (.Call (.Attribute l "values" apos) [] [] cpos) (iVals (NoFz X) tl):=by
 intro pins s σ H R I h
 refine wpAny_Call_method0_late hbase hline (thn (hl pins s σ H _ I h) λv s1 ⟨x,H1,I1,r1,q1⟩=>?_)
 obtain⟨d,kvs,e,hd,q⟩:=q1
 subst e
 cases r1
 obtain⟨z1,z2,vs,rel,o,es,ep,ho,r⟩:=dk_of I1.hok hd
 have D0:∀h:Heap,h.get? d=some o->h.DictAt (mixKind X.prog X.w) d vs ep:=λh e=>⟨o,es,e,r⟩
 have nf:=I1.nofz hd
 have If:Inv X pins σ (upd H1 d (.frz o (.dK kvs))) s1:=I1.retag hd (λ_ z=>by cases z) nf (λ_ z=>by cases z) (λ_ z=>by cases z) ⟨ho,z1,z2,vs,rel,o,es,ep,ho,r⟩
 obtain⟨h1,h2⟩:=tyV_is (T:="dict") I1 (show RelV (.ref d) (.ref d) from rfl) (.inr (.inr (.inl ⟨rfl,.inl ⟨_,hd⟩⟩)))
 refine⟨"dict","dict.values",PySem.F.plainAttrs_dict,PySem.F.slot_dict_values,PySem.F.type_dict_values,h1,h2,Calls.callWith_builtin rfl (PySem.evalArgs_none ?_)⟩
 refine call_meetsIn PySem.F.slot_dict_values h1 PySem.F.entry_dict_values (PySem.F.args_dict_values_1 _) (meets_dict_values (mixKind X.prog X.w) d z2) ⟨⟨vs,(D0 _ ho).dictOf⟩,?_⟩
 have I2:=If.kept (t':=s1.toks) (h':=s1.heap.push {cls:=.type "dict_values",data:=.fields #[.ref d]}) λb o e=>Heap.get?_push_of_some _ e
 have ho2:(s1.heap.push {cls:=.type "dict_values",data:=.fields #[.ref d]}).get? d=some o:=Heap.get?_push_of_some _ ho
 refine wpAny_pyIter_values ⟨_,Heap.get?_push_size _ rfl,rfl,rfl⟩ (D0 _ ho2) ?_
 refine⟨_,[_],_,_,_,rfl,I2.kept (t':=s1.toks) λb o e=>Heap.get?_push_of_some _ e,turn_vals d _ o kvs vs ep (Nat.ne_of_lt (Heap.lt_size ho2)) rel D0,⟨_,Heap.get?_push_size _ rfl,rfl,rfl⟩,λb hb=>?_,q o nf⟩
 obtain rfl:=List.mem_singleton.mp hb
 exact I2.fpOk (Nat.le_refl _) (I2.hok.fresh (Nat.le_refl _))
theorem pi_items{X:Cx}{elts:List Expr}{kk:Nat}{tpos:Pos}{l:Expr}{tl:TE}{apos cpos:Pos}(hl:PE X l tl)(hbase:attributeBase l "items" X.env (eval l X.env)=eval l X.env:=by rfl)(hline:(apos.endLine==cpos.line)=true:=by rfl):
 PI X (.Tuple elts kk tpos) (.Call (.Attribute l "items" apos) [] [] cpos) (iItems (NoFz X) tl):=by
 intro pins s σ H R I h
 refine wpAny_Call_method0_late hbase hline (thn (hl pins s σ H _ I h) λv s1 ⟨x,H1,I1,r1,q1⟩=>?_)
 obtain⟨d,kvs,e,hd,q⟩:=q1
 subst e
 cases r1
 obtain⟨z1,z2,vs,rel,o,es,ep,ho,r⟩:=dk_of I1.hok hd
 have D0:∀h:Heap,h.get? d=some o->h.DictAt (mixKind X.prog X.w) d vs ep:=λh e=>⟨o,es,e,r⟩
 have nf:=I1.nofz hd
 have If:Inv X pins σ (upd H1 d (.frz o (.dK kvs))) s1:=I1.retag hd (λ_ z=>by cases z) nf (λ_ z=>by cases z) (λ_ z=>by cases z) ⟨ho,z1,z2,vs,rel,o,es,ep,ho,r⟩
 obtain⟨h1,h2⟩:=tyV_is (T:="dict") I1 (show RelV (.ref d) (.ref d) from rfl) (.inr (.inr (.inl ⟨rfl,.inl ⟨_,hd⟩⟩)))
 refine⟨"dict","dict.items",PySem.F.plainAttrs_dict,PySem.F.slot_dict_items,PySem.F.type_dict_items,h1,h2,Calls.callWith_builtin rfl (PySem.evalArgs_none ?_)⟩
 refine call_meetsIn PySem.F.slot_dict_items h1 PySem.F.entry_dict_items (PySem.F.args_dict_items_1 _) (meets_dict_items (mixKind X.prog X.w) d z2) ⟨⟨vs,(D0 _ ho).dictOf⟩,?_⟩
 have I2:=If.kept (t':=s1.toks) (h':=s1.heap.push {cls:=.type "dict_items",data:=.fields #[.ref d]}) λb o e=>Heap.get?_push_of_some _ e
 have ho2:(s1.heap.push {cls:=.type "dict_items",data:=.fields #[.ref d]}).get? d=some o:=Heap.get?_push_of_some _ ho
 refine wpAny_pyIter_items ⟨_,Heap.get?_push_size _ rfl,rfl,rfl⟩ (D0 _ ho2) ?_
 refine⟨_,[_],_,_,_,rfl,I2.kept (t':=s1.toks) λb o e=>Heap.get?_push_of_some _ e,turn_items d _ o kvs vs ep (Nat.ne_of_lt (Heap.lt_size ho2)) rel D0,⟨_,_,Heap.get?_push_size _ rfl⟩,λb hb=>?_,q o nf⟩
 obtain rfl:=List.mem_singleton.mp hb
 exact I2.fpOk (Nat.le_refl _) (I2.hok.fresh (Nat.le_refl _))
def tUnf(nf:Addr->Prop)(t:TE):TE:=λσ H Q=>t σ H λv H'=>∃d o kvs,nf d/\H' d=some (.frz o (.dK kvs))/\Q v (upd H' d (.dK kvs))
theorem pe_unf{X:Cx}{e:Expr}{t:TE}(h:PE X e t):PE X e (tUnf (NoFz X) t):=by
 intro pins s σ H Q I hw
 refine thn (h pins s σ H _ I hw) λu s1 ⟨v,H',I',r',d,o,kvs,nf,hd,q⟩=>?_
 obtain⟨_,z⟩:=(show ObjOk X.prog X.w H' s1.heap d (.frz o (.dK kvs)) from I'.hok d _ hd)
 refine⟨v,_,I'.retag (u':=.dK kvs) hd (λ_ z=>by cases z) nf (λ_ z=>by cases z) (λ_ z=>by cases z) ?_,r',q⟩
 exact z
def tDGetDG(td ty tx:TE):TE:=λσ H Q=>td σ H λx H1=>∃a,x= .ref a/\(∃kvs,H1 a=some (.dK kvs))/\ty σ H1 λy H2=>tx σ H2 λz H3=>∃kvs k,H3 a=some (.dK kvs)/\keyOf y=some k/\Q ((valV kvs k).getD z) H3
theorem pe_dgetDG{X:Cx}{o e f:Expr}{apos cpos:Pos}{td ty tx:TE}(hu:X.A.units+1<cLine)(ho:PE X o td)(he:PE X e ty)(hf:PE X f tx)(m:M2 X o "get" apos e f cpos):PE X (.Call (.Attribute o "get" apos) [e,f] [] cpos) (tDGetDG td ty tx):=by
 intro pins s σ H Q I h
 exact pe_dget2 hu ho.up he.up hf.up m pins s σ H Q I ⟨_,h,λx H1 ⟨a,e,⟨kvs,hk⟩,q⟩=>⟨a,e,.inl ⟨kvs,Rd.of hk⟩,_,q,λy H2 q=>⟨_,q,λz H3 ⟨kvs,k,h3,ek,q⟩=>⟨_,by rw [kV_of ek];exact DGet.k h3,q⟩⟩⟩⟩
end L2
namespace L2
open PySem PySem.Spec PyProof.Rows
theorem keys_miss:typeLookup (.type "list") "keys" =pure none:=by rw [typeLookup_type,builtinLookup_eq_fast];kernel_rfl
theorem keys_none{prog:Program}{w:World}{A:Around}{E:Value->Shared->Prop}{s:Shared}{a:Addr}{xs:Array Value}{k:Nat}{Q:Option Value->Shared->Prop}
 (hx:s.heap.get? a=some {cls:=.type "list",dict:=none,data:=.seq xs k,slots:= #[]}) (hA:A.handled=none)
 (h:∀h' tk,(∀b o,s.heap.get? b=some o->h'.get? b=some o)->Q none {s with heap:=h',toks:=tk}):wpAny (model prog w) A (getAttr? (.ref a) "keys") Q E s:=by
 obtain⟨hp,g,d,tk,os⟩:=s
 have hT:∀tk',(⟨hp,g,d,tk',os⟩:Shared).TypeIs (.ref a) "list":=λ_=>⟨_,hx,rfl⟩
 have f1:=sub_AttributeError
 have f3:=F.slot_list_getattribute.lookup
 have f4:=F.slot_list_getattribute.bind (.ref a)
 have f5:=am_list_getattr_none
 unfold getAttr? getAttrBy? getAttrBy
 repeat (any_goals (first | assumption | exact hT _ | ((with_reducible show wpAny _ _ (call (Value.builtin "list.__getattribute__") _ _) _ _ _);refine call_meets F.slot_list_getattribute (hT _) am_entry_list_getattribute (F.args_list_getattribute_2 _ _) (meets_getattribute_miss_list a xs k #[] "keys" _ keys_miss (by decide +kernel)) ⟨hx,hA,λh' tk' e hx'=>?_⟩) | wp_step))
 obtain⟨t',u',he⟩:=hx'.there
 show wpAny _ _ (getattributeRaised _ _ _ _ _ _ _) _ _ _
 unfold getattributeRaised
 have hE:∀tk',(⟨h',g,d,tk',os⟩:Shared).TypeIs (.ref e) "AttributeError":=λ_=>⟨_,he,rfl⟩
 repeat (any_goals (first | assumption | exact hE _ | exact h _ _ hx'.keeps | wp_step))
theorem entry_upd_loop:entryFor table "dict.update.loop" =some Builtin.«dict.update.loop»:=entryFor_of_tree (by kernel_rfl)
section
variable{prog:Program}{w:World}
inductive ItP (prog:Program) (w:World) (h:Heap) (d it:Addr):List Value->List (Key×Value)->Prop
 | nil:ItP prog w h d it [] []
 | cons {a:Addr} {o:Obj} {key v:Value} {k:Key} {n:Nat} {xs:List Value} {ps:List (Key×Value)}:h.get? a=some o->o.cls= .type "tuple"->o.data= .seq #[key,v] n->(mixKind prog w).is k key=true->a≠d->a≠it->ItP prog w h d it xs ps->ItP prog w h d it (.ref a::xs) ((k,v)::ps)
theorem ItP.keep{h h':Heap}{d it:Addr}(g:∀b o,b≠d->b≠it->h.get? b=some o->h'.get? b=some o):∀{xs:List Value} {ps:List (Key×Value)},ItP prog w h d it xs ps->ItP prog w h' d it xs ps
 | _,_,.nil=>.nil
 | _,_,.cons h1 h2 h3 h4 h5 h6 r=>.cons (g _ _ h5 h6 h1) h2 h3 h4 h5 h6 (r.keep g)
theorem upd_loop{A:Around}{R:Result->Shared->Prop}(hh:A.handled=none){d it l:Addr}{items:Array Value}(ndi:d≠it)(ndl:d≠l)(nil:it≠l):∀(rest:List (Key×Value)) (i:Nat) (s:Shared) (cur:List (Key×Value)),s.heap.IsListIter it l i->s.heap.IsList l items->ItP prog w s.heap d it (items.toList.drop i) rest->
 s.heap.DictOf (mixKind prog w) d cur->cur.length+rest.length<=1000->
 (∀h' tk,h'.DictOf (mixKind prog w) d (rest.foldl (λc p=>stored c p.1 p.2) cur)->(∀b o,b≠d->b≠it->s.heap.get? b=some o->h'.get? b=some o)->R (.ok (.ret .none)) {s with heap:=h',toks:=tk})->
 codeAny (model prog w) A (.builtin "dict.update.loop" ⟨[.ref d,.ref it,rawInt i,.none],[]⟩) R s
 | [],i,s,cur,hit,hl,hp,hm,hsz,hR=>by
  refine codeAny_builtin entry_upd_loop ?_
  unfold Builtin.«dict.update.loop»
  have e0:items[i]? =none:=by
   cases h:items.toList.drop i with
   | nil=>
    rw [Array.getElem?_eq_none]
    have:=List.drop_eq_nil_iff.mp h
    simpa using this
   | cons x xs=>rw [h] at hp;cases hp
  show wpAny _ _ (pyNext (.ref it) >>= _) _ _ s
  refine wpAny_bind (wpAny_pyNext_list_end hh hit hl e0 λh' eb=>?_)
  show wpAny _ _ (Builtin.Dict.addKeywords d [] >>= _) _ _ _
  refine wpAny_bind (wpAny_pure (wpAny_pure ?_))
  exact hR h' s.toks (hm.extBut eb ndi) λb o nb nb' e=>eb b o nb' e
 | (k,v)::rest,i,s,cur,hit,hl,hp,hm,hsz,hR=>by
  refine codeAny_builtin entry_upd_loop ?_
  unfold Builtin.«dict.update.loop»
  obtain⟨x,xs,ed⟩:∃x xs,items.toList.drop i=x::xs:=by
   cases h:items.toList.drop i with
   | nil=>rw [h] at hp;cases hp
   | cons x xs=>exact⟨x,xs,rfl⟩
  have hi:i<items.size:=by
   rcases Nat.lt_or_ge i items.size with h | h
   ·exact h
   ·rw [List.drop_of_length_le (by simpa using h)] at ed;cases ed
  have e0:items[i]? =some x:=by
   have:=congrArg (λl=>l[0]?) ed
   simp only [List.getElem?_drop,Nat.add_zero,List.getElem?_cons_zero,Array.getElem?_toList] at this
   exact this
  have e1:items.toList.drop (i+1)=xs:=by
   rw [<-List.drop_drop,ed];rfl
  rw [ed] at hp
  cases hp with
  | @cons a o key _ _ n _ _ h1 h2 h3 h4 h5 h6 r=>
  show wpAny _ _ (pyNext (.ref it) >>= _) _ _ s
  refine wpAny_bind (wpAny_pyNext_list_item hit hl e0 λh' hit' sb=>?_)
  have k1:∀b o,b≠it->s.heap.get? b=some o->h'.get? b=some o:=λb o nb e=>(sb.2 b nb).trans e
  have ha:=k1 a o h6 h1
  have hT:({s with heap:=h'}:Shared).TypeIs (.ref a) "tuple":=⟨o,ha,h2⟩
  refine wpAny_bind (wpAny_holding (wpAny_bind (wpAny_tryCatch ?_)))
  unfold Builtin.Dict.pairItems
  refine wpAny_bind (wpAny_typeOf hT ?_)
  rw [if_pos (by decide)]
  refine wpAny_bind (wpAny_seqItems (s:={s with heap:=h'}) ha h3 (wpAny_pure ?_))
  show wpAny _ _ (holding [key,v] (dictSet d key v)) _ _ _
  refine wpAny_holding (wpAny_dictSet_pairs h4 (hm.sameBut sb ndi) (λh'' hm'' sb''=>?_) (by unfold sizeLine;simp only [List.length_cons] at hsz;omega))
  have k2:∀b o,b≠d->b≠it->s.heap.get? b=some o->h''.get? b=some o:=λb o nb nb' e=>(sb''.2 b nb).trans (k1 b o nb' e)
  refine wpAny_pure ⟨Code.quiet_builtin _ (by decide +kernel),?_⟩
  have hlen:=stored_length_le cur k v
  have ih:=upd_loop hh ndi ndl nil rest (i+1) {s with heap:=h'',toks:=s.toks+1} (stored cur k v) (hit'.at λo e=>(sb''.2 it (Ne.symm ndi)).trans e) (hl.at λo e=>(sb''.2 l (Ne.symm ndl)).trans (k1 l o (Ne.symm nil) e)) (by rw [e1];exact r.keep k2) hm'' (by simp only [List.length_cons] at hsz;omega) λh3 tk hm3 k3=>hR h3 tk hm3 λb o nb nb' e=>k3 b o nb nb' (k2 b o nb nb' e)
  have er:rawInt ((i:Int)+1)=rawInt ((i+1:Nat):Int):=by rw [show((i+1:Nat):Int)=(i:Int)+1 by omega]
  show codeAny _ A (.builtin "dict.update.loop" ⟨[.ref d,.ref it,rawInt ((i:Int)+1),.none],[]⟩) R _
  rw [er]
  exact ih
end
inductive PrK (H:Hp):List V->List (Key×V)->Prop
 | nil:PrK H [] []
 | cons {a:Addr} {k:Key} {v:V} {xs:List V} {ps:List (Key×V)}:H a=some (.tup [kV k,v])->PrK H xs ps->PrK H (.ref a::xs) ((k,v)::ps)
def putAll(ps:List (Key×V)):List (Key×V):=ps.foldl (λc p=>putK c p.1 p.2) []
def rDictP:List V->Hp->VK->Prop:=λxs H Q=>∃(p:Addr) (ys:List V) (ps:List (Key×V)),xs= [.ref p]/\H p=some (.lst ys)/\PrK H ys ps/\ps.length<1000/\∀l H',H l=none->Same H H'->H' l=some (.dK (putAll ps))->Q (.ref l) H'
theorem prk_at{X:Cx}{pins:List (Addr×Obj)}{σ:St}{H:Hp}{s:Shared}(I:Inv X pins σ H s){d it:Addr}(hd:s.heap.objs.size<=d)(hi:s.heap.objs.size<=it):∀{ys:List V} {ps:List (Key×V)} {its:List Value},PrK H ys ps->Vals ys its->∃us,ItP X.prog X.w s.heap d it its us/\KV ps us
 | _,_,_,.nil,.nil=>⟨[],.nil,.nil⟩
 | _,_,_, @PrK.cons _ a k v xs ps h r,.cons rv rr=>by
  obtain⟨us,h1,h2⟩:=prk_at I hd hi r rr
  cases rv
  obtain⟨_,its,rt,o,e1,e2,n,e3⟩:=(show ObjOk X.prog X.w H s.heap a (.tup [kV k,v]) from I.hok a _ h)
  obtain⟨key,u,rfl,ra,rb⟩:=rt.two
  have lt:=Heap.lt_size e1
  exact⟨(k,u)::us,.cons e1 e2 e3 (kV_is ra) (Nat.ne_of_lt (Nat.lt_of_lt_of_le lt hd)) (Nat.ne_of_lt (Nat.lt_of_lt_of_le lt hi)) h1,.cons ⟨rfl,rb⟩ h2⟩
theorem kv_all:∀{ps:List (Key×V)} {us:List (Key×Value)} {cs:List (Key×V)} {ds:List (Key×Value)},KV ps us->KV cs ds->KV (ps.foldl (λc p=>putK c p.1 p.2) cs) (us.foldl (λc p=>stored c p.1 p.2) ds)
 | [],[],_,_,_,h=>h
 | [],_::_,_,_,h,_=>by cases h
 | _::_,[],_,_,h,_=>by cases h
 | (k,x)::ps,(k',u)::us,cs,ds,h,h'=>by
  cases h with
  | cons h1 h2=>
   have e:k=k':=h1.1
   subst e
   exact kv_all (ps:=ps) (us:=us) h2 (h'.put k h1.2)
theorem putAll_le(ps:List (Key×V)):(putAll ps).length<=ps.length:=by
 have:∀(ps:List (Key×V)) (c:List (Key×V)),(ps.foldl (λc p=>putK c p.1 p.2) c).length<=c.length+ps.length:=λps=>by
  induction ps with
  | nil=>intro c;exact Nat.le_refl _
  | cons p ps ih=>
   intro c
   have h1:=ih (putK c p.1 p.2)
   have h2:=length_putK c p.1 p.2
   rw [List.foldl_cons,List.length_cons]
   omega
 have:=this ps []
 unfold putAll
 simpa using this
theorem call_dictP{X:Cx}(hc:X.calm=true:=by rfl):CallR X (.type "dict") rDictP:=by
 intro pins s σ H xs us Q I r h
 obtain⟨p,ys,ps,rfl,hp,pk,hsz,q⟩:=h
 obtain⟨u,rfl,ru⟩:=vals1 r
 cases ru
 obtain⟨hz,its,n0,rv,e0⟩:=(show ObjOk X.prog X.w H s.heap p (.lst ys) from I.hok p _ hp)
 have hh:X.A.handled=none:=I.ok.hd hc
 refine callType_codes (Q₁:=λobj s₁=>obj= .ref s.heap.objs.size/\s₁={s with heap:=s.heap.push {cls:=.type "dict",data:=.dict #[]}}) F.kt_called_dict (F.kt_typeCall_dict_1 _) F.entry_dict_init (kt_code_dict_new _ ⟨rfl,rfl⟩) ?_
 rintro obj s₁ ⟨rfl,rfl⟩
 have hnew:(s.heap.push {cls:=.type "dict",data:=.dict #[]}).DictOf (mixKind X.prog X.w) s.heap.objs.size []:=Heap.DictOf.new s.heap
 have e1:(s.heap.push {cls:=.type "dict",data:=.dict #[]}).get? p=some {cls:=.type "list",data:=.seq its.toArray n0}:=Heap.get?_push_of_some _ e0
 have hT:({s with heap:=s.heap.push {cls:=.type "dict",data:=.dict #[]}}:Shared).TypeIs (.ref p) "list":=⟨_,e1,rfl⟩
 refine⟨hnew.typeIs,F.args_dict_init_2 _ _,?_⟩
 unfold Builtin.«dict.__init__»
 refine wpAny_bind ?_
 unfold Builtin.Dict.selfAndRest
 refine wpAny_bind (wpAny_notOrdered_dict hnew.typeIs ?_)
 show wpAny _ _ (pure (s.heap.objs.size,[Value.ref p])) _ _ _
 refine wpAny_pure ?_
 show wpAny _ _ (Builtin.Dict.updateFrom "dict.__init__" s.heap.objs.size (.ref p) [] .none) _ _ _
 unfold Builtin.Dict.updateFrom
 refine wpAny_bind (wpAny_typeOf hT ?_)
 rw [if_pos (by decide)]
 refine wpAny_bind (keys_none e1 hh λh1 tk1 k1=>?_)
 have ln:∀b o,s.heap.get? b=some o->h1.get? b=some o:=λb o e=>k1 _ _ (Heap.get?_push_of_some _ e)
 have hm1:h1.DictOf (mixKind X.prog X.w) s.heap.objs.size []:=by
  obtain⟨o,es,ep,ho,r⟩:=hnew
  exact⟨o,es,ep,k1 _ _ ho,r⟩
 have hl1:h1.IsList p its.toArray:=⟨_,k1 _ _ e1,rfl,n0,rfl⟩
 have lt1:s.heap.objs.size<h1.objs.size:=by
  obtain⟨o,es,ep,ho,r⟩:=hm1
  exact Heap.lt_size ho
 have ltp:p<s.heap.objs.size:=Heap.lt_size e0
 simp only [Option.isNone_none,if_true]
 refine wpAny_bind (wpAny_rule ?_)
 refine wpAny_bind (wpAny_pyIter_list (s:={s with heap:=h1,toks:=tk1}) hl1 ?_)
 refine wpAny_pure ⟨Code.quiet_builtin _ (by decide +kernel),?_⟩
 obtain⟨us,hI,hK⟩:=prk_at I (d:=s.heap.objs.size) (it:=h1.objs.size) (Nat.le_refl _) (Nat.le_of_lt lt1) pk rv
 have hlu:us.length=ps.length:=(KV.length hK).symm
 refine upd_loop (prog:=X.prog) (w:=X.w) (A:=X.A.in1) hh (l:=p) (Nat.ne_of_lt lt1) (Nat.ne_of_gt ltp) (Nat.ne_of_gt (Nat.lt_trans ltp lt1)) us 0 _ [] ⟨_,Heap.get?_push_size _ rfl,rfl,rfl⟩ (hl1.at λo e=>Heap.get?_push_of_some _ e) ?_ (hm1.push _) (by simp only [List.length_nil];omega) λh2 tk2 hm2 k2=>?_
 ·show ItP X.prog X.w _ _ _ (its.toArray.toList.drop 0) us
  rw [List.drop_zero]
  exact hI.keep λb o _ _ e=>Heap.get?_push_of_some _ (ln b o e)
 ·refine⟨rfl,?_⟩
  have kp:∀b o,s.heap.get? b=some o->h2.get? b=some o:=λb o e=>by
   have lb:=Heap.lt_size e
   exact k2 b o (Nat.ne_of_lt lb) (Nat.ne_of_lt (Nat.lt_trans lb lt1)) (Heap.get?_push_of_some _ (ln b o e))
  have fr:H s.heap.objs.size=none:=I.hok.fresh (Nat.le_refl _)
  have hs:(s.heap.objs.size==sysModules)=false:=beq_eq_false_iff_ne.mpr (Nat.ne_of_gt I.big)
  have kv:KV (putAll ps) (us.foldl (λc p=>stored c p.1 p.2) []):=kv_all hK .nil
  have le:=putAll_le ps
  have I2:=I.laid (a:=s.heap.objs.size) (o:=.dK (putAll ps)) (t':=tk2) kp (Nat.le_refl _) (show ObjOk X.prog X.w _ h2 _ (.dK (putAll ps)) from ⟨by unfold sizeLine;omega,hs,_,kv,hm2⟩)
  exact⟨.ref s.heap.objs.size,_,I2,rfl,q _ _ fr (same_new fr _) upd_same⟩
end L2
namespace L2
open PySem PySem.Spec PyProof.Rows PySem.W
def Gd{α:Type}(N:Nat)(R:α->Prop):KasT α->Prop
 | .ret a=>R a
 | .ask i j k=>i<N/\j<N/\∀b,Gd N R (k b)
def Ord(n:Nat)(p:Array Nat):Prop:=p.Perm (List.toArray (List.range n))
theorem Ord.size{n:Nat}{p:Array Nat}(h:Ord n p):p.size=n:=by have:=h.size_eq;simpa using this
theorem Ord.get{n:Nat}{p:Array Nat}(h:Ord n p)(hn:0<n)(i:Nat):p.getD i 0<n:=by
 by_cases c:i<p.size
 ·have e:p.getD i 0=p[i]:=by simp [Array.getD,c]
  rw [e]
  have hm:p[i]∈p.toList:=by simp
  have:=(Array.perm_iff_toList_perm.mp h).mem_iff.mp hm
  simpa using this
 ·have e:p.getD i 0=0:=by simp [Array.getD,c]
  rw [e];exact hn
theorem Ord.rev{n:Nat}{p:Array Nat}(h:Ord n p)(i j:Nat):Ord n (kas_rev p i j):=(mirror_perm p i j _).trans h
theorem Ord.bub{n:Nat}{p:Array Nat}(h:Ord n p)(i j:Nat):Ord n (bubble p i j):=(bubble_perm p i j).trans h
section
variable{N:Nat}(hN:0<N)
include hN
end
section
variable{prog:Program}{w:World}{A:Around}{E:Value->Shared->Prop}{s:Shared}
end
def rSortT:List V->Hp->VK->Prop:=λxs H Q=>∃(p:Addr) (ys:List V),xs= [.ref p]/\H p=some (.lst ys)/\(∀y∈ys,∃a i j,y= .ref a/\H a=some (.tup [.int i,.int j]))/\ys.length<64/\
 ∀D H' zs,H D=none->Same H H'->H' D=some (.lst zs)->zs.Perm ys->Q (.ref D) H'
end L2
namespace L2
open PySem PySem.Spec PyProof.Rows
theorem over_vals{d:Addr}{o:Obj}{kvs:List (Key×V)}:Over (Itv d o kvs) (kvs.map (·.2)) (λH=>H d=some (.frz o (.dK kvs))) where
 go:=λi H h lt=>⟨by simpa using lt,h⟩
 stop:=λi H h le=>⟨by simpa using le,h⟩
 yld:=λi H x H' h lt y=>by
  obtain⟨rfl,k,e⟩:=y
  exact⟨rfl,by rw [List.getElem?_map,e];rfl⟩
theorem compJ_items{d:Addr}{o:Obj}{kvs:List (Key×V)}{g:TG}{tc:TT}{te:TE}{cs:St}{H1:Hp}{Q:VK}(hd1:H1 d=some (.frz o (.dK kvs)))(sz:kvs.length<sizeLine)(Pv:Addr->Nat->List V->St->Hp->Prop)
 (h0:∀D H',H1 D=none->Same H1 H'->H' D=some (.lst [])->Pv D 0 [] cs H')
 (hs:∀D i k x ys σ1 H' p H'',kvs[i]? =some (k,x)->At (kvs.map (·.2)) H1 D i ys H'->Pv D i ys σ1 H'->H' p=none->Same H' H''->H'' p=some (.tup [kV k,x])->g (.ref p) σ1 H'' λσ2 H2=>tc σ2 H2 λb H3=>if b=true then te σ2 H3 λv H4=>Put (kvs.map (·.2)) H1 D (Pv D) i σ2 v H4 else Skip (kvs.map (·.2)) H1 D (Pv D) i σ2 H3)
 (hd:∀D ys σ1 H',H1 D=none->Same H1 H'->H' D=some (.lst ys)->ys.length<=kvs.length->Pv D kvs.length ys σ1 H'->Q (.ref D) H'):CompJ (Iti d o kvs) g tc te cs H1 Q:=by
 have el:(kvs.map (·.2)).length=kvs.length:=by rw [List.length_map]
 intro D hD
 refine⟨CW (kvs.map (·.2)) H1 D (Pv D),⟨_,rfl,Nat.zero_le _,same_new hD _,[],upd_same,Nat.le_refl _,h0 D _ hD (same_new hD _) upd_same⟩,?_⟩
 rintro i m σ1 H ⟨rfl,hi,sm,ys,hy,ly,p⟩
 by_cases hlt:i<kvs.length
 ·refine .inr ⟨⟨hlt,sm _ _ hd1⟩,λv H' y=>?_⟩
  obtain⟨pp,k,x,rfl,hn,sm2,hp,hx⟩:=y
  exact hs D i k x ys σ1 H pp H' hx ⟨hD,by rw [el];exact hlt,by rw [el];exact sz,sm,hy,ly⟩ p hn sm2 hp
 ·have e:i=kvs.length:=by rw [el] at hi;omega
  subst e
  exact .inl ⟨⟨Nat.le_refl _,sm _ _ hd1⟩,hd D ys σ1 _ hD sm hy ly p⟩
end L2
namespace L2
open PySem PySem.Spec PyProof.Rows
section
variable{X:Cx}
def rListK:List V->Hp->VK->Prop:=λxs H Q=>∃(d:Addr) (kvs:List (Key×V)),xs= [.ref d]/\H d=some (.dK kvs)/\kvs.length<1000/\∀l H',H l=none->Same H H'->H' l=some (.lst (kvs.map λkv=>kV kv.1))->Q (.ref l) H'
theorem vals_of:∀(xs:List V) (vs:List Value),vs.length=xs.length->(∀(j:Nat) (v:Value),vs[j]? =some v->∃x,xs[j]? =some x/\RelV x v)->Vals xs vs
 | [],[],_,_=>.nil
 | x::xs,v::vs,hl,h=>by
  obtain⟨y,e,r⟩:=h 0 v rfl
  cases e
  exact .cons r (vals_of xs vs (by simpa using hl) λj v e=>by simpa using h (j+1) v (by simpa using e))
 | [],_::_,hl,_=>by simp at hl
 | _::_,[],hl,_=>by simp at hl
theorem call_listK(hc:X.calm=true:=by rfl):CallR X (.type "list") rListK:=by
 intro pins s σ H xs us Q I r h
 obtain⟨d,kvs,rfl,hd,hz,q⟩:=h
 obtain⟨u,rfl,ru⟩:=vals1 r
 cases ru
 obtain⟨z1,z2,vs,rel,o,es,ep,ho,rr⟩:=dk_of I.hok hd
 have hl:kvs.length=vs.length:=rel.length
 have big:1000<=sizeLine:=by unfold sizeLine;decide
 refine PySem.W.kdl_call (PySem.W.kdl_dict (knd:=mixKind X.prog X.w) (kvs:=vs) (ep:=ep) z2) (I.ok.hd hc) ⟨o,es,ho,rr⟩ (by omega) λh' tk acc c' hk hS hacc=>?_
 have fr:H s.heap.objs.size=none:=I.hok.fresh (Nat.le_refl _)
 have rv:Vals (kvs.map λkv=>kV kv.1) acc.toList:=by
  refine vals_of _ _ (by rw [Array.length_toList,hacc.1,List.length_map,hl]) λj v hj=>?_
  obtain⟨k,x,e,hkey⟩:=hacc.2 j v (by rw [<-Array.getElem?_toList];exact hj)
  have h1:=congrArg (λl=>l[j]?) rel.keys
  simp only [List.getElem?_map,e,Option.map_some] at h1
  cases hk2:kvs[j]? with
  | none=>rw [hk2] at h1;cases h1
  | some kv=>
   rw [hk2] at h1
   have h1:kv.1=k:=Option.some.inj h1
   refine⟨kV kv.1,by rw [List.getElem?_map,hk2];rfl,?_⟩
   rw [h1]
   exact relV_key hkey
 have I2:=I.laid (a:=s.heap.objs.size) (o:=.lst (kvs.map λkv=>kV kv.1)) (t':=tk) hk (Nat.le_refl _) (show ObjOk X.prog X.w _ h' _ (.lst _) from ⟨by rw [List.length_map];omega,acc.toList,c',rv,by simpa using hS⟩)
 exact⟨.ref s.heap.objs.size,_,I2,rfl,q _ _ fr (same_new fr _) upd_same⟩
end
end L2
namespace L2
open PySem PySem.Spec PyProof.Rows
def pairO(i j:Int):Option HO->Bool
 | some (.tup [.int a,.int b])=>decide (a=i)&&decide (b=j)
 | _=>false
def pairV(H:Hp)(i j:Int):V->Bool
 | .ref b=>pairO i j (H b)
 | _=>false
def rInP:R2:=λx y H Q=>∃a p i j xs,x= .ref a/\y= .ref p/\H a=some (.tup [.int i,.int j])/\H p=some (.lst xs)/\(∀v∈xs,∃b i' j',v= .ref b/\H b=some (.tup [.int i',.int j']))/\Q (.bl (xs.any (pairV H i j))) H
def rIntB:List V->Hp->VK->Prop:=λxs H Q=>∃k,xs= [.bl k]/\Q (.int (if k=true then 1 else 0)) H
theorem call_intB{X:Cx}:CallR X (.type "int") rIntB:=by
 intro pins s σ H xs us Q I r h
 exact call_int1 pins s σ H xs us Q I r (.inr h)
end L2
namespace L2
open PySem PySem.Spec PyProof.Rows PySem.W
def Go{α:Type}(lt:Nat->Nat->Bool)(N:Nat)(R:α->Prop):KasT α->Prop
 | .ret a=>R a
 | .ask i j k=>i<N/\j<N/\Go lt N R (k (lt i j))
theorem Go.bind{α β:Type}{lt:Nat->Nat->Bool}{N:Nat}{R:α->Prop}{S:β->Prop}{f:α->KasT β}(hf:∀a,R a->Go lt N S (f a)):∀{t:KasT α},Go lt N R t->Go lt N S (t.bind f)
 | .ret a,h=>hf a h
 | .ask i j k,⟨h1,h2,h3⟩=>⟨h1,h2,Go.bind hf h3⟩
theorem Go.wp{α:Type}{lt:Nat->Nat->Bool}{N:Nat}{R:α->Prop}{cmp:Nat->Nat->(Bool->Shared->Prop)->Shared->Prop}{Q:α->Shared->Prop}{s:Shared}(hc:∀i j,i<N->j<N->∀C:Bool->Shared->Prop,C (lt i j) s->cmp i j C s)(hq:∀a,R a->Q a s):∀{t:KasT α},Go lt N R t->t.kasWp cmp Q s
 | .ret a,h=>hq a h
 | .ask i j k,⟨h1,h2,h3⟩=>hc i j h1 h2 _ (Go.wp hc hq h3)
section
variable{lt:Nat->Nat->Bool}{N:Nat}(hN:0<N)(tr:∀i j k,lt i j=true->lt j k=true->lt i k=true)(tot:∀i j,i<N->j<N->i≠j->lt i j=true\/lt j i=true)
def Up(lt:Nat->Nat->Bool)(p:Array Nat)(k:Nat):Prop:=∀i j,i<j->j<k->lt (p.getD i 0) (p.getD j 0)=true
def Down(lt:Nat->Nat->Bool)(p:Array Nat)(k:Nat):Prop:=∀i j,i<j->j<k->lt (p.getD j 0) (p.getD i 0)=true
theorem Ord.ne{p:Array Nat}(h:Ord N p){i j:Nat}(hij:i<j)(hj:j<N):p.getD i 0≠p.getD j 0:=by
 have nd:p.toList.Nodup:=by
  have:=(Array.perm_iff_toList_perm.mp h).nodup_iff.mpr (by simpa using List.nodup_range)
  exact this
 have hs:=h.size
 have hi':i<p.size:=by omega
 have hj':j<p.size:=by omega
 simp only [Array.getD,hi',hj',dif_pos]
 intro e
 have:=(List.pairwise_iff_getElem.mp nd) i j (by simpa using hi') (by simpa using hj') hij
 exact this (by simpa using e)
include tr in
theorem Up.step{p:Array Nat}{n:Nat}(h:Up lt p n)(h1:1<=n)(hl:lt (p.getD (n-1) 0) (p.getD n 0)=true):Up lt p (n+1):=λi j hij hj=>by
 by_cases e:j=n
 ·subst e
  by_cases e2:i=j-1
  ·subst e2;exact hl
  ·exact tr _ _ _ (h i (j-1) (by omega) (by omega)) hl
 ·exact h i j hij (by omega)
include tr in
theorem Down.step{p:Array Nat}{n:Nat}(h:Down lt p n)(h1:1<=n)(hl:lt (p.getD n 0) (p.getD (n-1) 0)=true):Down lt p (n+1):=λi j hij hj=>by
 by_cases e:j=n
 ·subst e
  by_cases e2:i=j-1
  ·subst e2;exact hl
  ·exact tr _ _ _ hl (h i (j-1) (by omega) (by omega))
 ·exact h i j hij (by omega)
include hN tr tot in
theorem go_asc{p:Array Nat}(hp:Ord N p):∀f n,1<=n->n+f<=N->Up lt p n->Go lt N (λm=>n<=m/\m<=n+f/\Up lt p m/\(m<n+f->lt (p.getD m 0) (p.getD (m-1) 0)=true)) (kas_asc p f n)
 | 0,n,h1,hl,hu=>⟨Nat.le_refl _,Nat.le_refl _,hu,λz=>absurd z (by omega)⟩
 | f+1,n,h1,hl,hu=>by
  refine⟨hp.get hN _,hp.get hN _,?_⟩
  cases b:lt (p.getD n 0) (p.getD (n-1) 0) with
  | true=>exact⟨Nat.le_refl _,by omega,hu,λ_=>b⟩
  | false=>
   have hl2:lt (p.getD (n-1) 0) (p.getD n 0)=true:=((tot _ _ (hp.get hN _) (hp.get hN _) (hp.ne (by omega) (by omega))).resolve_right (by rw [b];simp))
   have:=go_asc hp f (n+1) (by omega) (by omega) (hu.step tr h1 hl2)
   show Go lt N _ (kas_asc p f (n+1))
   rw [show n+(f+1)=n+1+f by omega]
   have w:∀{t:KasT Nat},Go lt N (λm=>n+1<=m/\m<=n+1+f/\Up lt p m/\(m<n+1+f->lt (p.getD m 0) (p.getD (m-1) 0)=true)) t->Go lt N (λm=>n<=m/\m<=n+1+f/\Up lt p m/\(m<n+1+f->lt (p.getD m 0) (p.getD (m-1) 0)=true)) t:=by
    intro t
    induction t with
    | ret a=>exact λh=>⟨by have:=h.1;omega,h.2⟩
    | ask i j k ih=>exact λh=>⟨h.1,h.2.1,ih _ h.2.2⟩
   exact w this
include hN tr tot in
theorem go_desc{p:Array Nat}(hp:Ord N p):∀f n,1<=n->n+f<=N->Down lt p n->Go lt N (λr=>r.1=p/\r.2.2=0/\Down lt p r.2.1/\1<=r.2.1/\r.2.1<=N) (kas_desc f p n 0)
 | 0,n,h1,hl,hu=>⟨rfl,rfl,hu,h1,by omega⟩
 | f+1,n,h1,hl,hu=>by
  refine⟨hp.get hN _,hp.get hN _,?_⟩
  cases b:lt (p.getD n 0) (p.getD (n-1) 0) with
  | true=>
   show Go lt N _ (if true=true then (if 0>0 then kas_desc f (kas_rev p (n-(0+1)) n) (n+1) 0 else kas_desc f p (n+1) 0) else _)
   rw [if_pos rfl,if_neg (by omega)]
   exact go_desc hp f (n+1) (by omega) (by omega) (hu.step tr h1 b)
  | false=>
   show Go lt N _ (if false=true then _ else KasT.ask (p.getD (n-1) 0) (p.getD n 0) λd=>if d=true then .ret (p,n,0) else kas_desc f p (n+1) (0+1))
   rw [if_neg (by decide)]
   have hl2:lt (p.getD (n-1) 0) (p.getD n 0)=true:=((tot _ _ (hp.get hN _) (hp.get hN _) (hp.ne (by omega) (by omega))).resolve_right (by rw [b];simp))
   refine⟨hp.get hN _,hp.get hN _,?_⟩
   rw [hl2]
   exact⟨rfl,rfl,hu,h1,by show n<=N;omega⟩
theorem rev_up{p:Array Nat}(hp:Ord N p){n:Nat}(hn:n<=N)(h:Down lt p n):Up lt (kas_rev p 0 n) n:=λi j hij hj=>by
 have hs:=hp.size
 have g:∀k,k<n->(kas_rev p 0 n).getD k 0=p.getD (n-1-k) 0:=λk hk=>by
  have e:=getElem?_mirror_all (xs:=p) (i:=0) (j:=n) (by omega) k
  rw [if_pos ⟨Nat.zero_le _,hk⟩] at e
  show(kas_rev p 0 n).getD k 0=_
  rw [Array.getD_eq_getD_getElem?,Array.getD_eq_getD_getElem?]
  unfold kas_rev
  rw [e]
  congr 2;omega
 rw [g i (by omega),g j hj]
 exact h _ _ (by omega) (by omega)
include hN tr tot in
theorem go_count{p:Array Nat}(hp:Ord N p)(h2:2<=N):Go lt N (λr=>Ord N r.2/\Up lt r.2 r.1/\1<=r.1/\r.1<=N) (kas_count N p):=by
 refine(go_asc hN tr tot hp (N-1) 1 (Nat.le_refl _) (by omega) λi j hij hj=>absurd hj (by omega)).bind λn ⟨a1,a2,a3,a4⟩=>?_
 by_cases c:(n==N)=true
 ·rw [if_pos c];exact⟨hp,a3,a1,by omega⟩
 ·rw [if_neg c]
  have c:n≠N:=λz=>c (by rw [z];exact beq_self_eq_true N)
  by_cases c2:n>1
  ·rw [if_pos c2]
   refine⟨hp.get hN _,hp.get hN _,?_⟩
   rw [a3 0 (n-1) (by omega) (by omega)]
   exact⟨hp,a3,a1,by omega⟩
  ·rw [if_neg c2]
   have e1:n=1:=by omega
   subst e1
   have b:=a4 (by omega)
   have d2:Down lt p 2:=λi j hij hj=>by
    have:i=0:=by omega
    have:j=1:=by omega
    subst i;subst j
    exact b
   refine(go_desc hN tr tot hp (N-2) 2 (by omega) (by omega) d2).bind λr ⟨b1,b2,b3,b4,b5⟩=>?_
   rw [if_neg (by omega)]
   obtain⟨r1,r2,r3⟩:=r
   cases b1
   refine(go_asc hN tr tot (hp.rev _ _) (N-r2) r2 b4 (by dsimp only at b5;omega) (rev_up hp b5 b3)).bind λm ⟨m1,m2,m3,m4⟩=>?_
   exact⟨hp.rev _ _,m3,by dsimp only at b4;dsimp only;omega,by dsimp only at b5;dsimp only;omega⟩
include hN tr tot in
theorem go_place{p:Array Nat}(hp:Ord N p){k:Nat}(hk:k<N):∀f l r,l<=r->r<=k->r-l<=f->Up lt p k->(∀i,i<l->lt (p.getD i 0) (p.getD k 0)=true)->(∀i,r<=i->i<k->lt (p.getD k 0) (p.getD i 0)=true)->Go lt N (λl=>l<=k/\(∀i,i<l->lt (p.getD i 0) (p.getD k 0)=true)/\(∀i,l<=i->i<k->lt (p.getD k 0) (p.getD i 0)=true)) (kas_place p k f l r)
 | 0,l,r,h1,h2,h3,hu,h4,h5=>⟨by omega,h4,λi hi=>h5 i (by omega)⟩
 | f+1,l,r,h1,h2,h3,hu,h4,h5=>by
  show Go lt N _ (if l>=r then KasT.ret l else _)
  by_cases c:l>=r
  ·rw [if_pos c];exact⟨by omega,h4,λi hi=>h5 i (by omega)⟩
  ·rw [if_neg c]
   refine⟨hp.get hN _,hp.get hN _,?_⟩
   cases b:lt (p.getD k 0) (p.getD ((l+r)/2) 0) with
   | true=>
    refine go_place hp hk f l ((l+r)/2) (by omega) (by omega) (by omega) hu h4 λi hi hik=>?_
    by_cases e:i=(l+r)/2
    ·rw [e];exact b
    ·exact tr _ _ _ b (hu _ _ (by omega) hik)
   | false=>
    have hl2:lt (p.getD ((l+r)/2) 0) (p.getD k 0)=true:=((tot _ _ (hp.get hN _) (hp.get hN _) (hp.ne (by omega) hk)).resolve_right (by rw [b];simp))
    refine go_place hp hk f ((l+r)/2+1) r (by omega) (by omega) (by omega) hu (λi hi=>?_) h5
    by_cases e:i=(l+r)/2
    ·rw [e];exact hl2
    ·exact tr _ _ _ (hu _ _ (by omega) (by omega)) hl2
theorem bub_up{p:Array Nat}(hp:Ord N p){k l:Nat}(hk:k<N)(hl:l<=k)(hu:Up lt p k)(h4:∀i,i<l->lt (p.getD i 0) (p.getD k 0)=true)(h5:∀i,l<=i->i<k->lt (p.getD k 0) (p.getD i 0)=true):Up lt (bubble p k (k-l)) (k+1):=by
 have hs:=hp.size
 have g:∀i,(bubble p k (k-l)).getD i 0=if i=l then p.getD k 0 else if l<i/\i<=k then p.getD (i-1) 0 else p.getD i 0:=λi=>by
  have e:=getElem?_bubble (xs:=p) (src:=k) (by omega) (k-l) (by omega) i
  rw [show k-(k-l)=l by omega] at e
  rw [Array.getD_eq_getD_getElem?,e]
  split
  ·rw [Array.getD_eq_getD_getElem?]
  ·split
   ·rw [Array.getD_eq_getD_getElem?]
   ·rw [Array.getD_eq_getD_getElem?]
 intro i j hij hj
 rw [g i,g j]
 by_cases c1:i=l
 ·rw [if_pos c1,if_neg (by omega),if_pos ⟨by omega,by omega⟩]
  exact h5 _ (by omega) (by omega)
 ·rw [if_neg c1]
  by_cases c2:j=l
  ·rw [if_pos c2,if_neg (by omega)]
   exact h4 _ (by omega)
  ·rw [if_neg c2]
   by_cases c3:l<i
   ·rw [if_pos ⟨c3,by omega⟩,if_pos ⟨by omega,by omega⟩]
    exact hu _ _ (by omega) (by omega)
   ·rw [if_neg (by omega)]
    by_cases c4:l<j
    ·rw [if_pos ⟨c4,by omega⟩]
     exact hu _ _ (by omega) (by omega)
    ·rw [if_neg (by omega)]
     exact hu _ _ hij (by omega)
include hN tr tot in
theorem go_bin:∀(f:Nat) {p:Array Nat} (k:Nat),Ord N p->k+f=N->Up lt p k->Go lt N (λp=>Ord N p/\Up lt p N) (kas_bin f p k)
 | 0,p,k,hp,hk,hu=>⟨hp,by rw [<-hk];exact hu⟩
 | f+1,p,k,hp,hk,hu=>(go_place hN tr tot hp (by omega) k 0 k (by omega) (by omega) (by omega) hu (λi hi=>absurd hi (by omega)) (λi h1 h2=>absurd h2 (by omega))).bind λl ⟨a1,a2,a3⟩=>go_bin f (k+1) (hp.bub _ _) (by omega) (bub_up hp (by omega) a1 hu a2 a3)
include hN tr tot in
theorem go_sort(h2:2<=N):Go lt N (λp=>Ord N p/\Up lt p N) (kas_sort N):=(go_count hN tr tot (Array.Perm.refl _) h2).bind λr ⟨a1,a2,a3,a4⟩=>by
 by_cases c:r.1<N
 ·rw [if_pos c,show max r.1 1=r.1 by omega]
  exact go_bin hN tr tot _ _ a1 (by omega) a2
 ·rw [if_neg c]
  exact⟨a1,by rw [show N=r.1 by omega];exact a2⟩
end
theorem lex_trans:∀{x y z:List Int},HT.lexLt x y=true->HT.lexLt y z=true->HT.lexLt x z=true
 | [],[],_,h,_=>by cases h
 | [],_::_,[],_,h=>by cases h
 | [],_::_,_::_,_,_=>rfl
 | _::_,[],_,h,_=>by cases h
 | _::_,_::_,[],_,h=>by cases h
 | a::x,b::y,c::z,h,h'=>by
  rw [HT.lexLt_cons] at h h'⊢
  by_cases e1:a=b
  ·rw [if_pos e1] at h
   by_cases e2:b=c
   ·rw [if_pos e2] at h'
    rw [if_pos (e1.trans e2)]
    exact lex_trans h h'
   ·rw [if_neg e2] at h'
    rw [if_neg (by rw [e1];exact e2),e1]
    exact h'
  ·rw [if_neg e1] at h
   by_cases e2:b=c
   ·rw [if_neg (by rw [<-e2];exact e1),<-e2]
    exact h
   ·rw [if_neg e2] at h'
    have h:=of_decide_eq_true h
    have h':=of_decide_eq_true h'
    rw [if_neg (by omega)]
    exact decide_eq_true (by omega)
theorem lex_total:∀{x y:List Int},x≠y->HT.lexLt x y=true\/HT.lexLt y x=true
 | [],[],h=>absurd rfl h
 | [],_::_,_=>.inl rfl
 | _::_,[],_=>.inr rfl
 | a::x,b::y,h=>by
  rw [HT.lexLt_cons,HT.lexLt_cons]
  by_cases e:a=b
  ·rw [if_pos e,if_pos e.symm]
   exact lex_total λz=>h (by rw [e,z])
  ·rw [if_neg e,if_neg (Ne.symm e)]
   rcases Int.lt_or_gt_of_ne e with z | z
   ·exact .inl (decide_eq_true z)
   ·exact .inr (decide_eq_true z)
def TpI(h:Heap)(v:Value)(ns:List Int):Prop:=∃a o us n,v= .ref a/\h.get? a=some o/\o.cls= .type "tuple"/\o.data= .seq (List.toArray us) n/\IntsAre us ns
section
variable{prog:Program}{w:World}{A:Around}{E:Value->Shared->Prop}{s:Shared}
theorem katI{b:Bool}{Q:Bool->Shared->Prop}:∀{us vs:List Value} {xs ys:List Int} (i:Nat),IntsAre us xs->IntsAre vs ys->xs.length=ys.length->Q (HT.lexLt xs ys) s->KatLex prog w A b false Q (us.zip vs) i s
 | _,_,_,_,i,.nil,.nil,_,h=>kat_nil h
 | _,_,_,_,i,.nil,.cons _ _ _,hl,h=>by cases hl
 | _,_,_,_,i,.cons _ _ _,.nil,hl,h=>by cases hl
 | _,_,_,_,i,.cons m t hx,.cons n u hy,hl,h=>by
  rw [List.zip_cons_cons]
  refine kat_cons (wpAny_eqBool_int ?_)
  refine kat_go (λe=>kat_yes (katI (i+1) hx hy (by simpa using hl) ?_)) λe=>kat_no ?_
  ·rw [HT.lexLt_cons,if_pos (by simpa using e)] at h
   exact h
  ·rw [HT.lexLt_cons,if_neg (by simpa using e)] at h
   cases c:(b&&i==0) with
   | true=>exact oneLt_int h
   | false=>exact kat_one _ _ (lt_int h)
theorem tpI_lt{x y:Value}{xs ys:List Int}{Q:Bool->Shared->Prop}(hx:TpI s.heap x xs)(hy:TpI s.heap y ys)(hl:xs.length=ys.length)(h:Q (HT.lexLt xs ys) s):wpAny (model prog w) A (keyLt' (tuples' true) x y) Q E s:=by
 obtain⟨a,o,us,n,rfl,h1,h2,h3,h4⟩:=hx
 obtain⟨a',o',us',n',rfl,h1',h2',h3',h4'⟩:=hy
 refine kat_lt h1 h3 h1' h3' ?_
 have e:decide (us.toArray.size<us'.toArray.size)=false:=by
  have a1:=h4.length
  have a2:=h4'.length
  simp;omega
 rw [e]
 simpa using katI 0 h4 h4' hl h
theorem tpI_firsts{h:Heap}:∀{ps:List (Addr×List Int)},(∀q∈ps,TpI h (.ref q.1) q.2/\0<q.2.length)->∃fs,KatTups h (ps.map λq=>Value.ref q.1) fs/\fs.length=ps.length/\∀f∈fs,∃i t,f=Value.int i t
 | [],_=>⟨[],trivial,rfl,λf hf=>absurd hf List.not_mem_nil⟩
 | q::ps,hv=>by
  obtain⟨⟨a,o,us,n,e0,h1,h2,h3,h4⟩,h5⟩:=hv q List.mem_cons_self
  cases e0
  obtain⟨fs,k,l,e⟩:=tpI_firsts λu hu=>hv u (List.mem_cons_of_mem _ hu)
  revert h5
  generalize hq:q.2=q2 at h4
  cases h4 with
  | nil=>exact λh=>absurd h (by decide)
  | cons i t r=>exact λ_=>⟨.int i t::fs,.cons h1 h2 h3 rfl k,by rw [List.length_cons,List.length_cons,l],λf hf=>(List.mem_cons.mp hf).elim (λz=>⟨i,t,z⟩) (e f)⟩
theorem list_sort_tpO{a:Addr}{ps:List (Addr×List Int)}{L n:Nat}{P:Fin->Shared->Prop}(hh:A.handled=none)(ho:s.heap.get? a=some (seqObj "list" (ps.map λq=>Value.ref q.1).toArray n))(tv:∀q∈ps,TpI s.heap (.ref q.1) q.2/\q.1≠a)(hL:0<L)(tl:∀q∈ps,q.2.length=L)(nd:ps.Pairwise (λq r=>q.2≠r.2))(h64:ps.length<64)
 (h:∀qs:List (Addr×List Int),qs.Perm ps->qs.Pairwise (λq r=>HT.lexLt q.2 r.2=true)->P (.done (.ret .none)) {s with heap:=sortedHeap s.heap a (ps.map λq=>Value.ref q.1) (qs.map λq=>Value.ref q.1).toArray}):
 wpAny (model prog w) A (Builtin.«list.sort» ⟨[.ref a],[]⟩) P E s:=by
 generalize hvs:(ps.map λq=>Value.ref q.1)=vs at ho h⊢
 have lvs:vs.length=ps.length:=by rw [<-hvs,List.length_map]
 rw [list_sort_plain]
 have ha:a<s.heap.objs.size:=Heap.lt_size ho
 refine wpAny_bind (listItems_at ho rfl ?_)
 refine wpAny_bind (listUpdate_at ho rfl ?_)
 obtain⟨e1,ho1⟩:∃e1,(s.heap.update a (Obj.mapSeq λ_=> #[])).get? a=some (seqObj "list" #[] e1):=⟨_,get?_update_seq ho (λ_=> #[])⟩
 refine wpAny_bind (seqEpoch_at ho1 rfl ?_)
 refine wpAny_bind (wpAny_newTuple ?_)
 refine wpAny_bind (wpAny_newList ?_)
 refine wpAny_holding ?_
 have ho6:(((s.heap.update a (Obj.mapSeq λ_=> #[])).push (seqObj "tuple" vs.toArray 0)).push (seqObj "list" #[] 0)).get? a=some (seqObj "list" #[] e1):=by
  rw [Heap.get?_push_ne _ _ _ (by rw [size_push',Heap.size_update];exact Nat.ne_of_lt (Nat.lt_succ_of_lt ha)),Heap.get?_push_ne _ _ _ (by rw [Heap.size_update];exact Nat.ne_of_lt ha)]
  exact ho1
 show wpAny (model prog w) A _ P E {s with heap:=((s.heap.update a (Obj.mapSeq λ_=> #[])).push (seqObj "tuple" vs.toArray 0)).push (seqObj "list" #[] 0)}
 dsimp only
 have hsz:vs.toArray.size=vs.length:=by simp
 have tv6:∀q∈ps,TpI (((s.heap.update a (Obj.mapSeq λ_=> #[])).push (seqObj "tuple" vs.toArray 0)).push (seqObj "list" #[] 0)) (.ref q.1) q.2:=λq hq=>by
  obtain⟨⟨b,o,us,n,e0,h1,h2,h3,h4⟩,nb⟩:=tv q hq
  cases e0
  refine⟨q.1,o,us,n,rfl,Heap.get?_push_of_some _ (Heap.get?_push_of_some _ ?_),h2,h3,h4⟩
  rw [Heap.get?_update_ne _ _ _ _ nb]
  exact h1
 by_cases h2:vs.toArray.size<2
 ·rw [if_pos h2,if_pos h2]
  refine wpAny_bind (wpAny_pure ?_)
  rw [StateT.run_pure]
  refine wpAny_bind (wpAny_pure ?_)
  dsimp only
  refine wpAny_bind (seqEpoch_at ho6 rfl ?_)
  refine wpAny_bind (listUpdate_at ho6 rfl ?_ (hsz2:=by rw [Array.size_map];show(PyProof.Rows.pairsOf vs).size<=_;rw [PyProof.Rows.pairsOf_size,sizeLine_eq];omega))
  simp only [bne_self_eq_false,Bool.false_eq_true,if_false]
  refine wpAny_pure ?_
  have e:((vs.toArray.zip vs.toArray).map (·.2))=vs.toArray:=by
   apply Array.toList_inj.mp
   rw [Array.toList_map,Array.toList_zip]
   exact List.map_snd_zip (Nat.le_refl _)
  have one:ps.Pairwise (λq r=>HT.lexLt q.2 r.2=true):=by
   rw [hsz,lvs] at h2
   match ps,h2 with
   | [],_=>exact .nil
   | [q],_=>exact List.pairwise_singleton _ _
  have:=h ps (List.Perm.refl _) one
  rw [hvs,<-e] at this
  exact this
 ·rw [if_neg h2,if_neg h2]
  obtain⟨fs,k,l,e⟩:=tpI_firsts λq hq=>⟨tv6 q hq,by rw [tl q hq];exact hL⟩
  rw [hvs] at k
  have h2':2<=vs.length:=by omega
  refine wpAny_bind (kat_kind k (by omega) (T:=.type "int") (λf hf=>?_) (by decide) ?_)
  ·obtain⟨i,t,rfl⟩:=e f hf
   exact PySem.W.Looks.now
  have key:∀i,i<vs.length->∃q,ps[i]? =some q/\vs.getD i Value.none= .ref q.1/\(ps.map (·.2)).getD i []=q.2/\q∈ps:=λi hi=>by
   have hi':i<ps.length:=by omega
   refine⟨ps[i],List.getElem?_eq_getElem hi',?_,?_,List.getElem_mem hi'⟩
   ·simp [<-hvs,hi']
   ·simp [hi']
  let lt:Nat->Nat->Bool:=λi j=>HT.lexLt ((ps.map (·.2)).getD i []) ((ps.map (·.2)).getD j [])
  refine wpAny_bind (wpAny_mono (kat_run (Q:=λst' s'=>∃p:Array Nat,(Ord vs.length p/\Up lt p vs.length)/\arrOf st'=p.map (kas_item (vs.toArray.zip vs.toArray))/\failedOf st'=none/\s'={s with heap:=((s.heap.update a (Obj.mapSeq λ_=> #[])).push (seqObj "tuple" vs.toArray 0)).push (seqObj "list" #[] 0)})
   (G:=λp s'=>(Ord vs.length p/\Up lt p vs.length)/\s'={s with heap:=((s.heap.update a (Obj.mapSeq λ_=> #[])).push (seqObj "tuple" vs.toArray 0)).push (seqObj "list" #[] 0)}) rfl h2' (by omega) (λp st' s' a1 a2 a3 a4=>⟨p,a4.1,a2,a3,a4.2⟩) ?_) ?_ λ_ _ e=>e)
  ·refine Go.wp (N:=vs.length) (lt:=lt) (λi j hi hj C hC=>?_) (λp hp=>⟨hp,rfl⟩) (go_sort (by omega) (λi j k=>lex_trans) (λi j hi hj hij=>lex_total ?_) h2')
   ·obtain⟨q,_,e1,e2,m1⟩:=key i hi
    obtain⟨r,_,e3,e4,m2⟩:=key j hj
    show wpAny (model prog w) A (keyLt' (tuples' true) (vs.getD i Value.none) (vs.getD j Value.none)) C _ _
    rw [e1,e3]
    refine tpI_lt (tv6 q m1) (tv6 r m2) (by rw [tl q m1,tl r m2]) ?_
    have:lt i j=HT.lexLt q.2 r.2:=by show HT.lexLt _ _=_;rw [e2,e4]
    rw [<-this]
    exact hC
   ·obtain⟨q,g1,_,e2,_⟩:=key i hi
    obtain⟨r,g2,_,e4,_⟩:=key j hj
    rw [e2,e4]
    have g1:=List.getElem?_eq_some_iff.mp g1
    have g2:=List.getElem?_eq_some_iff.mp g2
    obtain⟨u1,g1⟩:=g1
    obtain⟨u2,g2⟩:=g2
    rcases Nat.lt_or_gt_of_ne hij with z | z
    ·have:=List.pairwise_iff_getElem.mp nd i j u1 u2 z
     rw [g1,g2] at this;exact this
    ·have:=List.pairwise_iff_getElem.mp nd j i u2 u1 z
     rw [g1,g2] at this;exact this.symm
  ·rintro⟨⟨⟩,st'⟩ s' ⟨p,⟨hp,up⟩,har,hf,rfl⟩
   dsimp only
   have hout:(arrOf st').map (·.2)=List.toArray (p.toList.map λi=>vs.getD i Value.none):=kat_snds rfl har
   have hps:=hp.size
   have dflt:∀i∈p.toList,i<ps.length:=λi hi=>by
    have:=(Array.perm_iff_toList_perm.mp hp).mem_iff.mp hi
    have:=List.mem_range.mp (by simpa using this)
    omega
   let g:Nat->Addr×List Int:=λi=>ps.getD i (0,[])
   have hq:(p.toList.map λi=>vs.getD i Value.none)=(p.toList.map g).map λq=>Value.ref q.1:=by
    rw [List.map_map]
    refine List.map_congr_left λi hi=>?_
    have:=dflt i hi
    simp [g,<-hvs,this]
   have hpm:(p.toList.map g).Perm ps:=by
    have h1:=(Array.perm_iff_toList_perm.mp hp).map g
    have h3:((List.range vs.length).map g)=ps:=by
     refine List.ext_getElem (by simp [lvs]) λi h1 h2=>?_
     simp [g,h2]
    simp only [List.toList_toArray] at h1
    rw [h3] at h1
    exact h1
   have hord:(p.toList.map g).Pairwise (λq r=>HT.lexLt q.2 r.2=true):=by
    rw [List.pairwise_iff_getElem]
    intro i j hi hj hij
    have hi':i<p.size:=by simpa using hi
    have hj':j<p.size:=by simpa using hj
    have:=up i j hij (by omega)
    have gi:∀k (hk:k<p.size),p.getD k 0=p[k]:=λk hk=>by simp [Array.getD,hk]
    rw [gi i hi',gi j hj'] at this
    have ki:=dflt p[i] (by simp)
    have kj:=dflt p[j] (by simp)
    simpa [lt,g,ki,kj] using this
   refine wpAny_bind (seqEpoch_at ho6 rfl ?_)
   rw [hout,hq]
   refine wpAny_bind (listUpdate_at ho6 rfl ?_ (hsz2:=by rw [List.size_toArray,List.length_map,hpm.length_eq,sizeLine_eq];omega))
   rw [show failedOf st'=none from hf]
   simp only [bne_self_eq_false,Bool.false_eq_true,if_false]
   exact wpAny_pure (h _ hpm hord)
theorem sorted_tpO{l:Addr}{ps:List (Addr×List Int)}{L:Nat}{Q:Value->Shared->Prop}(hh:A.handled=none)(hl:s.heap.IsList l (ps.map λq=>Value.ref q.1).toArray)(tv:∀q∈ps,TpI s.heap (.ref q.1) q.2)(hL:0<L)(tl:∀q∈ps,q.2.length=L)(nd:ps.Pairwise (λq r=>q.2≠r.2))(h64:ps.length<64)
 (h:∀qs:List (Addr×List Int),qs.Perm ps->qs.Pairwise (λq r=>HT.lexLt q.2 r.2=true)->Q (.ref (s.heap.objs.size+1)) {s with heap:=sortedAll s.heap (ps.map λq=>Value.ref q.1) (qs.map λq=>Value.ref q.1).toArray}):
 wpAny (model prog w) A (call (.builtin "sorted") [.ref l]) Q E s:=by
 refine Calls.call_function_entry kind_sorted plain_sorted entry_sorted (args_sorted1 _) ?_
 unfold Builtin.«sorted»
 refine wpAny_bind (m:=checkCount "sorted" 1 1 _) (wpAny_pure ?_)
 refine wpAny_bind (collect_list hl ?_)
 refine wpAny_bind (wpAny_newList ?_)
 generalize hvs:(ps.map λq=>Value.ref q.1)=vs at hl h⊢
 have hsz:((s.heap.push (seqObj "list" #[] 0)).update s.heap.objs.size (Obj.mapSeq (· ++vs.toArray))).objs.size=s.heap.objs.size+1:=by
  rw [Heap.size_update,size_push']
 have hoL:(((s.heap.push (seqObj "list" #[] 0)).update s.heap.objs.size (Obj.mapSeq (· ++vs.toArray))).push (seqObj "list" vs.toArray 0)).get? (s.heap.objs.size+1)=some (seqObj "list" vs.toArray 0):=by
  rw [<-hsz];exact Heap.get?_push_size _ rfl
 have keep:∀b o,s.heap.get? b=some o->(((s.heap.push (seqObj "list" #[] 0)).update s.heap.objs.size (Obj.mapSeq (· ++vs.toArray))).push (seqObj "list" vs.toArray 0)).get? b=some o:=λb o q=>by
  have hlt:b<s.heap.objs.size:=Heap.lt_size q
  rw [Heap.get?_push_ne _ _ _ (by rw [hsz];exact Nat.ne_of_lt (Nat.lt_succ_of_lt hlt)),Heap.get?_update_ne _ _ _ _ (Nat.ne_of_lt hlt),Heap.get?_push_ne _ _ _ (Nat.ne_of_lt hlt)]
  exact q
 show wpAny _ _ _ _ _ {s with heap:=((s.heap.push (seqObj "list" #[] 0)).update s.heap.objs.size (Obj.mapSeq (· ++vs.toArray))).push (seqObj "list" vs.toArray 0)}
 rw [hsz]
 subst hvs
 refine wpAny_bind (wpAny_holding (wpAny_call_entry slot_list_sort ⟨_,hoL,rfl⟩ entry_list_sort (list_sort_tpO hh hoL (λq hq=>?_) hL tl nd h64 λqs hp ho=>⟨_,rfl,?_⟩) (args_list_sort _)))
 ·obtain⟨b,o,us,n,e0,h1,h2,h3,h4⟩:=tv q hq
  cases e0
  refine⟨⟨q.1,o,us,n,rfl,keep _ _ h1,h2,h3,h4⟩,λe=>?_⟩
  rw [e] at h1
  exact absurd (Heap.lt_size h1) (by simp)
 ·exact wpAny_pure ⟨_,rfl,h qs hp ho⟩
end
def SN:Nat:=64
def rSortO:List V->Hp->VK->Prop:=λxs H Q=>∃(p:Addr) (ps:List (Addr×List Int)) (L:Nat),xs= [.ref p]/\H p=some (.lst (ps.map λq=>.ref q.1))/\(∀q∈ps,H q.1=some (.tup (q.2.map V.int)))/\0<L/\(∀q∈ps,q.2.length=L)/\ps.Pairwise (λq r=>q.2≠r.2)/\ps.length<SN/\
 ∀(D:Addr) (H':Hp) (qs:List (Addr×List Int)),H D=none->Same H H'->H' D=some (.lst (qs.map λq=>.ref q.1))->qs.Perm ps->qs.Pairwise (λq r=>HT.lexLt q.2 r.2=true)->Q (.ref D) H'
theorem refs_of:∀{ps:List (Addr×List Int)} {us:List Value},Vals (ps.map λq=>V.ref q.1) us->us=ps.map λq=>Value.ref q.1
 | [],_,.nil=>rfl
 | q::ps,_,.cons h r=>by
  cases h
  rw [refs_of r];rfl
theorem refs_vals:∀(ps:List (Addr×List Int)),Vals (ps.map λq=>V.ref q.1) (ps.map λq=>Value.ref q.1)
 | []=>.nil
 | q::ps=>.cons rfl (refs_vals ps)
theorem call_sortedO{X:Cx}(hc:X.calm=true):CallR X (.builtin "sorted") rSortO:=by
 intro pins s σ H xs us Q I r h
 obtain⟨p,ps,L,rfl,hp,ty,hL,tl,nd,h64,q⟩:=h
 obtain⟨u,rfl,ru⟩:=vals1 r
 cases ru
 obtain⟨its,rv,pl,hz⟩:=I.list (SqL.of hp)
 have ei:=refs_of rv
 subst ei
 have tv:∀q∈ps,TpI s.heap (.ref q.1) q.2:=λq hq=>by
  obtain⟨_,us,rt,o,e1,e2,n,e3⟩:=(show ObjOk X.prog X.w H s.heap q.1 (.tup (q.2.map V.int)) from I.hok q.1 _ (ty q hq))
  exact⟨q.1,o,us,n,rfl,e1,e2,e3,intsAre_of rt⟩
 refine sorted_tpO (I.ok.hd hc) pl.isList tv hL tl nd h64 λqs hpm ho=>?_
 obtain⟨e,he⟩:=sortedAll_at s.heap (ps.map λq=>Value.ref q.1) (qs.map λq=>Value.ref q.1).toArray
 have fr:H (s.heap.objs.size+1)=none:=I.hok.fresh (Nat.le_succ _)
 have lz:=hpm.length_eq
 have I2:=I.laid (a:=s.heap.objs.size+1) (o:=.lst (qs.map λq=>.ref q.1)) (t':=s.toks) (λb u e=>sortedAll_old e) (Nat.le_succ _) (show ObjOk X.prog X.w _ (sortedAll s.heap (ps.map λq=>Value.ref q.1) (qs.map λq=>Value.ref q.1).toArray) _ (.lst (qs.map λq=>.ref q.1)) from ⟨by rw [List.length_map,lz];rw [List.length_map] at hz;exact hz,_,e,refs_vals qs,he⟩)
 exact⟨.ref (s.heap.objs.size+1),_,I2,rfl,q _ _ _ fr (same_new fr _) upd_same hpm ho⟩
end L2
theorem L2.exBl{b:Bool}{p:Bool->Prop}:(∃c,L2.V.bl b=L2.V.bl c/\p c)=p b:=propext ⟨λ⟨_,e,h⟩=>(L2.V.bl.inj e)▸h,λh=>⟨_,rfl,h⟩⟩
theorem L2.exIn{b:Int}{p:Int->Prop}:(∃c,L2.V.int b=L2.V.int c/\p c)=p b:=propext ⟨λ⟨_,e,h⟩=>(L2.V.int.inj e)▸h,λh=>⟨_,rfl,h⟩⟩
theorem L2.exIn1{b:Int}{α:Sort _}{p:Int->α->Prop}:(∃c x,L2.V.int b=L2.V.int c/\p c x)=∃x,p b x:=propext ⟨λ⟨_,x,e,h⟩=>⟨x,(L2.V.int.inj e)▸h⟩,λ⟨x,h⟩=>⟨_,x,rfl,h⟩⟩
theorem L2.exRf{b:PySem.Addr}{p:PySem.Addr->Prop}:(∃c,L2.V.ref b=L2.V.ref c/\p c)=p b:=propext ⟨λ⟨_,e,h⟩=>(L2.V.ref.inj e)▸h,λh=>⟨_,rfl,h⟩⟩
theorem L2.exRf1{b:PySem.Addr}{α:Sort _}{p:PySem.Addr->α->Prop}:(∃c x,L2.V.ref b=L2.V.ref c/\p c x)=∃x,p b x:=propext ⟨λ⟨_,x,e,h⟩=>⟨x,(L2.V.ref.inj e)▸h⟩,λ⟨x,h⟩=>⟨_,x,rfl,h⟩⟩
theorem L2.exRf2{b:PySem.Addr}{α β:Sort _}{p:PySem.Addr->α->β->Prop}:(∃c x y,L2.V.ref b=L2.V.ref c/\p c x y)=∃x y,p b x y:=propext ⟨λ⟨_,x,y,e,h⟩=>⟨x,y,(L2.V.ref.inj e)▸h⟩,λ⟨x,y,h⟩=>⟨_,x,y,rfl,h⟩⟩
theorem L2.exRf3{b:PySem.Addr}{α β γ:Sort _}{p:PySem.Addr->α->β->γ->Prop}:(∃c x y z,L2.V.ref b=L2.V.ref c/\p c x y z)=∃x y z,p b x y z:=propext ⟨λ⟨_,x,y,z,e,h⟩=>⟨x,y,z,(L2.V.ref.inj e)▸h⟩,λ⟨x,y,z,h⟩=>⟨_,x,y,z,rfl,h⟩⟩
theorem L2.exSt{b:PySem.Str}{p:PySem.Str->Prop}:(∃c,L2.V.str b=L2.V.str c/\p c)=p b:=propext ⟨λ⟨_,e,h⟩=>(L2.V.str.inj e)▸h,λh=>⟨_,rfl,h⟩⟩
theorem L2.exSo{α:Type}{b:α}{p:α->Prop}:(∃c,some b=some c/\p c)=p b:=propext ⟨λ⟨_,e,h⟩=>(Option.some.inj e)▸h,λh=>⟨_,rfl,h⟩⟩
theorem L2.qVar{i:Nat}{σ:L2.St}{H:L2.Hp}{Q:L2.VK}{v:L2.V}(h:σ[i]? =some (some v)):L2.tVar i σ H Q=Q v H:=propext ⟨λ⟨_,e,q⟩=>by rw [h] at e;cases e;exact q,λq=>⟨_,h,q⟩⟩
theorem L2.and_t{a b:Prop}(h:a=True):(a/\b)=b:=by rw [h,true_and]
theorem L2.and_f{a b:Prop}(h:a=False):(a/\b)=False:=by rw [h,false_and]
theorem L2.and_r{a b a1 a2:Prop}(h:a=(a1/\a2)):(a/\b)=(a1/\(a2/\b)):=by rw [h,and_assoc]
theorem L2.and_l{a b a':Prop}(h:a=a'):(a/\b)=(a'/\b):=by rw [h]
open Lean Meta Simp in
simproc_decl quickVar (L2.tVar _ _ _ _) := fun e => do
  let_expr L2.tVar i s H Q := e | return .continue
  let l ← mkAppM ``GetElem?.getElem? #[s, i]
  let w ← whnfD l
  let_expr Option.some _ o := w | return .continue
  let o' ← whnfD o
  let_expr Option.some _ v := o' | return .continue
  return .visit { expr := (mkApp2 Q v H).headBeta, proof? := some (mkApp6 (mkConst ``L2.qVar) i s H Q v (← mkEqRefl l)) }
open Lean Meta Simp in
simproc_decl lazyAnd (_ ∧ _) := fun e => do
  let_expr And a b := e | return .continue
  let r ← simp a
  let a' := r.expr
  if a'.isTrue then return .visit { expr := b, proof? := some (mkApp3 (mkConst ``L2.and_t) a b (← r.getProof)) }
  if a'.isFalse then return .done { expr := mkConst ``False, proof? := some (mkApp3 (mkConst ``L2.and_f) a b (← r.getProof)) }
  match_expr a' with
  | And a1 a2 => return .visit { expr := mkAnd a1 (mkAnd a2 b), proof? := some (mkApp5 (mkConst ``L2.and_r) a b a1 a2 (← r.getProof)) }
  | _ =>
    match r.proof? with
    | none => return .done { expr := mkAnd a' b }
    | some h => return .done { expr := mkAnd a' b, proof? := some (mkApp4 (mkConst ``L2.and_l) a b a' h) }
theorem L2.ite_c{α:Sort _}{c c':Prop}[d:Decidable c][d':Decidable c'](h:c=c')(x y:α):ite c x y=ite c' x y:=by subst h;congr
open Lean Meta Simp in
simproc_decl lazyIte (ite _ _ _) := fun e => do
  let_expr ite α c d x y := e | return .continue
  let r ← simp c
  if r.expr.isTrue || r.expr.isFalse then return .continue
  if r.expr == c then return .done { expr := e }
  let d' ← synthInstance (mkApp (mkConst ``Decidable) r.expr)
  return .done { expr := mkApp5 e.consumeMData.getAppFn α r.expr d' x y, proof? := some (mkAppN (mkConst ``L2.ite_c e.consumeMData.getAppFn.constLevels!) #[α, c, r.expr, d, d', ← r.getProof, x, y]) }
open Lean Meta Simp in
simproc_decl lazyAll (_) := fun e => do
  if e.isForall then return .done { expr := e } else return .continue
def L2.rdPost : String := "L2.rSortO L2.rLtT L2.rIntB L2.rListK L2.rInP L2.tFldG L2.sFldG L2.tMethG L2.tMakeG L2.lookup_n L2.lookup_c L2.putF_n L2.putF_c L2.HO.ins.injEq L2.tDGetDG L2.tUnf L2.rDictP L2.rSortT L2.rMinL L2.rIdxG L2.rPopAtG L2.tRng1 L2.rListRng L2.tRev L2.rIxL L2.tBreak L2.tCont L2.rSum L2.rSort L2.rListG L2.rInsG L2.tDPopG L2.frameN L2.capOf Option.join_some L2.tYes L2.tChain L2.rAll L2.tBM L2.tyV L2.rStarts L2.rInK L2.tFmt L2.tJoin L2.jCons L2.jNil L2.tDefR L2.tRaise L2.rMulS L2.rSlS L2.rJoinS L2.rCatG L2.tTry1 L2.tTry0 L2.tBM0 L2.rPopG L2.rRepG L2.tDGetR L2.gLstG L2.tCallX L2.rIsiX L2.rIsiXT L2.tMs L2.rSetG L2.gSub L2.tSeq L2.tNext L2.tIfS L2.tTest L2.tB L2.tOp L2.tUn L2.rU L2.tVar L2.tC L2.rI0 L2.rI L2.tRet L2.tRetN L2.tDrop L2.tAsg L2.gName L2.gTup L2.gCons L2.gNil L2.tNil L2.tCons L2.tTupG L2.tLstG L2.tDNewG L2.rDictG L2.tAppG L2.sDPutG2 L2.pairsOf L2.tDispG L2.tPairs Option.bind_some L2.tDef L2.tCB L2.tAnd L2.tOr L2.tNot L2.tAndV L2.tOrV L2.tNotV L2.tIf L2.rIxG L2.rIxS L2.rEq L2.rNe L2.scal_ss L2.scal_ii L2.scal_bb L2.scal_nn L2.scal_ns L2.scal_sn L2.scal_ni L2.scal_in L2.flat_s L2.flat_i L2.flat_n L2.flat_b L2.inV_nil L2.inV_cons L2.eqV_ss L2.eqV_ii L2.cx_K L2.rInG L2.gTupG L2.rSlG L2.tSl L2.tPart L2.tNoPart L2.tForT L2.tForL L2.turns L2.upd_same List.all_cons List.all_nil Bool.and_true Bool.true_and Bool.and_self Bool.or_false Bool.or_true Bool.false_or Bool.true_or L2.cutV HT.sIx L2.rIsiG L2.tyG_n L2.tyG_b L2.tyG_i L2.tyG_s L2.tyG_r L2.hoT_l L2.hoT_t L2.hoT_d L2.V.ty.injEq L2.kit_ii L2.kit_it L2.kit_il L2.kit_is L2.kit_ib L2.kit_id L2.kit_ni L2.kit_nt L2.kit_nl L2.kit_ns L2.kit_nb L2.kit_nd L2.kit_ti L2.kit_tt L2.kit_tl L2.kit_ts L2.kit_tb L2.kit_td L2.kit_li L2.kit_lt L2.kit_ll L2.kit_ls L2.kit_lb L2.kit_ld L2.kit_si L2.kit_st L2.kit_sl L2.kit_ss L2.kit_sb L2.kit_sd L2.kit_bi L2.kit_bt L2.kit_bl L2.kit_bs L2.kit_bb L2.kit_bd L2.kit_di L2.kit_dt L2.kit_dl L2.kit_ds L2.kit_db L2.kit_dd L2.mn1 L2.mn2 List.drop_succ_cons List.drop_zero List.take_succ_cons List.take_zero Nat.reduceEqDiff not_false_eq_true L2.tDInG L2.tDNotInG L2.tDGetG L2.keyOf_s L2.keyOf_i List.cons.injEq L2.tDNewK L2.start List.map_cons List.map_nil List.length_cons List.length_nil List.replicate List.cons_append List.nil_append List.getElem?_cons_zero List.getElem?_cons_succ List.set_cons_zero List.set_cons_succ Option.some.injEq L2.V.int.injEq L2.V.str.injEq L2.V.ref.injEq L2.V.bl.injEq L2.HO.tup.injEq L2.HO.lst.injEq L2.HO.dK.injEq reduceCtorEq exists_eq_left' exists_and_left exists_eq_left exists_eq_right L2.CPow L2.CMul L2.CDiv decide_eq_true_eq L2.ofString_inj String.reduceEq decide_true decide_false Bool.false_eq_true if_true if_false if_pos and_true true_and or_false false_or or_true true_or and_false false_and exists_const exists_false Bool.not_true Bool.not_false L2.sz0 L2.sz1 L2.sz2 L2.sz3 L2.sz4 L2.sz5 L2.sz6 L2.atI_0 L2.atI_1 L2.atI_2 L2.atI_3 L2.atI_4 Nat.reduceAdd Nat.reduceSub Nat.zero_add Nat.reduceLeDiff Int.reducePow Int.reduceToNat Int.reduceLT Int.reduceLE Int.reduceNeg L2.na2 L2.na10 Nat.reducePow Nat.reduceLT"
def L2.lzPre : String := "lazyAnd reduceIte lazyIte exists_eq_left exists_eq_left' reduceIte L2.exBl L2.exIn L2.exRf L2.exSt L2.exSo quickVar L2.exIn1 L2.exRf1 L2.exRf2 L2.exRf3"
def L2.rdPre : String := "exists_eq_left exists_eq_left' reduceIte L2.exBl L2.exIn L2.exRf L2.exSt L2.exSo quickVar L2.exIn1 L2.exRf1 L2.exRf2 L2.exRf3"
open Lean in
def L2.rdArgs (pre : String) : MacroM (TSyntaxArray ``Lean.Parser.Tactic.simpLemma) := do
  let p ← (L2.rdPost.splitOn " ").toArray.mapM fun n => `(Lean.Parser.Tactic.simpLemma| $(mkIdent n.toName):ident)
  let a ← (pre.splitOn " ").toArray.mapM fun n => `(Lean.Parser.Tactic.simpLemma| ↓ $(mkIdent n.toName):ident)
  return a ++ p
namespace L2
open PySem PySem.Spec PyProof.Rows PySem.W
section
variable{X:Cx}{k k2 n:Nat}{ps ps2:List Str}{sp sp2:Sp}{m:Str}{pos apos:Pos}{o e:Expr}{es:List Expr}{t:TA}{ta:TE}{C C2:Addr}
end
end L2
namespace L2
open PySem PySem.Spec PyProof.Rows
end L2
namespace L2
open PySem PySem.Spec PyProof.Rows
structure Nx(prog:Program)(w:World)(i:Addr)(fp:List Addr)(T:Nat->Heap->Prop)(item:Nat->Option Value):Prop where
 keep:∀k h h',T k h->(∀b,b=i\/b∈fp->∀o,h.get? b=some o->h'.get? b=some o)->T k h'
 obj:∀k h,T k h->∃o,h.get? i=some o/\(∀v,o.data≠.cell v)/\o.cls≠.type "StopIteration"
 next:∀(A:Around) k x s (Q:Value->Shared->Prop) (E:Value->Shared->Prop),T k s.heap->item k=some x->(∀h',T (k+1) h'->Heap.SameBut i s.heap h'->Q x {s with heap:=h'})->wpAny (model prog w) A (Builtin.SmallTypes.nextOf (.ref i)) Q E s
 done:∀(A:Around) k s (Q:Value->Shared->Prop) (E:Value->Shared->Prop),A.handled=none->T k s.heap->item k=none->(∀h' e,Heap.ExtBut i s.heap h'->(∃o,h'.get? e=some o/\o.cls= .type "StopIteration")->E (.ref e) {s with heap:=h'})->wpAny (model prog w) A (Builtin.SmallTypes.nextOf (.ref i)) Q E s
section
variable{prog:Program}{w:World}{A:Around}{E:Value->Shared->Prop}{s:Shared}
structure ZA(z TI TO i j:Addr)(f1 f2:List Addr):Prop where
 tz:TI≠z
 oz:TO≠z
 iz:i≠z
 jz:j≠z
 to:TI≠TO
 ti:TI≠i
 tj:TI≠j
 oi:TO≠i
 oj:TO≠j
 ij:i≠j
 a1:∀b∈f1,b≠z/\b≠TO/\b≠i/\b≠j
 a2:∀b∈f2,b≠z/\b≠TO/\b≠i/\b≠j
variable{z TI TO i j:Addr}{f1 f2:List Addr}{T1 T2:Nat->Heap->Prop}{e1 e2:Nat->Option Value}
end
end L2
namespace L2
open PySem PySem.Spec PyProof.Rows
end L2
namespace L2
open PySem PySem.Spec PyProof.Rows
section
variable{prog:Program}{w:World}{A:Around}{E:Value->Shared->Prop}{s:Shared}{x y:Str}{t u:Tok}{Q:Value->Shared->Prop}
end
def rTupL:List V->Hp->VK->Prop:=λxs H Q=>∃l ys,xs= [.ref l]/\H l=some (.lst ys)/\∀p H',H p=none->Same H H'->H' p=some (.tup ys)->Q (.ref p) H'
theorem call_tupL{X:Cx}:CallR X (.type "tuple") rTupL:=by
 intro pins s σ H xs us Q I r h
 obtain⟨l,ys,rfl,hl,q⟩:=h
 obtain⟨u,rfl,ru⟩:=vals1 r
 cases ru
 obtain⟨its,rv,pl,hz⟩:=I.list (SqL.of hl)
 have le:its.length<=sizeLine:=by have:=rv.length;omega
 refine call_tuple_list pl.isList (λh' hk=>?_) (by simpa using le)
 have I1:=I.kept (t':=s.toks) hk
 have fr:H h'.objs.size=none:=I1.hok.fresh (Nat.le_refl _)
 have I2:=I1.laid (a:=h'.objs.size) (o:=.tup ys) (t':=s.toks) (h':=h'.push {cls:=.type "tuple",data:=.seq its.toArray}) (λb u e=>Heap.get?_push_of_some _ e) (Nat.le_refl _) ⟨hz,its,rv,⟨_,Heap.get?_push_size _ rfl,rfl,_,rfl⟩⟩
 exact⟨.ref h'.objs.size,_,I2,rfl,q _ _ fr (same_new fr _) upd_same⟩
end L2
namespace L2
open PySem PySem.Spec PyProof.Rows
section
variable{X:Cx}{i o:Expr}{ty:TE}{pos:Pos}{a:Addr}{kvs:List (Key×V)}
end
end L2
namespace L2
open PySem PySem.Spec PyProof.Rows
section
variable{M:Model}{A:Around}{E:Value->Shared->Prop}{s:Shared}{base:Heap}{env:Env}{outer:List Env}{L x:Addr}{oe:Obj}{vs:Array Value}{Q:Unit->Shared->Prop}
end
section
variable{X:Cx}{scope:Scope}{cl:List (Str×Addr)}{N:List Str}{C:Addr}{fp:List Addr}{s₀:Shared}{H₀:Hp}{pins:List (Addr×Obj)}{σ:St}{H:Hp}{s:Shared}
end
section
variable{P:Program}{w:World}{K:PySem.W.Frag}{mg:Str->Option Value}{base:Heap}{N:List Str}{qual:Str}{scope:Scope}{f:Addr}{cd:Value}{A:Around}{outer:List Env}{s:Shared}{H:Hp}{E:XK}
end
section
variable{X:Cx}{scope:Scope}{cl:List (Str×Addr)}{N:List Str}{cap:List Nat}{k:Nat}{tg:Expr}{g:TG}{pos:Pos}{iter elt:Expr}{ifs:List Expr}{wi:TI}{tc:TT}{te:TE}
end
end L2
namespace L2
open PySem PySem.Spec PyProof.Rows
section
variable{prog:Program}{w:World}{A:Around}{E:Value->Shared->Prop}{s:Shared}{z TI TO i j:Addr}{f2:List Addr}{T2:Nat->Heap->Prop}{e2:Nat->Option Value}
end
end L2
namespace L2
open PySem PySem.Spec PyProof.Rows
section
variable{prog:Program}{w:World}
end
end L2
namespace L2
open PySem PySem.Spec PyProof.Rows
section
variable{prog:Program}{w:World}
end
end L2
namespace L2
open PySem PySem.Spec PyProof.Rows
def tForU(nf:Addr->Prop)(wi:TI)(g:TG)(tb:TS):TS:=λD=>tFor wi g tb {D with nx:=λσ' H'=>∃d o kvs,nf d/\H' d=some (.frz o (.dK kvs))/\D.nx σ' (upd H' d (.dK kvs))}
end L2
namespace L2
open PySem PySem.Spec PyProof.Rows
def rClrG:V->List V->Hp->VK->Prop:=λx vs H Q=>∃l xs,x= .ref l/\vs= []/\H l=some (.lst xs)/\∀H',Mu H l (.lst []) H'->Q .non H'
theorem mt_clearG{X:Cx}:MtR X "list.clear" rClrG:=by
 intro pins s σ H x vs v us Q I rx rv h
 obtain⟨l,xs,rfl,rfl,hH,q⟩:=h
 cases rx
 have hus:=rv.zero
 subst hus
 obtain⟨z,its,n,r,hl,e⟩:=I.lstM hH
 refine call_meets F.slot_list_clear ⟨_,e,rfl⟩ F.entry_list_clear (F.args_list_clear_1 _) (AutoSeq1.list_clear_list_0 l its.toArray n (by rw [List.size_toArray];omega)) ⟨e,?_⟩
 exact⟨.non,_,I.lset (its':=[]) hH e rfl .nil (Nat.zero_le _),rfl,q _ .mk'⟩
end L2
theorem L2.hideL{a b:L2.TS}{D σ H}(h:let T:=b;L2.tSeq a T D σ H):L2.tSeq a b D σ H:=h
theorem L2.hRet{a D σ H}(h:L2.tRet a D σ H):L2.tRet a D σ H:=h
theorem L2.hIf{a b c D σ H}(h:L2.tIfS a b c D σ H):L2.tIfS a b c D σ H:=h
theorem L2.hDrop{a D σ H}(h:L2.tDrop a D σ H):L2.tDrop a D σ H:=h
theorem L2.xL0{H:L2.Hp}{a:PySem.Addr}{v0:List L2.V}{R:List L2.V->Prop}(h:H a=some (.lst v0)):(∃v,H a=some (.lst v)/\R v)=R v0:=propext ⟨λe=>by obtain⟨v,e,r⟩:=e;rw [h] at e;cases e;exact r,λr=>⟨v0,h,r⟩⟩
theorem L2.xT0{H:L2.Hp}{a:PySem.Addr}{v0:List L2.V}{R:List L2.V->Prop}(h:H a=some (.tup v0)):(∃v,H a=some (.tup v)/\R v)=R v0:=propext ⟨λe=>by obtain⟨v,e,r⟩:=e;rw [h] at e;cases e;exact r,λr=>⟨v0,h,r⟩⟩
theorem L2.xD0{H:L2.Hp}{a:PySem.Addr}{v0:List (L2.Key×L2.V)}{R:List (L2.Key×L2.V)->Prop}(h:H a=some (.dK v0)):(∃v,H a=some (.dK v)/\R v)=R v0:=propext ⟨λe=>by obtain⟨v,e,r⟩:=e;rw [h] at e;cases e;exact r,λr=>⟨v0,h,r⟩⟩
theorem L2.xI0{H:L2.Hp}{a:PySem.Addr}{C d0:PySem.Addr}{f0:List (PySem.Str×L2.V)}{R:PySem.Addr->List (PySem.Str×L2.V)->Prop}(h:H a=some (.ins C d0 f0)):(∃d f,H a=some (.ins C d f)/\R d f)=R d0 f0:=propext ⟨λe=>by obtain⟨d,f,e,r⟩:=e;rw [h] at e;cases e;exact r,λr=>⟨d0,f0,h,r⟩⟩
theorem L2.xI1{H:L2.Hp}{a:PySem.Addr}{α0:Sort _}{C d0:PySem.Addr}{f0:List (PySem.Str×L2.V)}{R:PySem.Addr->List (PySem.Str×L2.V)->α0->Prop}(h:H a=some (.ins C d0 f0)):(∃d f x0,H a=some (.ins C d f)/\R d f x0)=∃x0,R d0 f0 x0:=propext ⟨λe=>by obtain⟨d,f,x0,e,r⟩:=e;rw [h] at e;cases e;exact⟨x0,r⟩,λe=>by obtain⟨x0,r⟩:=e;exact⟨d0,f0,x0,h,r⟩⟩
theorem L2.xE1{H:L2.Hp}{a:PySem.Addr}{α0:Sort _}{v0:List L2.V}{R:List L2.V->α0->Prop}(h:H a=some (.tup v0)):(∃v x0,(H a=some (.tup v)\/H a=some (.lst v))/\R v x0)=∃x0,R v0 x0:=propext ⟨λe=>by obtain⟨v,x0,e,r⟩:=e;rw [h] at e;rcases e with e | e<;>cases e;exact⟨x0,r⟩,λe=>by obtain⟨x0,r⟩:=e;exact⟨v0,x0,.inl h,r⟩⟩
theorem L2.xF1{H:L2.Hp}{a:PySem.Addr}{α0:Sort _}{v0:List L2.V}{R:List L2.V->α0->Prop}(h:H a=some (.lst v0)):(∃v x0,(H a=some (.tup v)\/H a=some (.lst v))/\R v x0)=∃x0,R v0 x0:=propext ⟨λe=>by obtain⟨v,x0,e,r⟩:=e;rw [h] at e;rcases e with e | e<;>cases e;exact⟨x0,r⟩,λe=>by obtain⟨x0,r⟩:=e;exact⟨v0,x0,.inr h,r⟩⟩
def L2.xNames : String := "xD0 xE1 xF1 xI0 xI1 xL0 xL1 xT0 xT1"
open Lean Meta Simp in
simproc_decl exHp (Exists _) := fun e => do
  let _ := L2.xNames
  let mut b := e
  let mut n := 0
  while b.isAppOfArity ``Exists 2 && b.appArg!.isLambda do
    b := b.appArg!.bindingBody!
    n := n + 1
  let_expr And A _ := b | return .continue
  let (o, X) := match_expr A with
    | Or X _ => (true, X)
    | _ => (false, A)
  let_expr Eq _ l r := X | return .continue
  if l.hasLooseBVars then return .continue
  let_expr Option.some _ rc := r | return .continue
  let some c := rc.getAppFn.constName? | return .continue
  for d in (← getLCtx) do
    if d.isImplementationDetail then continue
    let ty ← instantiateMVars d.type
    let_expr Eq _ l' r' := ty | continue
    unless l' == l do continue
    let_expr Option.some _ rc' := r' | continue
    let some c' := rc'.getAppFn.constName? | continue
    let (s, k) := if o then
        (if c == `L2.HO.tup then (if c' == `L2.HO.tup then "xE" else "xF") else (if c' == `L2.HO.lst then "xG" else "xJ"), n - 1)
      else if c != c' then ("", 0)
      else if c == `L2.HO.lst then ("xL", n - 1) else if c == `L2.HO.tup then ("xT", n - 1) else if c == `L2.HO.dK then ("xD", n - 1) else if c == `L2.HO.ins && n ≥ 2 then ("xI", n - 2) else ("", 0)
    if s == "" || k > 3 then continue
    let nm := Name.mkStr `L2 (s ++ toString k)
    unless (← getEnv).contains nm do continue
    let thm ← mkConstWithFreshMVarLevels nm
    let (ms, _, ty2) ← forallMetaTelescope (← inferType thm)
    let_expr Eq _ a2 b2 := ty2 | continue
    unless (← withReducible (isDefEq a2 e)) do continue
    unless (← isDefEq (← inferType ms.back!) ty) do continue
    ms.back!.mvarId!.assign d.toExpr
    let res ← instantiateMVars b2
    return .visit { expr := res.headBeta, proof? := some (← instantiateMVars (mkAppN thm ms)) }
  return .continue
open Lean Meta Simp in
simproc_decl quickV2 (L2.tVar _ _ _ _) := fun e => do
  let_expr L2.tVar i s H Q := e | return .continue
  let l ← mkAppM ``GetElem?.getElem? #[s, i]
  let w ← whnfD l
  let_expr Option.some _ o := w | return .continue
  let o' ← whnfD o
  let_expr Option.some _ v := o' | return .continue
  return .visit { expr := (mkApp2 Q v H).headBeta, proof? := some (mkApp6 (mkConst ``L2.qVar) i s H Q v (← mkEqRefl (← mkAppM ``Option.some #[← mkAppM ``Option.some #[v]]))) }
def L2.lzPre2 : String := "lazyAnd reduceIte lazyIte exHp exists_eq_left exists_eq_left' reduceIte L2.exBl L2.exIn L2.exRf L2.exSt L2.exSo quickV2 L2.exIn1 L2.exRf1 L2.exRf2 L2.exRf3"
@[elab_as_elim] theorem L2.len1 {α:Type} {p:List α->Prop} (us:List α) (hl:us.length=1) (h:∀a,p [a]):p us:=
 match us,hl with
 | [a],_=>h a
@[elab_as_elim] theorem L2.len2 {α:Type} {p:List α->Prop} (us:List α) (hl:us.length=2) (h:∀a b,p [a,b]):p us:=
 match us,hl with
 | [a,b],_=>h a b
@[elab_as_elim] theorem L2.len3 {α:Type} {p:List α->Prop} (us:List α) (hl:us.length=3) (h:∀a b c,p [a,b,c]):p us:=
 match us,hl with
 | [a,b,c],_=>h a b c
@[elab_as_elim] theorem L2.len4 {α:Type} {p:List α->Prop} (us:List α) (hl:us.length=4) (h:∀a b c d,p [a,b,c,d]):p us:=
 match us,hl with
 | [a,b,c,d],_=>h a b c d
namespace L2
open PySem PySem.Spec PyProof.Rows
def rExtG:V->List V->Hp->VK->Prop:=λx vs H Q=>∃l xs b ys,x= .ref l/\vs= [.ref b]/\H l=some (.lst xs)/\H b=some (.lst ys)/\xs.length+ys.length<100000/\∀H',Mu H l (.lst (xs++ys)) H'->Q .non H'
end L2
namespace L2
open PySem PySem.Calls PySem.Spec PyProof.Rows
section
variable{prog:Program}{w:World}{A:Around}{E:Value->Shared->Prop}{s:Shared}
end
section
variable{X:Cx}
def tListRev(ta:TA):TE:=λσ H Q=>ta σ H λvs H1=>∃l xs,vs= [.ref l]/\H1 l=some (.lst xs)/\∀p H',H1 p=none->Same H1 H'->H' p=some (.lst xs.reverse)->Q (.ref p) H'
end
end L2
namespace L2
open PySem PySem.Calls PySem.Spec PyProof.Rows
section
variable{prog:Program}{w:World}{A:Around}{E:Value->Shared->Prop}{s:Shared}
def IsRt(h:Heap)(a l:Addr)(i:Int):Prop:=∃o,h.get? a=some o/\o.cls= .type "reversed"/\o.data= .fields #[.ref l,rawInt i]
end
end L2
namespace L2
open PySem PySem.Calls PySem.Spec PyProof.Rows
section
variable{prog:Program}{w:World}{A:Around}{E:Value->Shared->Prop}{s:Shared}
end
section
variable{X:Cx}
def tListRevT(ta:TA):TE:=λσ H Q=>ta σ H λvs H1=>∃l xs,vs= [.ref l]/\H1 l=some (.tup xs)/\xs.length<100000/\∀p H',H1 p=none->Same H1 H'->H' p=some (.lst xs.reverse)->Q (.ref p) H'
end
end L2
namespace L2
open PySem PySem.Spec PyProof.Rows
def rLenG:List V->Hp->VK->Prop:=λxs H Q=>∃p ys,xs= [.ref p]/\(H p=some (.tup ys)\/H p=some (.lst ys))/\Q (.int ys.length) H
theorem call_lenG{X:Cx}:CallR X (.builtin "len") rLenG:=by
 intro pins s σ H xs us Q I r h
 obtain⟨p,ys,e,hp,q⟩:=h
 refine call_len_seq pins s σ H xs us Q I r ⟨p,ys,e,?_,q⟩
 rcases hp with hp | hp
 ·exact .inr (SqT.of hp)
 ·exact .inl (SqL.of hp)
end L2
namespace L2
open PySem
def rEqE:R2:=λx y H Q=>∃a b xs,x= .ref a/\y= .ref b/\H a=some (.lst xs)/\H b=some (.lst [])/\Q (.bl xs.isEmpty) H
end L2
namespace L2
open PySem PySem.Spec PyProof.Rows
section
variable{X:Cx}{o e f:Expr}{ty tx:TE}{apos cpos:Pos}{a:Addr}{kvs:List (Key×V)}
end
section
variable{X:Cx}
def rCatU(K:PySem.W.Frag):R2:=λx y H Q=>∃a b xs ys,x= .ref a/\y= .ref b/\SqT K H a xs/\SqT K H b ys/\xs.length+ys.length<=sizeLine/\
 ∀p H',Same H H'->SqT K H' p (xs++ys)->Q (.ref p) H'
def rMulT(K:PySem.W.Frag):R2:=λx y H Q=>∃a xs k,x= .ref a/\y= .int k/\SqT K H a xs/\ -(2^63)<=k/\k<2^63/\xs.length*k.toNat<=sizeLine/\xs≠[]/\
 ∀p H',Same H H'->SqT K H' p (List.replicate k.toNat xs).flatten->Q (.ref p) H'
end
end L2
namespace L2
open PySem PySem.Spec PyProof.Rows
section
variable{prog:Program}{w:World}{A:Around}{E:Value->Shared->Prop}
end
open AutoSeq1 (wpAny_loadPart')
section
variable{prog:Program}{w:World}{A:Around}{E:Value->Shared->Prop}{s:Shared}
end
end L2
namespace L2
open PySem PySem.Spec PyProof.Rows
section
variable{prog:Program}{w:World}{A:Around}{E:Value->Shared->Prop}{s:Shared}
end
section
variable{M:Model}{A:Around}{E:Value->Shared->Prop}{s:Shared}{env:Env}
end
end L2
namespace L2
open PySem PySem.Spec PyProof.Rows
section
variable{prog:Program}{w:World}{A:Around}{E:Value->Shared->Prop}{s:Shared}
theorem type_code {T newId initId : String} {args : List Value} {kw : List (Str × Value)} {Q Q1 : Value → Shared → Prop} (ft : TypeCalled T newId initId) (ct : checkTypeCall T ⟨args, kw⟩ = pure ())
    (hN : codeAny (model prog w) A.in1 (.call (.builtin newId) ⟨.type T :: args, kw⟩) (wants Q1 E) s)
    (hI : ∀ obj s1, Q1 obj s1 → s1.TypeIs obj T ∧ codeAny (model prog w) A.in1 (.call (.builtin initId) ⟨obj :: args, kw⟩) (wants (fun r s2 => r = .none ∧ Q obj s2) E) s1) : wpAny (model prog w) A (call (.type T) args kw) Q E s := by
  obtain ⟨c, tl, hmro⟩ := ft.mro
  have a1 := ft.made
  have a2 := ft.sub
  have a3 := ft.notType
  have a4 := ft.canCreate
  refine wpAny_call (codeAny_of_tree ?_)
  show wpAny _ _ (callAny (.type T) _) _ _ _
  refine wpAny_pure ⟨Code.quiet_builtin _ (by decide +kernel), codeAny_builtin F.entry_type_call ?_⟩
  rw [Around.under_plain (weight_type_call_type T args kw) (units_type_call_type T args kw)]
  repeat (any_goals (first | assumption | wp_step))
  refine codeAny_mono hN fun r s1 hr => ?_
  rcases r with e | fl
  · exact hr
  · cases fl with
    | ret obj =>
      obtain ⟨hT, hi⟩ := hI _ _ hr
      have b1 := ft.init.lookup
      have b2 := ft.init.bind obj
      repeat (any_goals (first | assumption | wp_step))
      refine codeAny_mono hi fun r2 s2 hr2 => ?_
      rcases r2 with e | fl2
      · exact hr2
      · cases fl2 with
        | ret r =>
          obtain ⟨rfl, hq⟩ := hr2
          repeat (any_goals (first | assumption | wp_step))
        | _ => exact hr2.elim
    | _ => exact hr.elim
end
def met{K:Type}[DecidableEq K](val:Nat->K):Nat->K->Bool
 | 0,_=>false
 | i+1,k=>met val i k || decide (k=val i)
def nMet{K:Type}[DecidableEq K](val:Nat->K):Nat->Nat
 | 0=>0
 | i+1=>if met val i (val i) then nMet val i else nMet val i+1
section
variable{prog:Program}{w:World}{A:Around}{R:Result->Shared->Prop}{I:Addr}{fp wr:List Addr}{G:Array GenState->Array GenState->Prop}{n:Nat}{P:Nat->Value->Prop}{St:Nat->Shared->Prop}{K:Type}[DecidableEq K]{knd:PySem.KeyKind prog w K}
end
section
variable{prog:Program}{w:World}{A:Around}{E:Value->Shared->Prop}{s:Shared}{K:Type}[DecidableEq K]{knd:PySem.KeyKind prog w K}
abbrev setNew(led:Bool):Obj:={cls:=.type "set",dict:=none,data:=.set #[] 0 (.fresh 0 0 led)}
end
section
variable{X:Cx}
def tLenSet(ta:TA):TE:=λσ H Q=>ta σ H λvs H1=>∃(l:Addr) (ts:List Str),vs= [.ref l]/\H1 l=some (.lst (ts.map V.str))/\ts.length<=1000/\Q (.int ((nMet (λi=>ts.getD i "") ts.length:Nat):Int)) H1
def rMaxL:List V->Hp->VK->Prop:=λxs H Q=>∃(p:Addr) (ns:List Int),xs= [.ref p]/\H p=some (.lst (ns.map V.int))/\0<ns.length/\∀M:Int,M∈ns->(∀a∈ns,a<=M)->Q (.int M) H
end
end L2
namespace L2
open PySem PySem.Spec PyProof.Rows
section
variable{X:Cx}{a:Expr}{ta:TE}{pos:Pos}
def tNotL(ta:TE):TE:=λσ H Q=>ta σ H λx H1=>∃l xs,x= .ref l/\H1 l=some (.lst xs)/\Q (.bl xs.isEmpty) H1
end
end L2
namespace L2
open PySem PySem.Spec PyProof.Rows
section
variable{prog:Program}{w:World}{K:Type}[DecidableEq K]{knd:HeapKind prog w K}{A:Around}{E:Value->Shared->Prop}{s:Shared}
end
section
variable{X:Cx}{pins:List (Addr×Obj)}{σ:St}{H:Hp}{s:Shared}{a b:Addr}{v:V}{r:Value}{A:Around}{E:Value->Shared->Prop}{kvs:List (List Key×V)}{k:List Key}
end
section
variable{X:Cx}{o e f:Expr}{apos cpos:Pos}{td ty tx:TE}
def tSetdT(td ty tx:TE):TE:=λσ H Q=>td σ H λx H1=>∃a,x= .ref a/\(∃kvs,H1 a=some (.dT kvs))/\ty σ H1 λy H2=>tx σ H2 λz H3=>
 ∃kvs k b,H3 a=some (.dT kvs)/\y= .ref b/\H3 b=some (.tup (k.map kV))/\kvs.length<sizeLine/\(∀v,valV kvs k=some v->Q v H3)/\(valV kvs k=none->Q z (upd H3 a (.dT (putK kvs k z))))
def tDGetT(td ty tx:TE):TE:=λσ H Q=>td σ H λx H1=>∃a,x= .ref a/\(∃kvs,H1 a=some (.dT kvs))/\ty σ H1 λy H2=>tx σ H2 λz H3=>
 ∃kvs k b,H3 a=some (.dT kvs)/\y= .ref b/\H3 b=some (.tup (k.map kV))/\Q ((valV kvs k).getD z) H3
end
end L2
namespace L2
open PySem PySem.Spec PyProof.Rows
def lay0(t:SetTable)(ks:Array Int)(k:Int):Array Int×SetTable×Bool:=match t.freeSlot (hashInt k) with
 | some (slot,d)=>(SetTable.insertAt ks (t.put slot).2 k,(t.put slot).1.orStandIn (SetTable.insertAt ks (t.put slot).2 k).size,d)
 | none=>(ks.push k,t.standIn (ks.size+1),false)
def relay0(t:SetTable)(ks:Array Int)(wanted:Nat):Array Int×SetTable:=match t.relaid (ks.map hashInt) wanted with
 | some (t',order)=>if coversAll order ks.size&&t'.fits (order.filterMap (ks[·]?)).size then (order.filterMap (ks[·]?),t') else (ks,t.standIn ks.size)
 | none=>(ks,t.standIn ks.size)
def add0(st:Array Int×SetTable)(k:Int):Array Int×SetTable:=if st.1.contains k then st else
 if (!(lay0 st.2 st.1 k).2.2&&(lay0 st.2 st.1 k).2.1.tooFull)=true then relay0 (lay0 st.2 st.1 k).2.1 (lay0 st.2 st.1 k).1 (SetTable.grown (lay0 st.2 st.1 k).1.size) else ((lay0 st.2 st.1 k).1,(lay0 st.2 st.1 k).2.1)
def keyE(e:Int×Value):Int:=match e.2 with
 | .int k _=>k
 | _=>0
def IsE(e:Int×Value):Prop:=∃k tk,e=(hashInt k,.int k tk)
theorem IsE.hash{e:Int×Value}(h:IsE e):e.1=hashInt (keyE e):=by obtain⟨k,tk,rfl⟩:=h;rfl
theorem ins_map{α β:Type}(f:α->β)(xs:Array α)(p:Nat)(x:α):(SetTable.insertAt xs p x).map f=SetTable.insertAt (xs.map f) p (f x):=by
 unfold SetTable.insertAt
 simp
theorem ins_size{α:Type}(xs:Array α)(p:Nat)(x:α):(SetTable.insertAt xs p x).size=xs.size+1:=by
 have:=(SetTable.insertAt_perm xs p x).length_eq
 simpa using this
theorem lay_nat{es:Array (Int×Value)}{t:SetTable}{k:Int}{tk:Tok}:((layNew t es (hashInt k) (.int k tk)).1.map keyE,(layNew t es (hashInt k) (.int k tk)).2.1,(layNew t es (hashInt k) (.int k tk)).2.2.1)=lay0 t (es.map keyE) k:=by
 unfold layNew lay0
 cases e:t.freeSlot (hashInt k) with
 | none=>simp only [Array.map_push,Array.size_map];rfl
 | some r=>
  obtain⟨slot,d⟩:=r
  simp only [ins_map,ins_size,Array.size_map]
  rfl
theorem pick_map{α β:Type}(f:α->β)(es:Array α)(order:Array Nat):(order.filterMap (es[·]?)).map f=order.filterMap ((es.map f)[·]?):=by
 rw [Array.map_filterMap]
 congr 1
 funext i
 rw [Array.getElem?_map]
theorem relay_nat{es:Array (Int×Value)}{t:SetTable}{n:Nat}(hE:∀e∈es.toList,IsE e):((relayAll t es n).1.map keyE,(relayAll t es n).2.1)=relay0 t (es.map keyE) n:=by
 have hh:(es.map keyE).map hashInt=es.map (·.1):=by
  rw [Array.map_map]
  refine Array.map_congr_left λe he=>?_
  exact(hE e (Array.mem_toList_iff.mpr he)).hash.symm
 have hs:∀order:Array Nat,(order.filterMap ((es.map keyE)[·]?)).size=(order.filterMap (es[·]?)).size:=λorder=>by rw [<-pick_map,Array.size_map]
 unfold relayAll relay0
 rw [hh,Array.size_map]
 cases e:t.relaid (es.map (·.1)) n with
 | none=>rfl
 | some r=>
  obtain⟨t',order⟩:=r
  dsimp only
  rw [hs]
  split
  ·rw [pick_map]
  ·rfl
section
variable{prog:Program}{w:World}{A:Around}{E:Value->Shared->Prop}{s:Shared}{a:Addr}
def SetX(h:Heap)(a:Addr)(es:Array (Int×Value))(ep:Nat)(t:SetTable):Prop:=∃o:Obj,h.get? a=some o/\o.ExactSet/\o.data= .set es ep t
theorem IsE.elems{es:Array (Int×Value)}(h:∀e∈es.toList,IsE e):ElemsOf (intKind prog w) es.toList:=λe he=>by
 obtain⟨k,tk,rfl⟩:=h e he
 exact⟨⟨k,PySem.intKind_is _ _ _ _,rfl⟩,rfl⟩
theorem SetX.put{h:Heap}{es es':Array (Int×Value)}{ep:Nat}{t t':SetTable}(x:SetX h a es ep t):SetX (h.update a (Obj.putSet es' t')) a es' (ep+1) t':=by
 obtain⟨o,ho,hex,hd⟩:=x
 refine⟨{o with data:=.set es' (ep+1) t'},?_,hex,rfl⟩
 have:=Heap.get?_update_self (Obj.putSet es' t') ho (by rw [putSet_of es' t' hd];rfl)
 rw [putSet_of es' t' hd] at this
 exact this
theorem keys_mem{es:Array (Int×Value)}(h:∀e∈es.toList,IsE e)(k:Int):(es.map keyE).contains k=(es.toList.findIdx? λe=>(intKind prog w).is k e.2).isSome:=by
 rw [Bool.eq_iff_iff,Array.contains_iff_mem,List.findIdx?_isSome,List.any_eq_true]
 constructor
 ·intro m
  obtain⟨e,he,rfl⟩:=Array.mem_map.mp m
  obtain⟨k,tk,rfl⟩:=h e (Array.mem_toList_iff.mpr he)
  exact⟨_,Array.mem_toList_iff.mpr he,PySem.intKind_is _ _ _ _⟩
 ·rintro⟨e,he,hk⟩
  obtain⟨k',tk,rfl⟩:=h e he
  have:k=k':=(intKind prog w).inj _ _ _ hk (PySem.intKind_is _ _ _ _)
  subst this
  exact Array.mem_map.mpr ⟨_,Array.mem_toList_iff.mp he,rfl⟩
def PutQ(s:Shared)(a:Addr)(st:Array Int×SetTable)(l1:List (Int×Value))(r:Option Bool)(s1:Shared):Prop:=r=some true/\∃h' es' ep' t',Heap.SameBut a s.heap h'/\SetX h' a es' ep' t'/\(∀e∈es'.toList,IsE e)/\(es'.map keyE,t')=st/\t'.fits es'.size=true/\es'.toList.Perm l1/\s1={s with heap:=h'}
theorem add_tail{g:Bool->Sem Unit}(hg:∀(b:Bool) (s1:Shared) (Q':Unit->Shared->Prop),Q' () s1->wpAny (model prog w) A (g b) Q' E s1){es es1:Array (Int×Value)}{ep:Nat}{t t1:SetTable}{wd:Bool}{st:Array Int×SetTable}(x:SetX s.heap a es ep t)(hE1:∀e∈es1.toList,IsE e)(hb:es1.size<scanBound)(hf1:t1.fits es1.size=true)
 (ad:st=if (!wd&&t1.tooFull)=true then relay0 t1 (es1.map keyE) (SetTable.grown es1.size) else (es1.map keyE,t1)):
 wpAny (model prog w) A (do
  storeSet a es1 t1
  if (!wd && t1.tooFull) = true then do
      g (relayAll t1 es1 (SetTable.grown es1.size)).2.2
      storeSet a (relayAll t1 es1 (SetTable.grown es1.size)).1 (relayAll t1 es1 (SetTable.grown es1.size)).2.1
      pure (some true)
   else pure (some true)) (PutQ s a st es1.toList) E s:=by
 obtain⟨o,ho,hex,hd⟩:=id x
 refine wpAny_bind (wpAny_storeSet_of ho hd ?_ (fits_of_scanBound hb))
 have x1:SetX _ a es1 (ep+1) t1:=x.put
 have sb1:=Heap.SameBut.update s.heap a (Obj.putSet es1 t1)
 split
 ·next c=>
  have hp2:=relayAll_perm t1 es1 (SetTable.grown es1.size)
  have hn2:=relay_nat (t:=t1) (n:=SetTable.grown es1.size) hE1
  have hf2:=relayAll_fits t1 es1 (SetTable.grown es1.size)
  rw [if_pos c,<-hn2] at ad
  generalize hR:relayAll t1 es1 (SetTable.grown es1.size)=R at hp2 ad hf2⊢
  obtain⟨es2,t3,g2⟩:=R
  dsimp only at hp2 ad hf2⊢
  have z2:es2.size=es1.size:=by rw [<-Array.length_toList,hp2.length_eq,Array.length_toList]
  obtain⟨o1,ho1,hex1,hd1⟩:=id x1
  refine wpAny_bind (hg _ _ _ (wpAny_bind (wpAny_storeSet_of ho1 hd1 ?_ (fits_of_scanBound (by omega)))))
  exact wpAny_pure ⟨rfl,_,es2,_,t3,sb1.trans (Heap.SameBut.update _ a _),x1.put,λe he=>hE1 e (hp2.mem_iff.mp he),ad.symm,hf2,hp2,rfl⟩
 ·next c=>
  rw [if_neg c] at ad
  exact wpAny_pure ⟨rfl,_,es1,_,t1,sb1,x1,hE1,ad.symm,hf1,.refl _,rfl⟩
def add1(l:List Int)(k:Int):List Int:=if l.contains k then l else l++[k]
theorem add_x{es:Array (Int×Value)}{ep:Nat}{t:SetTable}{k:Int}{tk:Tok}{Q:Bool->Shared->Prop}(x:SetX s.heap a es ep t)(hE:∀e∈es.toList,IsE e)(hf:t.fits es.size=true)(hb:es.size+1<scanBound)
 (h:∀b h' es' ep' t',Heap.SameBut a s.heap h'->SetX h' a es' ep' t'->(∀e∈es'.toList,IsE e)->(es'.map keyE,t')=add0 (es.map keyE,t) k->t'.fits es'.size=true->(es'.map keyE).toList.Perm (add1 (es.map keyE).toList k)->Q b {s with heap:=h'}):
 wpAny (model prog w) A (setAddHashed a (.int k tk) (hashInt k)) Q E s:=by
 obtain⟨o,ho,hex,hd⟩:=id x
 have hel:ElemsOf (intKind prog w) es.toList:=IsE.elems hE
 have ki:(intKind prog w).is k (.int k tk)=true:=PySem.intKind_is _ _ _ _
 have kc:=keys_mem (prog:=prog) (w:=w) hE k
 unfold setAddHashed setAddHashedIn
 refine wpAny_holding (wpAny_bind (wpAny_setState_of ho hd hf ?_))
 dsimp only
 rw [byScan_of rfl (by omega) hel,if_pos rfl]
 unfold setAddByScan
 refine wpAny_bind (wpAny_bind (wpAny_rule (wpAny_bind (wpAny_setScan_of (knd:=intKind prog w) ki ho hd hf hel ?_))))
 cases hr:List.findIdx? (λe=>(intKind prog w).is k e.2) es.toList with
 | some j=>
  dsimp only
  rw [hr] at kc
  have es0:s={s with heap:=s.heap}:=by cases s;rfl
  refine wpAny_pure (wpAny_pure ?_)
  rw [es0]
  refine h _ s.heap es ep t (Heap.SameBut.refl a s.heap) x hE ?_ hf ?_
  ·unfold add0
   rw [kc]
   rfl
  ·unfold add1
   rw [Array.contains_toList,kc]
   exact .refl _
 | none=>
  dsimp only
  rw [hr] at kc
  have gw:∀(b:Bool) {s1:Shared} {Q':Unit->Shared->Prop},Q' () s1->wpAny (model prog w) A (match b with | true=>rule "set.scan.the-table-gave-way" | false=>pure ()) Q' E s1:=λb s1 Q' hq=>by
   cases b
   ·exact wpAny_pure hq
   ·exact wpAny_rule hq
  have hp:=layNew_perm t es (hashInt k) (.int k tk)
  have hfi:=layNew_fits t es (hashInt k) (.int k tk)
  have hn:=lay_nat (es:=es) (t:=t) (k:=k) (tk:=tk)
  have ad:add0 (es.map keyE,t) k=if (!(lay0 t (es.map keyE) k).2.2&&(lay0 t (es.map keyE) k).2.1.tooFull)=true then relay0 (lay0 t (es.map keyE) k).2.1 (lay0 t (es.map keyE) k).1 (SetTable.grown (lay0 t (es.map keyE) k).1.size) else ((lay0 t (es.map keyE) k).1,(lay0 t (es.map keyE) k).2.1):=by
   unfold add0
   rw [kc]
   rfl
  generalize hL:layNew t es (hashInt k) (.int k tk)=L at hp hfi hn⊢
  obtain⟨es1,t1,wd,gave⟩:=L
  dsimp only at hp hfi hn⊢
  rw [<-hn] at ad
  dsimp only at ad
  rw [Array.size_map] at ad
  rw [Array.toList_push] at hp
  have hE1:∀e∈es1.toList,IsE e:=λe he=>by
   rcases List.mem_append.mp (hp.mem_iff.mp he) with z | z
   ·exact hE e z
   ·rw [List.mem_singleton.mp z];exact⟨k,tk,rfl⟩
  have hz:es1.size=es.size+1:=by rw [<-Array.length_toList,hp.length_eq,List.length_append,Array.length_toList];rfl
  refine wpAny_bind (gw _ ?_)
  have fin:∀r s1,PutQ s a (add0 (es.map keyE,t) k) es1.toList r s1->wpAny (model prog w) A (match r with | some added=>pure added | none=>setAddHashedIn a (.int k tk) (hashInt k) 99999) Q E s1:=λr s1 hh=>by
   obtain⟨rfl,h',es',ep',t',c1,c2,c3,c4,c5,c6,rfl⟩:=hh
   refine wpAny_pure (h _ h' es' ep' t' c1 c2 c3 c4 c5 ?_)
   unfold add1
   rw [Array.contains_toList,kc,Array.toList_map,Array.toList_map]
   exact(c6.map keyE).trans ((hp.map keyE).trans (by rw [List.map_append];exact .refl _))
  split
  ·refine wpAny_bind ?_
   rw [hashByValue_scannable 8 rfl]
   refine wpAny_pure ?_
   simp only [plainKind,↓reduceIte]
   refine wpAny_mono (add_tail ?_ x hE1 (by omega) hfi ad) fin λ_ _ z=>z
   intro b s1 Q' hq
   cases b<;>first | exact wpAny_pure hq | exact wpAny_rule hq
  ·refine wpAny_bind (wpAny_pure ?_)
   simp only [↓reduceIte]
   refine wpAny_mono (add_tail ?_ x hE1 (by omega) hfi ad) fin λ_ _ z=>z
   intro b s1 Q' hq
   cases b<;>first | exact wpAny_pure hq | exact wpAny_rule hq
end
end L2
namespace L2
open PySem PySem.Spec PyProof.Rows
def codT(st:Array Int×SetTable):Nat:=(st.1.toList.zip st.2.place.toList).foldl (λn p=>n*4096+(p.2*128+p.1.toNat)) (if st.2.mask=7 then 1 else 2)
def decL:Nat->Nat->List (Nat×Int)->Nat×List (Nat×Int)
 | 0,c,l=>(c,l)
 | n+1,c,l=>if c<4096 then (c,l) else decL n (c/4096) ((c%4096/128,((c%128:Nat):Int))::l)
def decT(c:Nat):Array Int×SetTable:=(((decL 7 c []).2.map (·.2)).toArray,{mask:=if (decL 7 c []).1=1 then 7 else 31,place:=((decL 7 c []).2.map (·.1)).toArray,dummies:= #[],finger:=0,led:=true,moves:=if (decL 7 c []).1=1 then 0 else 1,plain:=true})
def hs7:List Int:=[1,2,3,9,10,11,100]
def slotT(t:SetTable):Nat->Nat
 | 0=>0
 | i+1=>t.place.getD i 0+1
def goodT(st:Array Int×SetTable):Bool:=st.2.fits st.1.size&&(st.2.plain&&(st.2.led&&(decide (st.1.size<=7)&&(List.range (st.1.size+1)).all λi=>SetTable.below st.2.place (slotT st.2 i)==i)))
def cods0:List Nat:=[1,4225,4354,4483,4233,4362,4491,4708,17306212,17834596,18362980,17338980,17867364,18395748,17305995,17834379,16789899,17338763,17867147,17305866,17867138,17867139,17338634,17339137,17338626,17338755,17305987,17834371,16822659,17305858,17834378,17306377]
def cods1:List Nat:=[70884795145,70885323529,70884827913,70885356297,70886245129,70884794762,68770865546,71019012490,68905083274,73049612900,70884794755,70884794763,70884794980,68904554883,68905083267,68904587651,68905116035,68905611876,71019012483,68888306051,73049584228,70884827523,70885323364,71019541249,71019045251,71019541092,71019012865]
def cods2:List Nat:=[71019012491,71019012708,71019045633,71019574017,71020462849,71019045250,71019045259,71019045476,68754121091,73183801956,70884827522,68770898306,68905116034,73183797860,70884827531,70884827748,68754121099,68770898315,73183834724,68770369931,71019573860,68770337163,68770865547,68771426916,68888306059,73049616996,70885356132]
def cods3:List Nat:=[290344119349860,281683301020260,290346418717449,290344253567588,281685465281124,290893875163748,282166501618276,282164336796043,282164370350475,282164471013771,281683435237988,281685599498852,281683300458891,281683434676619,281683451453835,281683301020425,281683300491659,290896174531329,290894009381476,281683435238145,281683434709387,281616880022116]
def cods4:List Nat:=[281683317268875,281614581014923,281614614569355,281614715232651,290344253530724,290344253534820,290344254456585,290344253567753,281685599461988,290894009344612,282235355275876,282233056305538,282233089859970,282233190523266,281683300491650,281683434709378,281683468263810,290344253530889,281616879989348,290894009348708,282235355279972,281614581014915]
def cods5:List Nat:=[281614715232643,281614748787075,290894010270465,290894009381633,290894009344769,290893876052737,290896040313601,290893875163905,290894009348865,290893875130980,290893875159652,290893875131137,290893875159809,282233191019108,282233190523267,282233191019265,290344119317092,290346284499721,282233056801380,290344253534985,282233056305539,282166501585508]
def cods6:List Nat:=[282235221062244,282164336796035,282164471013763,282164504568195,282233190490499,282233073082755,282233056272771,282233207267715,282233056801545,290344120238857,290344119345764,290344119350025,290344119317257,281685465277028,282235221090916,282233056272778,282233089827210,282233190490506,281683434676618,281683300458890,281683468231050,290344119345929]
def cods7:List Nat:=[2342171017331905802,2342171030317999499,2342171021106779402,2342171017332434315,2378490167126173067,2378490157915481483,2342171017329657098,2378490157914952970,2378505629008438667,2342171021107307915,2342171017331905931,2342171017329656969,2342171021106779531,2342179895130498443,2342179885919278475,2342171017329657227,2378490157914953099,2342179885919806859,2342179885919278346,2414815901004113291,2342195357012764043,9593532502453368432011,9593568812725364106635,9742295686819647366539,9593532486982274946314,9593532486982275474827,9593532486982274946443,9593532486991486166411,39295109066679398180103563]
def codsT:List Nat:=cods0++(cods1++(cods2++(cods3++(cods4++(cods5++(cods6++(cods7)))))))
theorem cods_good:(codsT.all λc=>goodT (decT c))=true:=by decide +kernel
def shutT(c:Nat):Bool:=hs7.all λk=>codsT.contains (codT (add0 (decT c) k))&&decide (decT (codT (add0 (decT c) k))=add0 (decT c) k)
theorem shut0:cods0.all shutT=true:=by decide +kernel
theorem shut1:cods1.all shutT=true:=by decide +kernel
theorem shut2:cods2.all shutT=true:=by decide +kernel
theorem shut3:cods3.all shutT=true:=by decide +kernel
theorem shut4:cods4.all shutT=true:=by decide +kernel
theorem shut5:cods5.all shutT=true:=by decide +kernel
theorem shut6:cods6.all shutT=true:=by decide +kernel
theorem shut7:cods7.all shutT=true:=by decide +kernel
theorem cods_shut:codsT.all shutT=true:=by
 unfold codsT
 rw [List.all_append,List.all_append,List.all_append,List.all_append,List.all_append,List.all_append,List.all_append,shut0,shut1,shut2,shut3,shut4,shut5,shut6,shut7]
 rfl
theorem good_add{c:Nat}(hc:c∈codsT){k:Int}(hk:k∈hs7):∃c'∈codsT,add0 (decT c) k=decT c':=by
 have h:=List.all_eq_true.mp (List.all_eq_true.mp cods_shut c hc) k hk
 rw [Bool.and_eq_true,decide_eq_true_eq] at h
 exact⟨_,List.contains_iff_mem.mp h.1,h.2.symm⟩
theorem good_run{ns:List Int}(hn:∀k∈ns,k∈hs7):∀{c:Nat},c∈codsT->∃c'∈codsT,ns.foldl add0 (decT c)=decT c':=by
 induction ns with
 | nil=>intro c hc;exact⟨c,hc,rfl⟩
 | cons k ns ih=>
  intro c hc
  obtain⟨c',hc',e⟩:=good_add hc (hn k List.mem_cons_self)
  obtain⟨c2,h2,e2⟩:=ih (λk hk=>hn k (List.mem_cons_of_mem _ hk)) hc'
  exact⟨c2,h2,by rw [List.foldl_cons,e,e2]⟩
theorem good_all{ns:List Int}(hn:∀k∈ns,k∈hs7):goodT (ns.foldl add0 (#[],.fresh 0 0 true))=true:=by
 have e:decT 1=(#[],.fresh 0 0 true):=by decide +kernel
 obtain⟨c,hc,e2⟩:=good_run hn (c:=1) (by decide +kernel)
 rw [e] at e2
 rw [e2]
 exact List.all_eq_true.mp cods_good c hc
end L2
namespace L2
open PySem PySem.Spec PyProof.Rows
def byTx(w:World):Bool:=w.params.followText "set-order"
section
variable{prog:Program}{w:World}{A:Around}{E:Value->Shared->Prop}{s:Shared}
theorem set_new_x(a:Value){Q1:Value->Shared->Prop}(h:Q1 (.ref s.heap.objs.size) {s with heap:=s.heap.push (setNew (!byTx w))}):codeAny (model prog w) A (.call (.builtin "set.__new__") ⟨[.type "set",a],[]⟩) (wants Q1 E) s:=by
 refine codeAny_of_tree (show wpAny _ A.in1 (do checkBuiltinCall "set.__new__" ⟨[.type "set",a],[]⟩;again (.builtin "set.__new__" ⟨[.type "set",a],[]⟩)) _ _ s from ?_)
 refine wpAny_bind (wpAny_of_eq (PySem.F.newCall_set_1 a) (wpAny_pure ⟨plainId_quiet PySem.F.plain_set_new _,codeAny_builtin PySem.F.entry_set_new ?_⟩))
 rw [Around.under_plainId PySem.F.plain_set_new _]
 have hs:=sub_set_self
 obtain⟨hp,g,d,tk,os⟩:=s
 unfold Builtin.«set.__new__» Builtin.Frozenset.newClass;dsimp only;wp_walk
 refine wpAny_askSetting (wpAny_pure ?_)
 simp only [newObj];exact wpAny_bind (wpAny_alloc (wpAny_pure (wpAny_pure h)))
end
section
variable{prog:Program}{w:World}{A:Around}{R:Result->Shared->Prop}{I:Addr}{fp wr:List Addr}{G:Array GenState->Array GenState->Prop}{n:Nat}{P:Nat->Value->Prop}{St:Nat->Shared->Prop}
structure SetN(h:Heap)(S:Addr)(st0:Array Int×SetTable)(ns:List Int)(es:Array (Int×Value))(ep:Nat)(t:SetTable):Prop where
 x:SetX h S es ep t
 e:∀e∈es.toList,IsE e
 f:t.fits es.size=true
 r:(es.map keyE,t)=ns.foldl add0 st0
 p:(es.map keyE).toList.Perm (ns.foldl add1 [])
theorem SetN.stay{h h':Heap}{S:Addr}{st0:Array Int×SetTable}{ns:List Int}{es:Array (Int×Value)}{ep:Nat}{t:SetTable}(q:SetN h S st0 ns es ep t)(k:∀o,h.get? S=some o->h'.get? S=some o):SetN h' S st0 ns es ep t:=by
 obtain⟨o,ho,rest⟩:=q.x
 exact⟨⟨o,k _ ho,rest⟩,q.e,q.f,q.r,q.p⟩
theorem add1_len(ns:List Int):∀l:List Int,(ns.foldl add1 l).length<=l.length+ns.length:=by
 induction ns with
 | nil=>intro l;exact Nat.le_refl _
 | cons k ns ih=>
  intro l
  have:=ih (add1 l k)
  have h2:(add1 l k).length<=l.length+1:=by unfold add1;split<;>simp
  rw [List.foldl_cons,List.length_cons]
  omega
theorem add1_perm{l m:List Int}(h:l.Perm m)(k:Int):(add1 l k).Perm (add1 m k):=by
 have:l.contains k=m.contains k:=by rw [Bool.eq_iff_iff,List.contains_iff_mem,List.contains_iff_mem,h.mem_iff]
 unfold add1
 rw [this]
 split
 ·exact h
 ·exact h.append_right _
theorem set_loopN(W:WalksS prog w A.in1 I fp wr G n P St)(S:Addr)(hSf:S∉fp)(st0:Array Int×SetTable)(val:Nat->Int)(hval:∀i v,P i v->∃tk,v= .int (val i) tk)(hb:n+1<scanBound):
 ∀(k i:Nat) (s:Shared) es ep t,i+k=n->St i s->SetN s.heap S st0 ((List.range i).map val) es ep t->
  (∀s' es' ep' t',Moved (S::wr) G s s'->SetN s'.heap S st0 ((List.range n).map val) es' ep' t'->R (.ok (.ret .none)) s')->codeAny (model prog w) A (.builtin "set.update.loop" ⟨[.ref S,.ref I],[]⟩) R s:=by
 have hSw:S∉wr:=λh=>hSf (W.sub _ h)
 have up:∀b∈wr,b∈S::wr:=λb hb=>List.mem_cons_of_mem _ hb
 intro k
 induction k with
 | zero=>
  intro i s es ep t hk st hS hR
  obtain rfl:i=n:=hk
  refine codeAny_builtin PyProof.Rows.F.entry_set_update_loop ?_
  rw [Around.under_plainId PyProof.Rows.F.plain_set_update_loop _]
  show wpAny _ A.in1 (pyNext (.ref I) >>= _) _ _ s
  exact wpAny_bind (W.done s _ _ st λs' hm=>wpAny_pure (hR s' es ep t (hm.mono up) (hS.stay λo e=>hm.heap S o hSw e)))
 | succ k ih=>
  intro i s es ep t hk st hS hR
  refine codeAny_builtin PyProof.Rows.F.entry_set_update_loop ?_
  rw [Around.under_plainId PyProof.Rows.F.plain_set_update_loop _]
  show wpAny _ A.in1 (pyNext (.ref I) >>= _) _ _ s
  refine wpAny_bind (W.item i s _ _ (by omega) st λv s1 hP st1 hm=>?_)
  obtain⟨tk,rfl⟩:=hval i v hP
  have hS1:=hS.stay (h':=s1.heap) λo e=>hm.heap S o hSw e
  have sz:es.size<=i:=by
   have h1:=hS.p.length_eq
   have h2:=add1_len ((List.range i).map val) []
   simp only [Array.length_toList,Array.size_map,List.length_map,List.length_range,List.length_nil] at h1 h2
   omega
  show wpAny _ A.in1 (holding [Value.int (val i) tk] (setAdd S (.int (val i) tk)) >>= _) _ _ s1
  unfold setAdd
  refine wpAny_bind (wpAny_holding (wpAny_holding (wpAny_bind ((intKind prog w).pyHash (k:=val i) (PySem.intKind_is _ _ _ _) ?_))))
  refine add_x (s:={s1 with toks:=s1.toks+1}) hS1.x hS1.e hS1.f (by omega) λb h' es' ep' t' sb x2 e2 r2 f2 p2=>?_
  have hS2:SetN h' S st0 ((List.range (i+1)).map val) es' ep' t':=⟨x2,e2,f2,by rw [List.range_succ,List.map_append,List.foldl_append,<-hS.r,r2];rfl,by rw [List.range_succ,List.map_append,List.foldl_append];exact p2.trans (add1_perm hS.p _)⟩
  refine wpAny_pure ⟨plainId_quiet PyProof.Rows.F.plain_set_update_loop _,ih (i+1) _ es' ep' t' (by omega) (W.frame _ s1 _ _ st1 (Nat.le_succ _) λb hb o e=>?_) hS2 λs2 es2 ep2 t2 hm2 hS3=>?_⟩
  ·rw [sb.2 b (λz:b=S=>hSf (by rw [<-z];exact hb))];exact e
  ·refine hR s2 es2 ep2 t2 (Moved.trans W.gtrans ((hm.mono up).then_heap (Nat.le_succ _) λb o hb e=>?_) hm2) hS3
   rw [sb.2 b (λz:b=S=>hb (by rw [z];exact List.mem_cons_self))];exact e
end
section
variable{prog:Program}{w:World}{A:Around}{E:Value->Shared->Prop}{s:Shared}
theorem set_madeN{l:Addr}{items:Array Value}{ns:List Int}{Q:Value->Shared->Prop}(hh:A.handled=none)(hl:s.heap.IsList l items)(hval:∀(i:Nat) (v:Value),items[i]? =some v->∃tk,v= .int (ns.getD i 0) tk)(hn:items.size=ns.length)(hb:items.size+1<scanBound)
 (h:∀(h':Heap) (tk:Nat) es ep t,SetN h' s.heap.objs.size (#[],.fresh 0 0 (!byTx w)) ns es ep t->(∀b o,s.heap.get? b=some o->h'.get? b=some o)->Q (.ref s.heap.objs.size) {s with heap:=h',toks:=tk}):
 wpAny (model prog w) A (call (.type "set") [.ref l]) Q E s:=by
 refine type_code (Q1:=λobj s1=>obj= .ref s.heap.objs.size/\s1={s with heap:=s.heap.push (setNew (!byTx w))}) PySem.F.called_set (PySem.F.typeCall_set_1 (.ref l)) (set_new_x (.ref l) ⟨rfl,rfl⟩) ?_
 rintro _ _ ⟨rfl,rfl⟩
 have hS:(s.heap.push (setNew (!byTx w))).get? s.heap.objs.size=some (setNew (!byTx w)):=Heap.get?_push_size _ rfl
 have hT:Shared.TypeIs {s with heap:=s.heap.push (setNew (!byTx w))} (.ref s.heap.objs.size) "set":=⟨_,hS,rfl⟩
 refine⟨hT,codeAny_call_builtin PySem.F.called_set.init.plain PySem.F.entry_set_init (check_set_init_1 hT ?_)⟩
 obtain⟨⟨cl,dd,dt,sl⟩,ho,hc,n,hd⟩:=id hl
 simp only at hc hd
 subst hc hd
 have lt:l<s.heap.objs.size:=Heap.lt_size ho
 have ho':(s.heap.push (setNew (!byTx w))).get? l=some {cls:=.type "list",dict:=dd,data:=.seq items n,slots:=sl}:=Heap.get?_push_of_some _ ho
 have hl':(s.heap.push (setNew (!byTx w))).IsList l items:=⟨_,ho',rfl,n,rfl⟩
 have f1:=PySem.F.sub_list_set
 have f2:=PySem.F.sub_list_frozenset
 have f3:(Value.type "list" ==Value.type "dict")=false:=by decide
 unfold Builtin.«set.__init__» noKeywords Builtin.Frozenset.updateFrom
 generalize ei:pyIter=it
 wp_walk
 subst ei
 have z:(s.heap.push (setNew (!byTx w))).objs.size=s.heap.objs.size+1:=Heap.size_push ..
 have hh3:A.in1.in1.in1.handled=none:=by simp [hh]
 have n1:l≠(s.heap.push (setNew (!byTx w))).objs.size:=by rw [z];exact Nat.ne_of_lt (Nat.lt_succ_of_lt lt)
 have n2:s.heap.objs.size∉[(s.heap.push (setNew (!byTx w))).objs.size,l]:=by
  rw [z];simp only [List.mem_cons,List.not_mem_nil,or_false,not_or];exact⟨Nat.ne_of_lt (Nat.lt_succ_self _),Nat.ne_of_gt lt⟩
 have er:(List.range items.size).map (λi=>ns.getD i 0)=ns:=by
  rw [hn]
  refine List.ext_getElem (by simp) λi h1 h2=>?_
  simp [List.getD_eq_getElem?_getD,List.getElem?_eq_getElem h2]
 refine wpAny_pyIter_list hl' (wpAny_bind (wpAny_runValue ?_))
 refine set_loopN ((Walks.list hh3 _ l n1 items).toS) s.heap.objs.size n2 (#[],.fresh 0 0 (!byTx w)) (λi=>ns.getD i 0) hval hb items.size 0 _ #[] 0 (.fresh 0 0 (!byTx w)) (Nat.zero_add _) ⟨⟨_,Heap.get?_push_size _ rfl,rfl,rfl⟩,hl'.push _⟩ ?_ λs' es ep t hm hS'=>?_
 ·have hg:((s.heap.push (setNew (!byTx w))).push {cls:=.type "list_iterator",data:=.fields #[.ref l,.int 0 0]}).get? s.heap.objs.size=some (setNew (!byTx w)):=Heap.get?_push_of_some _ hS
  exact⟨⟨_,hg,⟨rfl,rfl,rfl⟩,rfl⟩,λe he=>by simp at he,rfl,by simp,by simp⟩
 ·obtain⟨h',g',d',tk',os'⟩:=s'
  have eg:g'=s.gens:=hm.gens
  have ed:d'=s.drawn:=hm.drawn
  have eo:os'=s.os:=hm.os
  subst eg ed eo
  rw [er] at hS'
  show wpAny _ _ _ _ _ _
  refine wpAny_pure ?_
  show wpAny _ _ (ret Value.none) _ _ _
  refine wpAny_pure ⟨rfl,h h' tk' es ep t hS' λb o e=>?_⟩
  have bl:b<s.heap.objs.size:=Heap.lt_size e
  exact hm.heap b o (by rw [z];simp only [List.mem_cons,List.not_mem_nil,or_false,not_or];exact⟨Nat.ne_of_lt bl,Nat.ne_of_lt (Nat.lt_succ_of_lt bl)⟩) (Heap.get?_push_of_some _ (Heap.get?_push_of_some _ e))
end
end L2
namespace L2
open PySem PySem.Spec PyProof.Rows
theorem setit_next:Slot "set_iterator" "__next__" "set_iterator.__next__":=.of (owner:="set_iterator") (n:="__next__") (by rw [typeLookup_type,builtinLookup_eq_fast];kernel_rfl) (by decide +kernel) (by decide +kernel) (by decide +kernel) (by first | exact .inl (by decide +kernel) | exact .inr (by decide +kernel)) (by rw [isSubtype_type];kernel_rfl)
theorem setit_iter:Slot "set_iterator" "__iter__" "set_iterator.__iter__":=.of (owner:="set_iterator") (n:="__iter__") (by rw [typeLookup_type,builtinLookup_eq_fast];kernel_rfl) (by decide +kernel) (by decide +kernel) (by decide +kernel) (by first | exact .inl (by decide +kernel) | exact .inr (by decide +kernel)) (by rw [isSubtype_type];kernel_rfl)
theorem setit_entry:entryFor table "set_iterator.__next__" =some Builtin.«set_iterator.__next__»:=entryFor_of_tree (by kernel_rfl)
theorem set_entry:entryFor table "set.__iter__" =some Builtin.«frozenset.__iter__»:=entryFor_alias (id':="frozenset.__iter__") (by kernel_rfl) rfl (by decide +kernel) (by kernel_rfl)
theorem setit_owner:Manifest.owners.lookup (String.ofList ['r','o','t','a','r','e','t','i','_','t','e','s'].reverse)=some Manifest.sig_set_iterator:=by kernel_rfl
theorem setit_args(a:Value):argsOk "set_iterator.__next__" ⟨[a],[]⟩:=by
 unfold argsOk;rw [signature?_of (id:="set_iterator.__next__") (n:=['_','_','t','x','e','n','_','_']) (o:=['r','o','t','a','r','e','t','i','_','t','e','s']) (by kernel_rfl) setit_owner];kernel_rfl
abbrev SItObj(slot i n ep:Nat)(S:Addr):Obj:={cls:=.type "set_iterator",dict:=none,data:=.fields #[rawInt slot,rawInt i,.ref S,rawInt n,rawInt ep],slots:= #[]}
def ordS(w:World)(S:Addr)(es:Array (Int×Value))(ep:Nat):Array (Int×Value):=if byTx w then pickOrder (w.params.setOrder S ep) es else es
def slS(w:World)(t:SetTable)(i:Nat):Nat:=if byTx w then 0 else slotT t i
structure WkS(w:World)(es:Array (Int×Value))(t:SetTable):Prop where
 f:t.fits es.size=true
 b:byTx w=false->t.plain=true/\t.led=true/\∀i,i<=es.size->SetTable.below t.place (slotT t i)=i
section
variable{prog:Program}{w:World}{A:Around}{E:Value->Shared->Prop}{s:Shared}{S:Addr}{es:Array (Int×Value)}{ep:Nat}{t:SetTable}
theorem set_state{Q:Array (Int×Value)×Nat×SetTable->Shared->Prop}(x:SetX s.heap S es ep t)(hf:t.fits es.size=true)(h:Q (es,ep,t) s):wpAny (model prog w) A (setState S) Q E s:=by
 obtain⟨o,ho,_,hd⟩:=x
 exact wpAny_setState_of ho hd hf h
theorem set_byText{Q:Bool->Shared->Prop}(h:Q (byTx w) s):wpAny (model prog w) A setsByText Q E s:=wpAny_bind (wpAny_askSetting (wpAny_pure h))
theorem pick_size{α:Type}(f:Nat->Nat)(xs:Array α):(pickOrder f xs).toList.Perm xs.toList:=by
 have key:∀(n k:Nat) (l:List α) (out:Array α),l.length=n->(pickOrder.go f n k l out).toList.Perm (out.toList++l):=by
  intro n
  induction n with
  | zero=>intro k l out hl;obtain rfl:=List.length_eq_zero_iff.mp hl;show out.toList.Perm _;simp
  | succ n ih=>
   intro k l out hl
   have hp:f k%l.length<l.length:=Nat.mod_lt _ (by omega)
   show(match l[f k%l.length]? with | some x=>pickOrder.go f n (k+1) (l.eraseIdx (f k%l.length)) (out.push x) | none=>out).toList.Perm _
   rw [List.getElem?_eq_getElem hp]
   refine(ih _ _ _ (by rw [List.length_eraseIdx_of_lt hp];omega)).trans ?_
   rw [Array.toList_push,List.append_assoc]
   refine List.Perm.append_left _ ?_
   show(l[f k%l.length]::l.eraseIdx (f k%l.length)).Perm l
   rw [List.eraseIdx_eq_take_drop_succ]
   refine List.perm_middle.symm.trans (.of_eq ?_)
   rw [List.getElem_cons_drop hp,List.take_append_drop]
 exact(key xs.size 0 xs.toList #[] (by simp)).trans (by simp)
theorem ord_perm(w:World)(S:Addr)(es:Array (Int×Value))(ep:Nat):(ordS w S es ep).toList.Perm es.toList:=by
 unfold ordS
 split
 ·exact pick_size _ _
 ·exact .refl _
theorem set_next{i:Nat}{Q:Option (Value×Nat)->Shared->Prop}(x:SetX s.heap S es ep t)(k:WkS w es t)(hi:i<=es.size)(h:Q (((ordS w S es ep)[i]?).map λe=>(e.2,slS w t (i+1))) s):wpAny (model prog w) A (setNext S (slS w t i) i ep) Q E s:=by
 unfold setNext
 refine wpAny_bind (set_state x k.f ?_)
 dsimp only
 refine wpAny_bind (set_byText ?_)
 cases eb:byTx w with
 | true=>
  have e1:ordS w S es ep=pickOrder (w.params.setOrder S ep) es:=by unfold ordS;rw [eb];rfl
  have e2:∀i,slS w t i=0:=λi=>by unfold slS;rw [eb];rfl
  rw [e1,e2] at h
  rw [if_pos rfl,if_neg (by simp),e2]
  unfold setWalk
  refine wpAny_bind (wpAny_bind (set_state x k.f ?_))
  dsimp only
  refine wpAny_bind (set_byText ?_)
  rw [eb,if_pos rfl]
  exact wpAny_bind (wpAny_askSetting (wpAny_pure (wpAny_pure h)))
 | false=>
  obtain⟨p1,p2,p3⟩:=k.b eb
  have e1:ordS w S es ep=es:=by unfold ordS;rw [eb];rfl
  have e2:∀i,slS w t i=slotT t i:=λi=>by unfold slS;rw [eb];rfl
  rw [e1,e2] at h
  rw [if_neg Bool.false_ne_true,e2]
  refine wpAny_ite_split (λhd=>?_) λ_=>?_
  ·have hd:(!t.plain&&decide (es.size>1))=true:=hd
   rw [p1] at hd
   cases hd
  ·show wpAny _ _ ((do if (!t.led&& !es.isEmpty)=true then unsupported "set:maker-not-led") >>= _) _ _ _
   rw [p2]
   refine wpAny_bind (wpAny_pure ?_)
   rw [p3 i hi]
   have fz:t.place.size=es.size:=by
    have:=k.f
    simp only [SetTable.fits,Bool.and_eq_true,beq_iff_eq] at this
    exact this.1
   by_cases c:i<es.size
   ·have h1:es[i]? =some es[i]:=Array.getElem?_eq_getElem c
    have h2:t.place[i]? =some t.place[i]:=Array.getElem?_eq_getElem (by omega)
    rw [h1] at h⊢
    rw [h2]
    refine wpAny_pure ?_
    have e3:slotT t (i+1)=t.place[i]+1:=by
     show t.place.getD i 0+1=_
     rw [Array.getD_eq_getD_getElem?,h2]
     rfl
    rw [e3] at h
    exact h
   ·have h1:es[i]? =none:=Array.getElem?_eq_none (by omega)
    rw [h1] at h⊢
    exact wpAny_pure h
end
end L2
namespace L2
open PySem PySem.Spec PyProof.Rows
section
variable{prog:Program}{w:World}{A:Around}{E:Value->Shared->Prop}{s:Shared}{S I:Addr}{es:Array (Int×Value)}{ep:Nat}{t:SetTable}
theorem set_drawn{Q:Bool->Shared->Prop}(x:SetX s.heap S es ep t)(k:WkS w es t)(h:Q false s):wpAny (model prog w) A (setDrawn S) Q E s:=by
 unfold setDrawn
 refine wpAny_bind (set_state x k.f ?_)
 dsimp only
 refine wpAny_bind (set_byText (wpAny_pure ?_))
 have e:(!byTx w&&(!t.plain&&decide (es.size>1)))=false:=by
  cases eb:byTx w with
  | true=>rfl
  | false=>rw [(k.b eb).1];rfl
 show Q (!byTx w&&(!t.plain&&decide (es.size>1))) s
 rw [e]
 exact h
theorem set_iter{Q:Value->Shared->Prop}(x:SetX s.heap S es ep t)(k:WkS w es t)(h:Q (.ref s.heap.objs.size) {s with heap:=s.heap.push (SItObj 0 0 es.size ep S)}):wpAny (model prog w) A (pyIter (.ref S)) Q E s:=by
 obtain⟨o,ho,hex,hd⟩:=id x
 have hT:s.TypeIs (.ref S) "set":=⟨o,ho,hex.1⟩
 refine wpAny_pyIter_slot hT PySem.F.slot_set_iter (wpAny_call_entry PySem.F.slot_set_iter hT set_entry ?_ (PySem.F.args_set_iter_1 _))
 unfold Builtin.«frozenset.__iter__» Builtin.Frozenset.slot0 Builtin.Frozenset.sizeOf setEntries setEpoch
 refine wpAny_bind (wpAny_bind (wpAny_pure (wpAny_pure ?_)))
 refine wpAny_bind (wpAny_bind (wpAny_bind (set_state x k.f (wpAny_pure (wpAny_pure ?_)))))
 refine wpAny_bind (set_drawn x k ?_)
 rw [if_neg Bool.false_ne_true]
 refine wpAny_bind (wpAny_pure (wpAny_bind (wpAny_bind (set_state x k.f (wpAny_pure ?_)))))
 show wpAny _ _ (newFields "set_iterator" [rawInt 0,rawInt 0,.ref S,rawInt es.size,rawInt ep] >>= _) _ _ _
 exact wpAny_bind (wpAny_newObj_type (wpAny_pure ⟨_,rfl,"set_iterator",_,⟨_,Heap.get?_push_size _ rfl,rfl⟩,setit_next.lookup,h⟩))
theorem setit_head{sl i:Nat}{Q:Fin->Shared->Prop}(x:SetX s.heap S es ep t)(k:WkS w es t)(hI:s.heap.get? I=some (SItObj sl i es.size ep S))
 (h:wpAny (model prog w) A (setNext S sl i ep >>= λr=>match r with | some (v,next)=>(do setField (.ref I) 0 (rawInt next);setField (.ref I) 1 (rawInt ((i:Int)+1));ret v) | none=>(do setField (.ref I) 2 .none;raiseNew (<-newExc (.type "StopIteration") []))) Q E s):
 wpAny (model prog w) A (Builtin.«set_iterator.__next__» ⟨[.ref I],[]⟩) Q E s:=by
 unfold Builtin.«set_iterator.__next__»
 refine wpAny_bind (wpAny_pure (wpAny_bind (wpAny_fieldsOf hI rfl ?_)))
 unfold setEntries
 show wpAny _ _ ((setState S >>= λr=>pure r.1) >>= _) _ _ _
 refine wpAny_bind (wpAny_bind (set_state x k.f (wpAny_pure ?_)))
 dsimp only
 refine wpAny_ite_split (λc=>absurd c (by simp)) λ_=>?_
 exact h
theorem slS_fix(w:World)(t:SetTable):slS w t 0=0:=by unfold slS;split<;>rfl
theorem setit_item{i:Nat}{v:Value}{Q:Option Value->Shared->Prop}(x:SetX s.heap S es ep t)(k:WkS w es t)(hI:s.heap.get? I=some (SItObj (slS w t i) i es.size ep S))(hi:i<es.size)(hv:(ordS w S es ep)[i]?.map (·.2)=some v)
 (h:∀h',h'.get? I=some (SItObj (slS w t (i+1)) (i+1) es.size ep S)->(∀b o,b≠I->s.heap.get? b=some o->h'.get? b=some o)->Q (some v) {s with heap:=h'}):wpAny (model prog w) A (pyNext (.ref I)) Q E s:=by
 have hT:s.TypeIs (.ref I) "set_iterator":=⟨_,hI,rfl⟩
 unfold pyNext
 refine wpAny_bind (wpAny_attempt (wpAny_callSpecial?_slot (name:=Str.ofString "__next__") hT setit_next (wpAny_call_entry setit_next hT setit_entry ?_ (setit_args _))))
 refine setit_head x k hI (wpAny_bind (set_next x k (Nat.le_of_lt hi) ?_))
 obtain⟨e,he,rfl⟩:∃e,(ordS w S es ep)[i]? =some e/\e.2=v:=by
  cases z:(ordS w S es ep)[i]? with
  | none=>rw [z] at hv;cases hv
  | some e=>rw [z] at hv;exact⟨e,rfl,Option.some.inj hv⟩
 rw [he]
 show wpAny _ _ (setField (.ref I) 0 (rawInt (slS w t (i+1))) >>= _) _ _ _
 refine wpAny_bind (wpAny_setField_rec hI (by simp) λh1 e1 s1=>?_)
 show wpAny _ _ (setField (.ref I) 1 (rawInt ((i:Int)+1)) >>= _) _ _ _
 refine wpAny_bind (wpAny_setField_rec (s:={s with heap:=h1}) e1 (by simp) λh2 e2 s2=>?_)
 exact wpAny_pure ⟨_,rfl,wpAny_pure (h h2 e2 λb o nb hb=>s2.extBut b o nb (s1.extBut b o nb hb))⟩
theorem setit_done{Q:Option Value->Shared->Prop}(hh:A.handled=none)(x:SetX s.heap S es ep t)(k:WkS w es t)(hI:s.heap.get? I=some (SItObj (slS w t es.size) es.size es.size ep S))
 (h:∀h',(∀b o,b≠I->s.heap.get? b=some o->h'.get? b=some o)->Q none {s with heap:=h'}):wpAny (model prog w) A (pyNext (.ref I)) Q E s:=by
 have hT:s.TypeIs (.ref I) "set_iterator":=⟨_,hI,rfl⟩
 unfold pyNext
 refine wpAny_bind (wpAny_attempt (wpAny_callSpecial?_slot (name:=Str.ofString "__next__") hT setit_next (wpAny_call_entry setit_next hT setit_entry ?_ (setit_args _))))
 refine setit_head x k hI (wpAny_bind (set_next x k (Nat.le_refl _) ?_))
 have z:(ordS w S es ep)[es.size]? =none:=by
  refine Array.getElem?_eq_none ?_
  have:=(ord_perm w S es ep).length_eq
  simp only [Array.length_toList] at this
  omega
 rw [z]
 show wpAny _ _ (setField (.ref I) 2 .none >>= _) _ _ _
 refine wpAny_bind (wpAny_setField_rec hI (by simp) λh1 e1 s1=>?_)
 show wpAny _ _ (newExc (.type "StopIteration") [] >>= _) _ _ _
 refine wpAny_bind ?_
 simp only [newExc,newTuple]
 refine wpAny_bind (wpAny_newObj_type (wpAny_bind (m:=firstArgMember _ _) (wpAny_of_eq (a:=Value.none) (by first | rfl | (simp only [firstArgMember];rfl)) (wpAny_newObj_type ?_ (by size_fits)))) (by size_fits))
 simp only [raiseNew]
 refine wpAny_bind (wpAny_handled ?_)
 rw [show A.in1.handled=none from hh]
 refine wpAny_bind (wpAny_pure (wpAny_throw ?_))
 refine wpAny_bind (wpAny_isInstance (T:="StopIteration") (b:=true) ⟨_,Heap.get?_push_size _ rfl,rfl⟩ isSubtype_stop ?_)
 exact wpAny_pure (h _ λb o nb hb=>Heap.get?_push_of_some _ (Heap.get?_push_of_some _ (s1.extBut b o nb hb)))
end
end L2
namespace L2
open PySem PySem.Spec PyProof.Rows
theorem setit_self_entry:entryFor table "set_iterator.__iter__" =some Builtin.«dict_keyiterator.__iter__»:=entryFor_alias (id':="dict_keyiterator.__iter__") (by kernel_rfl) rfl (by decide +kernel) (by kernel_rfl)
theorem setit_self_args(a:Value):argsOk "set_iterator.__iter__" ⟨[a],[]⟩:=by
 unfold argsOk;rw [signature?_of (id:="set_iterator.__iter__") (n:=['_','_','r','e','t','i','_','_']) (o:=['r','o','t','a','r','e','t','i','_','t','e','s']) (by kernel_rfl) setit_owner];kernel_rfl
section
variable{prog:Program}{w:World}{A:Around}{E:Value->Shared->Prop}{s:Shared}{S I:Addr}{es:Array (Int×Value)}{ep:Nat}{t:SetTable}
theorem setit_self{sl i:Nat}{Q:Value->Shared->Prop}(hI:s.heap.get? I=some (SItObj sl i es.size ep S))(h:Q (.ref I) s):wpAny (model prog w) A (pyIter (.ref I)) Q E s:=by
 have hT:s.TypeIs (.ref I) "set_iterator":=⟨_,hI,rfl⟩
 exact wpAny_pyIter_slot hT setit_iter (wpAny_call_entry setit_iter hT setit_self_entry (show wpAny _ _ (ret (.ref I)) _ _ s from wpAny_pure ⟨_,rfl,"set_iterator",_,hT,setit_next.lookup,h⟩) (setit_self_args _))
theorem SetX.stay{h h':Heap}(x:SetX h S es ep t)(k:∀o,h.get? S=some o->h'.get? S=some o):SetX h' S es ep t:=by
 obtain⟨o,ho,r⟩:=x
 exact⟨o,k _ ho,r⟩
theorem setit_walks(hh:A.handled=none)(k:WkS w es t)(ne:S≠I):Walks prog w A I [I,S] [I] es.size (λi v=>(ordS w S es ep)[i]?.map (·.2)=some v) (λi h=>h.get? I=some (SItObj (slS w t i) i es.size ep S)/\SetX h S es ep t) where
 sub:=λb hb=>by simp at hb;simp [hb]
 frame:=λ_ _ _ st hk=>⟨hk I (by simp) _ st.1,st.2.stay λo e=>hk S (by simp) o e⟩
 item:=λi s Q E hi st hQ=>by
  have z:i<(ordS w S es ep).size:=by have:=(ord_perm w S es ep).length_eq;simp only [Array.length_toList] at this;omega
  obtain⟨v,hv⟩:∃v,(ordS w S es ep)[i]?.map (·.2)=some v:=⟨(ordS w S es ep)[i].2,by rw [Array.getElem?_eq_getElem z];rfl⟩
  exact setit_item st.2 k st.1 hi hv λh' e1 hk=>hQ v h' s.toks hv ⟨e1,st.2.stay λo e=>hk S o ne e⟩ λb o hb e=>hk b o (λz=>hb (by simp [z])) e
 done:=λs Q E st hQ=>setit_done hh st.2 k st.1 λh' hk=>hQ h' s.toks λb o hb e=>hk b o (λz=>hb (by simp [z])) e
 self:=λ_ _ _ _ st hQ=>setit_self st.1 hQ
theorem set_hint{Q:Bool->Shared->Prop}(hT:s.TypeIs (.ref S) "set")(h:Q false s):wpAny (model prog w) A (Builtin.List.listLengthHint (.ref S)) Q E s:=by
 unfold Builtin.List.listLengthHint
 refine wpAny_bind (wpAny_specialOf hT PySem.F.slot_set_len.lookup ?_)
 generalize hid:("set.__len__":String)=id0
 wp_delta
 rw [show splitId id0=some ("set","__len__") from by subst hid;decide +kernel]
 subst hid
 refine wpAny_bind (wpAny_isInstance (T:="set") (b:=true) hT (by rw [isSubtype_type];kernel_rfl) (wpAny_ite_split (λc=>absurd c (by decide)) λ_=>wpAny_ite_split (λ_=>?_) λc=>absurd (by decide +kernel) c))
 exact wpAny_bind (wpAny_typeOf hT (wpAny_pure h))
theorem kdl_set(k:WkS w es t):PySem.W.KdlSrc prog w "set" S S es.size (λi v=>(ordS w S es ep)[i]?.map (·.2)=some v) (λh=>SetX h S es ep t) where
 type:=λ_ x=>let ⟨o,ho,hex,_⟩:=x;⟨o,ho,hex.1⟩
 there:=λ_ x=>let ⟨_,ho,_⟩:=x;⟨Heap.lt_size ho,Heap.lt_size ho⟩
 keep:=λ_ _ x hk=>x.stay λo e=>hk S (.inl rfl) o e
 notList:=by decide
 notTuple:=by decide
 hint:=λ_ _ _ _ x hq=>set_hint (let ⟨o,ho,hex,_⟩:=x;⟨o,ho,hex.1⟩) hq
 iter:=λA s hh x=>⟨SItObj 0 0 es.size ep S,_,(λ_ _ hq=>set_iter x k hq),setit_walks hh k (Nat.ne_of_lt (let ⟨_,ho,_⟩:=x;Heap.lt_size ho)),by rw [slS_fix];exact Heap.get?_push_size _ rfl,x.stay λo e=>Heap.get?_push_of_some _ e⟩
end
end L2
namespace L2
open PySem PySem.Spec PyProof.Rows
theorem add1_mem(l:List Int)(k x:Int):x∈add1 l k↔x∈l\/x=k:=by
 unfold add1
 split
 ·next h=>
  rw [List.contains_iff_mem] at h
  exact⟨.inl,λz=>z.elim id λe=>e▸h⟩
 ·rw [List.mem_append,List.mem_singleton]
theorem add1_all(ns:List Int):∀{l:List Int},l.Nodup->(ns.foldl add1 l).Nodup/\∀x,x∈ns.foldl add1 l↔x∈l\/x∈ns:=by
 induction ns with
 | nil=>intro l h;exact⟨h,λx=>⟨.inl,λz=>z.elim id λe=>absurd e List.not_mem_nil⟩⟩
 | cons k ns ih=>
  intro l h
  have h1:(add1 l k).Nodup:=by
   unfold add1
   split
   ·exact h
   ·next c=>
    rw [List.contains_iff_mem] at c
    exact List.nodup_append.mpr ⟨h,by simp,λx hx y hy e=>c (by rw [<-List.mem_singleton.mp hy,<-e];exact hx)⟩
  obtain⟨a,b⟩:=ih h1
  refine⟨a,λx=>?_⟩
  rw [List.foldl_cons,b,add1_mem,List.mem_cons,or_assoc]
theorem nd_sub{l m:List Int}(h:l.Nodup):(∀x∈l,x∈m)->l.length<=m.length:=by
 induction l generalizing m with
 | nil=>intro _;exact Nat.zero_le _
 | cons a l ih=>
  intro s
  rw [List.nodup_cons] at h
  have ha:=s a List.mem_cons_self
  have:=ih h.2 (m:=m.erase a) λx hx=>(List.mem_erase_of_ne (λe=>h.1 (by rw [<-e];exact hx))).mpr (s x (List.mem_cons_of_mem _ hx))
  rw [List.length_erase_of_mem ha] at this
  have:0<m.length:=List.length_pos_of_mem ha
  rw [List.length_cons]
  omega
theorem SetN.wk{w:World}{h:Heap}{S:Addr}{ns:List Int}{es:Array (Int×Value)}{ep:Nat}{t:SetTable}(q:SetN h S (#[],.fresh 0 0 (!byTx w)) ns es ep t)(hn:∀k∈ns,k∈hs7):WkS w es t:=by
 refine⟨q.f,λeb=>?_⟩
 have r:=q.r
 rw [eb] at r
 have g:=good_all hn
 rw [<-show(es.map keyE,t)=ns.foldl add0 (#[],.fresh 0 0 true) from r] at g
 simp only [goodT,Bool.and_eq_true,Array.size_map] at g
 refine⟨g.2.1,g.2.2.1,λi hi=>?_⟩
 exact beq_iff_eq.mp (List.all_eq_true.mp g.2.2.2.2 i (List.mem_range.mpr (by omega)))
def tSortSet(ta:TA):TE:=λσ H Q=>ta σ H λvs H1=>∃(l:Addr) (ns:List Int),vs= [.ref l]/\H1 l=some (.lst (ns.map V.int))/\ns.length<=1000/\(∀k∈ns,k∈hs7)/\
 ∀(D:Addr) (H':Hp) (ms:List Int),H1 D=none->Same H1 H'->H' D=some (.lst (ms.map V.int))->ms.Nodup->(∀x,x∈ms↔x∈ns)->ms.Pairwise (λx y=>x<=y)->Q (.ref D) H'
theorem ints_by{l:List Value}{ms:List Int}:l.length=ms.length->(∀(j:Nat) (v:Value),l[j]? =some v->∃i t,ms[j]? =some i/\v=Value.int i t)->IntsAre l ms:=by
 induction l generalizing ms with
 | nil=>intro hl _;cases ms with
  | nil=>exact .nil
  | cons _ _=>cases hl
 | cons v l ih=>
  intro hl hv
  cases ms with
  | nil=>cases hl
  | cons i ms=>
   obtain⟨i',t,e1,rfl⟩:=hv 0 v rfl
   cases e1
   exact .cons _ t (ih (by simpa using hl) λj v e=>by simpa using hv (j+1) v (by simpa using e))
section
variable{X:Cx}
theorem pe_sortSet{a:Expr}{ta:TA}{p1 p2 pos1 pos2:Pos}(hc:X.calm=true)(hgl:Gl X "sorted")(hml:X.mg "sorted" =none)(hgs:Gl X "set")(hms:X.mg "set" =none)(ha:PA X [a] ta)(hs:starEach [a] X.env= [(false,eval a X.env)]:=by rfl):
 PE X (.Call (.Name "sorted" p1) [.Call (.Name "set" p2) [a] [] pos2] [] pos1) (tSortSet ta):=by
 intro pins s σ H Q I h
 refine Call_ (ld_blt I hgl hml (show bootBuiltins "sorted" =some (.builtin "sorted") by decide +kernel) (Calls.callWith_builtin rfl (Calls.evalArgs_plain (Calls.spliced_cons ?_))))
 refine Call_ (ld_blt I hgs hms (show bootBuiltins "set" =some (.type "set") by decide +kernel) (PyProof.Rows.callWith_type1 (thn (ha pos2 pins s σ H _ I h) λus s1 ⟨vs,H1,I1,r1,l,ns,e,hl,hz,hn,q⟩=>?_) hs rfl))
 subst e
 cases r1 with
 | cons r rr=>
  cases rr
  cases r
  obtain⟨its,rv,pl,_⟩:=I1.list (SqL.of hl)
  have ln:=rv.length
  rw [List.length_map] at ln
  refine set_madeN (ns:=ns) (I1.ok.hd hc) pl.isList (λi v hv=>?_) (by rw [List.size_toArray,<-ln]) (by rw [List.size_toArray,<-ln];unfold scanBound;omega) λh' tk es ep t hS hk=>?_
  ·rw [List.getElem?_toArray] at hv
   have hi:i<ns.length:=by rw [ln];exact(List.getElem?_eq_some_iff.mp hv).1
   obtain⟨u,hu,ru⟩:=rv.get (i:=i) (x:=.int ns[i]) (by rw [List.getElem?_map,List.getElem?_eq_getElem hi];rfl)
   rw [hu] at hv
   cases hv
   obtain⟨t,rfl⟩:=ru
   rw [List.getD_eq_getElem?_getD,List.getElem?_eq_getElem hi]
   exact⟨t,rfl⟩
  ·refine Calls.spliced_nil ?_
   have wk:=hS.wk hn
   have I2:Inv X pins σ H1 {s1 with heap:=h',toks:=tk}:=I1.kept hk
   obtain⟨nd,me⟩:=add1_all ns (l:=[]) List.nodup_nil
   have le7:(ns.foldl add1 []).length<=7:=nd_sub nd (m:=hs7) λx hx=>hn x (by simpa using (me x).mp hx)
   have pz:=hS.p.length_eq
   simp only [Array.length_toList,Array.size_map] at pz
   have e7:es.size<=7:=by omega
   have op:=ord_perm X.w s1.heap.objs.size es ep
   have oz:(ordS X.w s1.heap.objs.size es ep).size=es.size:=by have:=op.length_eq;simpa using this
   refine PySem.Calls.call_function_entry kind_sorted plain_sorted entry_sorted (args_sorted1 _) ?_
   unfold Builtin.«sorted»
   refine wpAny_bind (m:=checkCount "sorted" 1 1 _) (wpAny_pure ?_)
   refine wpAny_bind (PySem.W.kdu_collect (A:=X.A.in1) (kdl_set wk) (show X.A.in1.handled=none from I1.ok.hd hc) hS.x (by unfold sizeLine;omega) λh2 tk2 acc hkp hacc=>?_)
   have hla:acc.toList.length=es.size:=by rw [Array.length_toList,hacc.1]
   refine wpAny_bind (wpAny_newList ?_ (by rw [hla];unfold sizeLine;omega))
   have hi:IntsAre acc.toList ((ordS X.w s1.heap.objs.size es ep).toList.map keyE):=by
    refine ints_by (by rw [hla,List.length_map,Array.length_toList,oz]) λj v e=>?_
    have hp:(ordS X.w s1.heap.objs.size es ep)[j]?.map (·.2)=some v:=hacc.2 j v (by rw [<-Array.getElem?_toList];exact e)
    rw [<-Array.getElem?_toList] at hp
    obtain⟨x,hx,rfl⟩:∃x,(ordS X.w s1.heap.objs.size es ep).toList[j]? =some x/\x.2=v:=by
     cases z:(ordS X.w s1.heap.objs.size es ep).toList[j]? with
     | none=>rw [z] at hp;cases hp
     | some x=>rw [z] at hp;exact⟨x,rfl,Option.some.inj hp⟩
    obtain⟨k,tk',rfl⟩:=hS.e x (op.mem_iff.mp (List.mem_of_getElem? hx))
    exact⟨k,tk',by rw [List.getElem?_map,hx];rfl,rfl⟩
   have hoL:(h2.push (seqObj "list" acc.toList.toArray 0)).get? h2.objs.size=some (seqObj "list" acc.toList.toArray 0):=Heap.get?_push_size _ rfl
   refine wpAny_bind (wpAny_holding (PySem.wpAny_call_entry slot_list_sort ⟨_,hoL,rfl⟩ entry_list_sort (list_sort_tree hoL hi (by omega) λout ns' a1 a2 a3=>⟨_,rfl,?_⟩) (args_list_sort _)))
   refine wpAny_pure ⟨_,rfl,?_⟩
   obtain⟨e,he⟩:=sortedHeap_at (vs:=acc.toList) (out:=out) hoL
   have I3:Inv X pins σ H1 {s1 with heap:=h2,toks:=tk2}:=I2.kept hkp
   have pm:ns'.Perm (ns.foldl add1 []):=a2.trans ((op.map keyE).trans (by rw [<-Array.toList_map];exact hS.p))
   have ln':ns'.length<=sizeLine:=by have:=pm.length_eq;unfold sizeLine;omega
   have fr:H1 h2.objs.size=none:=I3.hok.fresh (Nat.le_refl _)
   have kp:∀b o,h2.get? b=some o->(sortedHeap (h2.push (seqObj "list" acc.toList.toArray 0)) h2.objs.size acc.toList out).get? b=some o:=λb o e1=>by
    have l1:=Heap.lt_size e1
    rw [sortedHeap_old (Nat.ne_of_lt l1) (by rw [Heap.size_push];exact Nat.lt_succ_of_lt l1)]
    exact Heap.get?_push_of_some _ e1
   have I4:=I3.laid (a:=h2.objs.size) (o:=.lst (ns'.map V.int)) (t':=tk2) kp (Nat.le_refl _) (show ObjOk X.prog X.w _ _ _ (.lst (ns'.map V.int)) from ⟨by rw [List.length_map];exact ln',out.toList,e,are_ints a1,he⟩)
   exact⟨.ref h2.objs.size,_,I4,rfl,q _ _ _ fr (same_new fr _) upd_same (pm.nodup_iff.mpr nd) (λx=>pm.mem_iff.trans ((me x).trans (by simp))) a3⟩
end
end L2
namespace L2
open PySem PySem.Spec PyProof.Rows
def iSeq(K:PySem.W.Frag)(tl:TE):TI:=λσ H R=>tl σ H λx H1=>∃a,x= .ref a/\(((∃xs,SqL K H1 a xs)/\R (Itl K a) H1)\/((∃xs,SqT K H1 a xs)/\R (Itt K a) H1))
theorem pi_seq{X:Cx}{tg l:Expr}{tl:TE}(hl:PE X l tl):PI X tg l (iSeq X.K tl):=by
 intro pins s σ H R I h
 refine thn (hl pins s σ H _ I h) λv s1 ⟨x,H1,I1,r1,q1⟩=>?_
 obtain⟨a,e,⟨⟨xs,hq⟩,q⟩ | ⟨⟨xs,hq⟩,q⟩⟩:=q1
 ·subst e
  cases r1
  obtain⟨its,rv,p,hz⟩:=I1.list hq
  refine wpAny_pyIter_list p.isList ?_
  refine⟨s1.heap.objs.size,[s1.heap.objs.size],_,_,H1,rfl,I1.kept (t':=s1.toks) λb o e=>Heap.get?_push_of_some _ e,turn_list a _,⟨_,Heap.get?_push_size _ rfl,rfl,rfl⟩,λb hb=>?_,q⟩
  have e:b=s1.heap.objs.size:=by simpa using hb
  subst e
  exact I1.fpOk (Nat.le_refl _) (I1.hok.fresh (Nat.le_refl _))
 ·subst e
  cases r1
  obtain⟨its,rv,p,hz⟩:=I1.tuple hq
  refine wpAny_pyIter_tuple (show s1.heap.IsTuple a its.toArray from p) ?_
  refine⟨s1.heap.objs.size,[s1.heap.objs.size],_,_,H1,rfl,I1.kept (t':=s1.toks) λb o e=>Heap.get?_push_of_some _ e,turn_tuple a _,⟨_,Heap.get?_push_size _ rfl,rfl,rfl⟩,λb hb=>?_,q⟩
  have e:b=s1.heap.objs.size:=by simpa using hb
  subst e
  exact I1.fpOk (Nat.le_refl _) (I1.hok.fresh (Nat.le_refl _))
theorem compJD_tup{K:PySem.W.Frag}{a:Addr}{xs:List V}{g:TG}{tc:TT}{te:TE}{cs:St}{H1:Hp}{Q:VK}(ha:H1 a=some (.tup xs))(sz:xs.length<sizeLine)(Pv:Addr->Nat->List V->St->Hp->Prop)
 (h0:∀D H',H1 D=none->Same H1 H'->H' D=some (.lst [])->Pv D 0 [] cs H')
 (hs:∀D i x ys σ1 H',xs[i]? =some x->At xs H1 D i ys H'->Pv D i ys σ1 H'->g x σ1 H' λσ2 H2=>tc σ2 H2 λb H3=>if b=true then te σ2 H3 λv H4=>Put xs H1 D (Pv D) i σ2 v H4 else Skip xs H1 D (Pv D) i σ2 H3)
 (hd:∀D ys σ1 H',H1 D=none->Same H1 H'->H' D=some (.lst ys)->ys.length<=xs.length->Pv D xs.length ys σ1 H'->Q (.ref D) H'):CompJ (Itt K a) g tc te cs H1 Q:=
 compJD over_tup (λH g=>g _ _ ha) sz Pv h0 hs hd
def rIsiT(K:PySem.W.Frag):List V->Hp->VK->Prop:=λxs H Q=>∃x tp T1 T2 t b,xs= [x,.ref tp]/\H tp=some (.tup [.ty T1,.ty T2])/\tyG H x=some t/\PySem.W.kitAny K (.type t) [.type T1,.type T2]=some b/\Q (.bl b) H
theorem isinst_tup{X:Cx}{pins:List (Addr×Obj)}{σ:St}{H:Hp}{s:Shared}{A:Around}{E:Value->Shared->Prop}{Q:Value->Shared->Prop}{b:Bool}{x:V}{u:Value}{t:String}{tp:Addr}{its:List Value}(I:Inv X pins σ H s)(rx:RelV x u)(ty:TyOf X.K H x (.type t))(htp:s.heap.IsTuple tp its.toArray)(e:PySem.W.kitAny X.K (.type t) its=some b)(h:∀tk,Q (.bool b) {s with toks:=tk}):
 wpAny (model X.prog X.w) A (call (.builtin "isinstance") [u,.ref tp]) Q E s:=by
 obtain⟨⟨c,dd,da,sl⟩,k1,k2,n,k3⟩:=htp
 simp only at k2 k3
 subst k2 k3
 cases ty with
 | non=>cases (show u=Value.none from rx);exact PySem.W.kia_tup PySem.W.kitx_none I.kIn True.intro k1 e (λz=>nomatch z) h
 | bl y=>cases (show u=Value.bool y from rx);exact PySem.W.kia_tup PySem.W.kitx_bool I.kIn True.intro k1 e (λz=>nomatch z) h
 | int i=>obtain⟨t,q⟩:=(show ∃t,u=Value.int i t from rx);cases q;exact PySem.W.kia_tup PySem.W.kitx_int I.kIn True.intro k1 e (λz=>nomatch z) h
 | str y=>obtain⟨t,q⟩:=(show ∃t,u=Value.str y t from rx);cases q;exact PySem.W.kia_tup PySem.W.kitx_str I.kIn True.intro k1 e (λz=>nomatch z) h
 | flt y=>obtain⟨t,q⟩:=(show ∃t,u=Value.float y t from rx);cases q;exact PySem.W.kia_tup PySem.W.kitx_float I.kIn True.intro k1 e (λz=>nomatch z) h
 | @lst a xs ea=>
  cases (show u=Value.ref a from rx)
  obtain⟨_,_,n,_,h1⟩:=(show ObjOk X.prog X.w H s.heap a (.lst xs) from I.hok a _ ea)
  exact PySem.W.kia_tup PySem.W.kitx_list I.kIn ⟨_,h1,rfl⟩ k1 e (λz=>nomatch z) h
 | @frz a ob xs ea=>
  cases (show u=Value.ref a from rx)
  obtain⟨_,_,_,n,_,h1⟩:=(show ObjOk X.prog X.w H s.heap a (.frz ob (.lst xs)) from I.hok a _ ea)
  exact PySem.W.kia_tup PySem.W.kitx_list I.kIn ⟨_,h1,rfl⟩ k1 e (λz=>nomatch z) h
 | @tup a xs ea=>
  cases (show u=Value.ref a from rx)
  obtain⟨_,_,_,p⟩:=(show ObjOk X.prog X.w H s.heap a (.tup xs) from I.hok a _ ea)
  obtain⟨o,h1,h2,_⟩:=p
  exact PySem.W.kia_tup PySem.W.kitx_tuple I.kIn ⟨o,h1,h2⟩ k1 e (λz=>nomatch z) h
 | @dK a kvs ea=>
  cases (show u=Value.ref a from rx)
  obtain⟨_,_,vs,_,p⟩:=(show ObjOk X.prog X.w H s.heap a (.dK kvs) from I.hok a _ ea)
  obtain⟨o,es,ep,h1,h2,_⟩:=p
  exact PySem.W.kia_tup PySem.W.kitx_dict I.kIn ⟨o,h1,h2.1⟩ k1 e (λz=>nomatch z) h
 | @dT a kvs ea=>
  cases (show u=Value.ref a from rx)
  obtain⟨_,_,xs,_,o,es,ep,h1,h2,_⟩:=(show ObjOk X.prog X.w H s.heap a (.dT kvs) from I.hok a _ ea)
  exact PySem.W.kia_tup PySem.W.kitx_dict I.kIn ⟨o,h1,h2.1⟩ k1 e (λz=>nomatch z) h
theorem call_isinstT{X:Cx}:CallR X (.builtin "isinstance") (rIsiT X.K):=by
 intro pins s σ H xs us Q I r h
 obtain⟨x,tp,T1,T2,t,b,rfl,htp,ty,e,q⟩:=h
 obtain⟨u,w,rfl,ru,rw'⟩:=vals2 r
 cases rw'
 obtain⟨its,rv,p,hz⟩:=I.tuple (SqT.of htp)
 obtain⟨a,b',rfl,ra,rb⟩:=vals2 rv
 cases (show a=Value.type T1 from ra)
 cases (show b'=Value.type T2 from rb)
 exact isinst_tup I ru (tyOf_of ty) p e λtk=>⟨.bl b,H,I.tok _,rfl,q⟩
end L2
namespace HD
open PySem PySem.W
def afterR{α:Type}(v:Obj)(k:BT->α)(l r:BT):α:=k (.node v l r)
def afterL{α:Type}(v:Obj)(k:BT->α)(fr:(BT->α)->α)(l:BT):α:=fr (afterR v k l)
noncomputable def forceT{α:Type}(t:BT):(BT->α)->α:=
 @BT.rec (λ_=>(BT->α)->α) (λk=>k .nil) (λv _ _ fl fr k=>fl (afterL v k fr)) t
theorem forceT_eq{α:Type}:∀(t:BT) (k:BT->α),forceT t k=k t
 | .nil,_=>rfl
 | .node v l r,k=>by
  show forceT l (afterL v k (forceT r))=_
  rw [forceT_eq l]
  show forceT r (afterR v k l)=_
  rw [forceT_eq r]
  rfl
noncomputable def forceN{α:Type}(n:Nat)(k:Nat->α):α:= @Nat.rec (λ_=>α) (k 0) (λm _=>k (m+1)) n
theorem forceN_eq{α:Type}(n:Nat)(k:Nat->α):forceN n k=k n:=by cases n<;>rfl
def putBack{α:Type}(k:SharedT->α)(life:Life)(gens:Array GenState)(drawn:Drawn)(os:OsState)(n toks:Nat)(t:BT):α:=k ⟨t,n,life,gens,drawn,toks,os⟩
noncomputable def putT{α:Type}(k:SharedT->α)(t:BT)(life:Life)(gens:Array GenState)(drawn:Drawn)(os:OsState)(n toks:Nat):α:=forceT t (putBack k life gens drawn os n toks)
noncomputable def putN{α:Type}(k:SharedT->α)(t:BT)(life:Life)(gens:Array GenState)(drawn:Drawn)(os:OsState)(toks n:Nat):α:=forceN toks (putT k t life gens drawn os n)
noncomputable def forceS{α:Type}(s:SharedT)(k:SharedT->α):α:=match s with
 | ⟨t,n,life,gens,drawn,toks,os⟩=>forceN n (putN k t life gens drawn os toks)
theorem forceS_eq{α:Type}(s:SharedT)(k:SharedT->α):forceS s k=k s:=by
 obtain⟨t,n,life,gens,drawn,toks,os⟩:=s
 show forceN n (putN k t life gens drawn os toks)=_
 rw [forceN_eq]
 show forceN toks (putT k t life gens drawn os n)=_
 rw [forceN_eq]
 show forceT t (putBack k life gens drawn os n toks)=_
 rw [forceT_eq]
 rfl
section
variable(thr ok:Thread->Bool)(st:SharedT->Thread->Option (SharedT×Thread))
def turn1(ih:SharedT->Thread->Option (Bool×SharedT×Thread))(s:SharedT)(t:Thread):Option (Bool×SharedT×Thread):=match thr t with
 | true=>some (true,s,t)
 | false=>match ok t with
  | false=>none
  | true=>match st s t with
   | some (s',t')=>ih s' t'
   | none=>none
noncomputable def stepsF(n:Nat):SharedT->Thread->Option (Bool×SharedT×Thread):=
 @Nat.rec (λ_=>SharedT->Thread->Option (Bool×SharedT×Thread)) (λs t=>some (false,s,t)) (λ_ ih=>turn1 thr ok st ih) n
def endF{α:Type}(k:SharedT->α)(s:SharedT):Option α:=some (k s)
def goOn{α:Type}(ih:SharedT->Thread->Option α)(t:Thread)(s:SharedT):Option α:=ih s t
noncomputable def turnF{α:Type}(m:Nat)(k:SharedT->α)(ih:SharedT->Thread->Option α)(s:SharedT)(t:Thread):Option α:=
 match stepsF thr ok st m s t with
  | some (true,s',_)=>forceS s' (endF k)
  | some (false,s',t')=>forceS s' (goOn ih t')
  | none=>none
noncomputable def runF{α:Type}(m:Nat)(k:SharedT->α)(n:Nat):SharedT->Thread->Option α:=
 @Nat.rec (λ_=>SharedT->Thread->Option α) (λ_ _=>none) (λ_ ih=>turnF thr ok st m k ih) n
end
section
variable {tb : String → Option Builtin} {p : Program} {w : World} {n₀ : Nat} {ann : Option Value}
noncomputable abbrev steps₁ (tb : String → Option Builtin) (p : Program) (w : World) (n₀ : Nat) (ann : Option Value) := stepsF through (stepOk n₀ ann) (stepT (denote tb) p w)
noncomputable abbrev run₁ {α : Type} (tb : String → Option Builtin) (p : Program) (w : World) (n₀ : Nat) (ann : Option Value) := @runF through (stepOk n₀ ann) (stepT (denote tb) p w) α
theorem steps_go:∀{n:Nat} {s s':SharedT} {t t':Thread},steps₁ tb p w n₀ ann n s t=some (false,s',t')->∀N r,topRun tb p w n₀ ann N s'.abs t'=some r->topRun tb p w n₀ ann (n+N) s.abs t=some r
 | 0,s,s',t,t',h,N,r,k=>by
  cases h
  rw [Nat.zero_add];exact k
 | n+1,s,s',t,t',h,N,r,k=>by
  rw [show n+1+N=n+N+1 by omega]
  have h:turn1 through (stepOk n₀ ann) (stepT (denote tb) p w) (steps₁ tb p w n₀ ann n) s t=some (false,s',t'):=h
  unfold turn1 at h
  unfold topRun
  cases ht:through t with
  | true=>rw [ht] at h;cases h
  | false=>
   rw [ht] at h
   cases hk:stepOk n₀ ann t with
   | false=>rw [hk] at h;cases h
   | true=>
    rw [hk] at h
    cases hs:stepT (denote tb) p w s t with
    | none=>rw [hs] at h;cases h
    | some x=>obtain⟨s₂,t₂⟩:=x;rw [hs] at h;rw [stepT_spec hs];exact steps_go h N r k
theorem steps_end:∀{n:Nat} {s s':SharedT} {t t':Thread},steps₁ tb p w n₀ ann n s t=some (true,s',t')->topRun tb p w n₀ ann n s.abs t=some s'.abs
 | 0,s,s',t,t',h=>by cases h
 | n+1,s,s',t,t',h=>by
  have h:turn1 through (stepOk n₀ ann) (stepT (denote tb) p w) (steps₁ tb p w n₀ ann n) s t=some (true,s',t'):=h
  unfold turn1 at h
  unfold topRun
  cases ht:through t with
  | true=>rw [ht] at h;cases h;rfl
  | false=>
   rw [ht] at h
   cases hk:stepOk n₀ ann t with
   | false=>rw [hk] at h;cases h
   | true=>
    rw [hk] at h
    cases hs:stepT (denote tb) p w s t with
    | none=>rw [hs] at h;cases h
    | some x=>obtain⟨s₂,t₂⟩:=x;rw [hs] at h;rw [stepT_spec hs];exact steps_end h
theorem run_spec{α:Type}{m:Nat}{k:SharedT->α}{r:α}:∀{n:Nat} {s:SharedT} {t:Thread},run₁ tb p w n₀ ann m k n s t=some r->∃s',topRun tb p w n₀ ann (m*n) s.abs t=some s'.abs/\k s'=r
 | 0,s,t,h=>by cases h
 | n+1,s,t,h=>by
  have h:turnF through (stepOk n₀ ann) (stepT (denote tb) p w) m k (run₁ tb p w n₀ ann m k n) s t=some r:=h
  unfold turnF at h
  cases hs:stepsF through (stepOk n₀ ann) (stepT (denote tb) p w) m s t with
  | none=>rw [hs] at h;cases h
  | some x=>
   obtain⟨b,s₂,t₂⟩:=x
   rw [hs] at h
   cases b with
   | true=>
    have h:forceS s₂ (endF k)=some r:=h
    rw [forceS_eq] at h
    refine⟨s₂,?_,Option.some.inj h⟩
    rw [show m*(n+1)=m+m*n by rw [Nat.mul_succ];omega]
    exact topRun_mono _ _ _ _ _ (steps_end hs)
   | false=>
    have h:forceS s₂ (goOn (run₁ tb p w n₀ ann m k n) t₂)=some r:=h
    rw [forceS_eq] at h
    obtain⟨s',e,e'⟩:=run_spec h
    refine⟨s',?_,e'⟩
    rw [show m*(n+1)=m+m*n by rw [Nat.mul_succ];omega]
    exact steps_go hs _ _ e
end
noncomputable def tree0(P:Params):BT:=
 .node (boot_o_0 P) (.node (boot_o_1 P) (.node (boot_o_3 P) (.node (boot_o_7 P) .nil .nil) .nil) (.node (boot_o_5 P) (.node (boot_o_9 P) .nil .nil) .nil))
  (.node (boot_o_2 P) (.node (boot_o_4 P) (.node (boot_o_8 P) .nil .nil) .nil) (.node (boot_o_6 P) (.node (boot_o_10 P) .nil .nil) .nil))
noncomputable def begin0(w:World)(os:OsState):SharedT:=⟨tree0 w.params,11,(boot_heap w.params).life, #[],boot_drawn,boot_toks,os⟩
noncomputable def ann0(w:World):Option Value:=(boot_heap w.params).nsMap mainGlobals "__annotations__"
noncomputable def look{α:Type}(p q:Program)(loose:List Str)(Xt:Shared->Bool)(g0:Bool)(Yf:Shared->α)(w:World)(s:SharedT):=
 ((staticsOk (importedModules p.main.body) (boot_heap w.params) s.abs.heap&&namesBound p s.abs.heap&&gensDone s.abs&&laidKept (boot_heap w.params) s.abs.heap),openSeen q loose (importedModules p.main.body) Xt g0 s.abs,Yf s.abs)
theorem main0(w:World):(boot_heap w.params).isNs mainGlobals=true:=by kernel_rfl
noncomputable abbrev runQ{α:Type}(p:Program)(w:World):= @runF through (Fast.tw6613529449190102663 11 (ann0 w)) (Fast.tw10156331382660048174 (Fast.tw11892475500146522536 Fast.tw14364793385576792824) p w) α
theorem runQ_eq{α:Type}(p:Program)(w:World): @run₁ α treeTable p w 11 (ann0 w)=runQ p w:=by
 show @runF through (stepOk 11 (ann0 w)) (stepT (denote treeTable) p w) α=_
 rw [Fast.te6613529449190102663,Fast.te10156331382660048174,Fast.te11892475500146522536,Fast.te14364793385576792824]
end HD
namespace HD
open PySem PySem.W
def pickF{α:Type}(o:Option Obj)(a:Nat)(ih:Frag->(Frag->α)->α)(acc:Frag)(k:Frag->α):α:=match o with
 | some o=>(match alive o with
  | some o'=>ih ((a,o')::acc) k
  | none=>ih acc k)
 | none=>ih acc k
noncomputable def fragF{α:Type}(t:BT)(n:Nat):Frag->(Frag->α)->α:=
 @Nat.rec (λ_=>Frag->(Frag->α)->α) (λacc k=>k acc) (λa ih acc k=>pickF (t.get a) a ih acc k) n
def fragH(h:Heap)(n:Nat):Frag:=(List.range n).filterMap λa=>(h.get? a).map λo=>(a,o)
theorem lookup_mem{a:Addr}{o:Obj}:∀{K:Frag},K.lookup a=some o->(a,o)∈K
 | [],h=>nomatch h
 | (b,x)::K,h=>by
  simp only [List.lookup] at h
  split at h
  ·rename_i q;cases h;rw [beq_iff_eq.mp q];exact List.mem_cons_self
  ·exact List.mem_cons_of_mem _ (lookup_mem h)
theorem fragH_in(h:Heap)(n:Nat):(fragH h n).In h:=λa o e=>by
 obtain⟨b,_,q⟩:=List.mem_filterMap.mp (lookup_mem e)
 obtain⟨x,h1,h2⟩:=Option.map_eq_some_iff.mp q
 cases h2
 exact h1
def full(t:BT)(n:Nat):Bool:=(List.range n).all λa=>(t.get a).isSome
theorem fragF_eq{α:Type}{t:BT}{m:Nat}{life:Life}{k:Frag->α}(f:full t m=true):∀(n:Nat) (acc:Frag),n<=m->fragF t n acc k=k (fragH (absHeap t m life) n++acc)
 | 0,acc,_=>rfl
 | n+1,acc,le=>by
  have e:fragF t (n+1) acc k=pickF (t.get n) n (fragF t n) acc k:=rfl
  have hs:(t.get n).isSome=true:=List.all_eq_true.mp f n (List.mem_range.mpr le)
  obtain⟨o,hg⟩:=Option.isSome_iff_exists.mp hs
  have hx:fragH (absHeap t m life) (n+1)++acc=fragH (absHeap t m life) n++((match alive o with | some o'=>[(n,o')] | none=>[])++acc):=by
   unfold fragH
   rw [List.range_succ,List.filterMap_append,List.append_assoc]
   congr 2
   rw [List.filterMap_cons,List.filterMap_nil,abs_get le hg]
   cases alive o<;>rfl
  rw [e,hx]
  unfold pickF
  rw [hg]
  cases ha:alive o with
  | none=>simp only [ha];exact fragF_eq f n acc (Nat.le_of_succ_le le)
  | some o'=>simp only [ha];exact fragF_eq f n _ (Nat.le_of_succ_le le)
noncomputable def lookF{α:Type}(see:Frag->α)(s:SharedT):α:=fragF s.tree s.n [] see
theorem lookF_eq{α:Type}{see:Frag->α}{s:SharedT}(f:full s.tree s.n=true):lookF see s=see (fragH s.abs.heap s.abs.heap.objs.size):=by
 unfold lookF
 rw [fragF_eq (life:=s.life) f s.n [] (Nat.le_refl _),List.append_nil]
 show _=see (fragH (absHeap s.tree s.n s.life) (absHeap s.tree s.n s.life).objs.size)
 rw [absHeap_size]
noncomputable def lookK{α:Type}(p q:Program)(loose:List Str)(Xt:Shared->Bool)(see:Frag->α)(w:World)(s:SharedT):=
 (full s.tree s.n&&(staticsOk (importedModules p.main.body) (boot_heap w.params) s.abs.heap&&namesBound p s.abs.heap&&gensDone s.abs&&laidKept (boot_heap w.params) s.abs.heap),openSeen q loose (importedModules p.main.body) Xt true s.abs,lookF see s)
def seeH{α:Type}(see:Frag->α)(s:Shared):α:=see (fragH s.heap s.heap.objs.size)
theorem left_of_see{p q:Program}{loose:List Str}{Xt:Shared->Bool}{α:Type}{see:Frag->α}{saw:World->α}{N:Nat}{m n:Nat}
 (e:opening p=plainProg p.main.scope.names) (hN:Nat.ble 600 N=true) (f:∀s,fenceModules? p s=some s) (le:Nat.ble (m*n) N=true)
 (run:∀(w:World) (os:OsState),runQ p w m (lookK p q loose Xt see w) n (begin0 w os) (topStub p)=some (true,openGood q loose,saw w)):
 LeftO p q loose Xt (seeH see) saw N true:=by
 intro w
 obtain⟨⟨h,gs,d,k,os⟩,e1,e2⟩:=Option.map_eq_some_iff.mp (boot_open e hN f w)
 obtain⟨rfl,rfl,rfl,rfl⟩:h=boot_heap w.params/\gs=Array.mk []/\d=boot_drawn/\k=boot_toks:=by simpa using e2
 have r0:=run w os
 rw [<-runQ_eq] at r0
 obtain⟨s',r,l⟩:=run_spec r0
 have r:topRun treeTable p w 11 (ann0 w) (m*n) ⟨boot_heap w.params,Array.mk [],boot_drawn,boot_toks,os⟩ (topStub p)=some s'.abs:=r
 have r:=topRun_mono (N-m*n) _ _ _ _ r
 rw [show m*n+(N-m*n)=N by have:=Nat.le_of_ble_eq_true le;omega] at r
 obtain⟨l0,l1⟩:=Bool.and_eq_true_iff.mp (congrArg Prod.fst l)
 have l2:=congrArg (λx=>x.2.1) l
 have l3:=(lookF_eq (see:=see) l0).symm.trans (congrArg (λx=>x.2.2) l)
 have t:topFrom treeTable p w N ⟨boot_heap w.params,Array.mk [],boot_drawn,boot_toks,os⟩=some s'.abs:=by
  unfold topFrom
  show(match (boot_heap w.params).isNs mainGlobals&&true with | true=>_ | false=>_)=_
  rw [main0 w]
  show(topRun treeTable p w 11 (ann0 w) N ⟨boot_heap w.params,Array.mk [],boot_drawn,boot_toks,os⟩ (topStub p)).bind _=_
  rw [r]
  show(match staticsOk (importedModules p.main.body) (boot_heap w.params) s'.abs.heap&&namesBound p s'.abs.heap&&gensDone s'.abs&&laidKept (boot_heap w.params) s'.abs.heap with | true=>_ | false=>_)=_
  rw [l1]
 unfold openEnds
 rw [e1]
 show Option.map _ (topFrom treeTable p w N _)=_
 rw [t]
 exact congrArg some (Prod.ext l2 l3)
theorem turn_of{P:Program->Prop}{p p':Program}(h:p=p')(x:P p'):P p:=h▸x
def ofOthers(p:Program)(x:Str):List Str:=p.boundNames.filter λy=>!(y==x)
theorem holds_see{l:OpenLaw}{i N m n:Nat}{α:Type}{see:Frag->α}{saw:World->α}{d:DefRec}{kwd:List (Str×Expr)}
 (said:l.row.wellSaid=true)
 (e:opening l.prog=plainProg l.prog.main.scope.names) (f:∀s,fenceModules? l.prog s=some s) (hN:Nat.ble 600 N=true) (le:Nat.ble (m*n) N=true)
 (run:∀(w:World) (os:OsState),runQ l.prog w m (lookK l.prog (view l.prog [i]) (ofOthers l.prog l.name) (λ_=>true) see w) n (begin0 w os) (topStub l.prog)=some (true,openGood (view l.prog [i]) (ofOthers l.prog l.name),saw w))
 (hdef:defOf (view l.prog [i]) l.row.name=some (d,kwd)) (hp:l.row.prog.theDef l.row.name=some (d.params,d.body,d.scope)) (hk:kwWritten? d.params.kwonlyargs d.params.kw_defaults=some kwd)
 (ok:(chainsOk (view l.prog [i])&&opensWell l.row.prog&&(frees l.row.toRowW&&l.row.within.isEmpty))=true) (hb:l.row.prog.bare) (hw:l.row.toRowW.promised)
 (call:WalkO (view l.prog [i]) (ofOthers l.prog l.name) (λ_ _=>True) (λw h=>∃K:Frag,K.In h/\see K=saw w) l.row.toRowW d kwd λf vs=>PySem.call f vs):l.row.Holds:=
 holds_open (r:=l.row) (left_of_see e hN f le run) (λ_ s h=>⟨_,fragH_in s.heap _,h⟩) (λ_ _ _ ⟨K,a,b⟩ k=>⟨K,a.keeps k,b⟩) (λ_ _=>trivial) (λ_ _ _ _ _=>trivial) hdef hp hk (λs _=>recFacts_of (R:=[]) rfl) (by show(_ || true)=true;exact Bool.or_true _) said ok hb hw call
theorem walk_see{l:OpenLaw}{n k:Nat}{q:Program}{loose:List Str}{XP:(Str->Option Value)->Heap->Prop}{S:World->Frag->Prop}{d:DefRec}{CX:L2.CXT}{sp:Frag->L2.Sp}{x:Str}
 (hn:l.most=some n) (hn2:n<=sizeLine) (hdf:d.params.defaults= []) (hr:L2.Room k callerA)
 (F:∀(w:World) (K:Frag) (mg:Str->Option Value) (fa:Addr) (h:Heap),S w K->K.In h->h.Ns mainGlobals mg->mg d.name=some (.ref fa)->
  ∃fd:FuncData,(∀(s:Shared) (u:Value),BindsTo s fd ⟨[u],[]⟩ [(x,u)])/\
   ∀base:Heap,K.In base->base.Ns mainGlobals mg->L2.FnOk l.prog w K mg base CX k fa fd [x] (sp K))
 (hsp:∀(K:Frag) (H:L2.Hp) (a:Addr) (ns:List Int),ns.length<=n->L2.Only H->L2.SqL K H a (ns.map L2.V.int)->sp K [.ref a] H (λv _=>v= .bl true) λ_ _ _=>False)
 (hCX:∀(H:L2.Hp) (s:Shared) (e:Value) (s':Shared),CX [] H s (λ_ _ _=>False) e s'->False):
 WalkO q loose XP (λw h=>∃K:Frag,K.In h/\S w K) l.row.toRowW d [] (λf vs=>PySem.call f vs):=by
 refine Att.attach_call hn hdf λw s₀ s₁ mg mb fa o pm cd doc a vs ns G Y ho hd hcd hmg hobj hints hlen hg=>?_
 obtain⟨K,KX,hS⟩:=Y
 obtain⟨fd,hb,hF⟩:=F w K mg fa _ hS KX G.T.g hmg
 exact L2.law_call KX G.T.g G.T.b G.T.builtins G.T.nolimit hg hobj hints (Nat.le_trans hlen hn2) hr hF hb (λH hO hS=>hsp K H a ns hlen hO hS) λH e s'=>hCX H s₁ e s'
def defName(s:Stmt):Str:=match s with
 | .FunctionDef n _ _ _ _ _ _ _ _ _=>n
 | _=>""
abbrev FnSeen:=Option (Str×Str×Arguments×FuncBody×Scope×Addr×List (Str×Addr)×Value×Addr×Bool)
def fnLook(K:Frag)(q:Str)(f:Addr):FnSeen:=match K.lookup f with
 | some ⟨_,_,.func fd,_⟩=>some (fd.name,fd.qualname,fd.params,fd.body,fd.scope,fd.globals,fd.closure,fd.defaults,fd.builtins,codeIn K fd.code q)
 | _=>none
def fnSaw(x q:Str)(st:Stmt):FnSeen:=some (x,q,L2.defArgs st,.stmts (L2.defBody st),L2.defScope st,mainGlobals,[],.none,builtinsNs,true)
theorem fn_of{K:Frag}{x q:Str}{st:Stmt}{f:Addr}(e:fnLook K q f=fnSaw x q st):
 ∃fd:FuncData,L2.Fun K x q st f fd:=by
 unfold fnLook at e
 split at e
 ·rename_i oc od fd sl hl
  obtain⟨nm,qn,pa,bo,sc,gl,cl,df,kd,doc,pm,an,cdv,ct,bu⟩:=fd
  simp only [fnSaw,Option.some.injEq,Prod.mk.injEq] at e
  obtain⟨rfl,rfl,rfl,rfl,rfl,rfl,rfl,rfl,rfl,c⟩:=e
  exact⟨_,⟨oc,od,kd,doc,pm,an,cdv,ct,sl,rfl,hl,c⟩,by unfold keepIn;simp only [hl]⟩
 ·cases e
theorem binds_of{K:Frag}{x q:Str}{st:Stmt}{f:Addr}{fd:FuncData}{ps:List Str}(F:L2.Fun K x q st f fd)
 (b:∀(kV doc pm:Value) (an:Option Addr) (cdv ct:Value) (us:List Value),us.length=ps.length->bindArgs (fnOf x q (L2.defArgs st) (L2.defBody st) (L2.defScope st) .none kV doc pm an cdv ct) ⟨us,[]⟩=pure (ps.zip us)):L2.Binds K fd ps []:=by
 obtain⟨⟨oc,od,kV,doc,pm,an,cdv,ct,osl,rfl,_,_⟩,_⟩:=F
 exact .all (b kV doc pm an cdv ct)
def defLook(K:Frag)(st:Stmt):FnSeen:=match nsIn K mainGlobals (defName st) with
 | some (some (.ref f))=>fnLook K (defName st) f
 | _=>none
theorem def_ex{K:Frag}{st:Stmt}{x:Str}(e:defLook K st=fnSaw (defName st) (defName st) st)(hx:defName st=x):∃f fd,nsIn K mainGlobals x=some (some (.ref f))/\L2.Fun K x x st f fd:=by
 subst hx
 unfold defLook at e
 split at e
 ·rename_i f ha
  obtain⟨fd,F⟩:=fn_of e
  exact⟨f,fd,ha,F⟩
 ·cases e
theorem defAt_of{K:Frag}{h:Heap}{mg:Str->Option Value}{st:Stmt}{x:Str}{ps:List Str}(X:K.In h)(G:h.Ns mainGlobals mg)(e:defLook K st=fnSaw (defName st) (defName st) st)(hx:defName st=x)
 (b:∀(kV doc pm:Value) (an:Option Addr) (cdv ct:Value) (us:List Value),us.length=ps.length->bindArgs (fnOf x x (L2.defArgs st) (L2.defBody st) (L2.defScope st) .none kV doc pm an cdv ct) ⟨us,[]⟩=pure (ps.zip us)):L2.DefAt K mg x st ps:=by
 obtain⟨f,fd,ha,F⟩:=def_ex e hx
 exact⟨f,fd,mg_of X G ha,F,binds_of F b⟩
theorem law_fun{K:Frag}{h:Heap}{mg:Str->Option Value}{st:Stmt}{x y:Str}{fa:Addr}(X:K.In h)(G:h.Ns mainGlobals mg)(e:defLook K st=fnSaw (defName st) (defName st) st)(hx:defName st=x)(hfa:mg x=some (.ref fa))
 (b:∀(kV doc pm:Value) (an:Option Addr) (cdv ct:Value) (s:Shared) (u:Value),BindsTo s (fnOf x x (L2.defArgs st) (L2.defBody st) (L2.defScope st) .none kV doc pm an cdv ct) ⟨[u],[]⟩ [(y,u)]):
 ∃fd:FuncData,L2.Fun K x x st fa fd/\∀(s:Shared) (u:Value),BindsTo s fd ⟨[u],[]⟩ [(y,u)]:=by
 obtain⟨f,fd,ha,F⟩:=def_ex e hx
 have e:=hfa.symm.trans (mg_of X G ha)
 cases e
 refine⟨fd,F,?_⟩
 obtain⟨⟨oc,od,kV,doc,pm,an,cdv,ct,osl,rfl,_,_⟩,_⟩:=F
 exact b kV doc pm an cdv ct
def isNo(K:Frag)(x:Str):Bool:=match nsIn K mainGlobals x with
 | some none=>true
 | _=>false
theorem no_of{K:Frag}{h:Heap}{mg:Str->Option Value}{x:Str}(X:K.In h)(G:h.Ns mainGlobals mg)(e:isNo K x=true):mg x=none:=by
 unfold isNo at e
 split at e
 ·rename_i ha;exact mg_none_of X G ha
 ·cases e
def isInt(K:Frag)(x:Str)(n:Int):Bool:=match nsIn K mainGlobals x with
 | some (some (.int m _))=>decide (m=n)
 | _=>false
def isRef(K:Frag)(x:Str):Bool:=match nsIn K mainGlobals x with
 | some (some (.ref _))=>true
 | _=>false
def adr(K:Frag)(x:Str):Addr:=match nsIn K mainGlobals x with
 | some (some (.ref f))=>f
 | _=>0
theorem ref_of{K:Frag}{x:Str}(e:isRef K x=true):nsIn K mainGlobals x=some (some (.ref (adr K x))):=by
 unfold isRef at e
 unfold adr
 split at e
 ·rename_i f ha;rw [ha]
 ·cases e
def All(l:List Bool):Bool:=l.all id
theorem all_cons{b:Bool}{l:List Bool}(h:All (b::l)=true):b=true/\All l=true:=Bool.and_eq_true_iff.mp h
theorem fst_of{α:Type}{a b:α}{l m:List α}(h:a::l=b::m):a=b/\l=m:=List.cons.inj h
end HD
namespace HD
open PySem PySem.W L2
end HD
namespace HD
open PySem PySem.W L2
def clsLook(K:Frag)(C:Addr)(attrs:List Str):Bool:=plainGet K C Str.empty&&(hasDictIn K C&&(plainOver K C&&((findIn K (.ref C) "__setattr__" ==some (some (.builtin "object.__setattr__")))&&(makesIn K C&&(keepIn K (.ref C)&&attrs.all λa=>findIn K (.ref C) a==some none)))))
theorem cls_of{K:Frag}{C:Addr}{attrs:List Str}(e:clsLook K C attrs=true):Cls K C/\makesIn K C=true/\keepIn K (.ref C)=true/\∀a∈attrs,NoAttr K C a:=by
 unfold clsLook at e
 simp only [Bool.and_eq_true] at e
 obtain⟨e1,e2,e3,e4,e5,e6,e7⟩:=e
 exact⟨⟨e1,e2,e3,beq_iff_eq.mp e4⟩,e5,e6,λa ha=>beq_iff_eq.mp (List.all_eq_true.mp e7 a ha)⟩
def metLook(K:Frag)(C:Addr)(m q:Str):FnSeen:=match findIn K (.ref C) m with
 | some (some (.ref f))=>if isFn K (.ref f)=true then fnLook K q f else none
 | _=>none
theorem met_ex{K:Frag}{C:Addr}{m q:Str}{st:Stmt}(e:metLook K C m q=fnSaw m q st):∃f fd,findIn K (.ref C) m=some (some (.ref f))/\isFn K (.ref f)=true/\L2.Fun K m q st f fd:=by
 unfold metLook at e
 split at e
 ·rename_i f ha
  split at e
  ·rename_i i
   obtain⟨fd,F⟩:=fn_of e
   exact⟨f,fd,ha,i,F⟩
  ·cases e
 ·cases e
theorem make_of{K:Frag}{h:Heap}{mg:Str->Option Value}{C:Addr}{x q:Str}{st:Stmt}{ps:List Str}(X:K.In h)(G:h.Ns mainGlobals mg)(g:nsIn K mainGlobals x=some (some (.ref C)))(mk:makesIn K C=true)(kc:keepIn K (.ref C)=true)(e:metLook K C "__init__" q=fnSaw "__init__" q st)
 (b:∀(kV doc pm:Value) (an:Option Addr) (cdv ct:Value) (us:List Value),us.length=ps.length->bindArgs (fnOf "__init__" q (L2.defArgs st) (L2.defBody st) (L2.defScope st) .none kV doc pm an cdv ct) ⟨us,[]⟩=pure (ps.zip us)):MakeAt K mg x C q st ps:=by
 obtain⟨f,fd,ha,i,F⟩:=met_ex e
 exact⟨f,fd,mg_of X G g,⟨mk,ha,i,kc⟩,F,binds_of F b⟩
inductive XEs (w:World):List DictEntry->List (Str×Str)->List (Str×Value)->Prop
 | nil:XEs w [] [] []
 | cons {x y:Str} {u v:Tok} {es:List DictEntry} {l:List (Str×Str)} {vs:List (Str×Value)}:XEs w es l vs->XEs w (⟨keyH w (.inr x),.str x u,.str y v⟩::es) ((x,y)::l) ((x,.str y v)::vs)
end HD
namespace HD
open PySem PySem.W L2
def mthLook(K:Frag)(C:Addr)(m q:Str):FnSeen:=match findIn K (.ref C) m with
 | some (some (.ref f))=>if (isFn K (.ref f)&&keepIn K (.ref f))=true then fnLook K q f else none
 | _=>none
theorem meth_of{K:Frag}{C:Addr}{m q:Str}{st:Stmt}{ps:List Str}(e:mthLook K C m q=fnSaw m q st)
 (b:∀(kV doc pm:Value) (an:Option Addr) (cdv ct:Value) (us:List Value),us.length=ps.length->bindArgs (fnOf m q (L2.defArgs st) (L2.defBody st) (L2.defScope st) .none kV doc pm an cdv ct) ⟨us,[]⟩=pure (ps.zip us)):MethAt K C m q st ps:=by
 unfold mthLook at e
 split at e
 ·rename_i f ha
  split at e
  ·rename_i i
   rw [Bool.and_eq_true] at i
   obtain⟨fd,F⟩:=fn_of e
   exact⟨f,fd,⟨ha,i.1,i.2⟩,F,binds_of F b⟩
  ·cases e
 ·cases e
end HD
seal L2.PE L2.PA L2.PS L2.PSs L2.PT L2.PW L2.PG L2.PGs L2.OpR L2.CallR L2.PI L2.PSet L2.PO L2.SlR L2.IxR L2.PPs L2.PC L2.UnR L2.MtR
local macro_rules
  | `(tactic| walk_at "rl") => do
    let a ← L2.rdArgs L2.lzPre
    `(tactic| simp (config := { maxSteps := 3000000 }) only [$a,*, *])
  | `(tactic| walk_at "ro") => do
    let a ← L2.rdArgs (L2.rdPre)
    `(tactic| simp (config := { maxSteps := 3000000 }) only [and_assoc, $a,*, *])
  | `(tactic| walk_at "rz") => do
    let a ← L2.rdArgs (L2.lzPre ++ " lazyAll")
    `(tactic| simp (config := { maxSteps := 3000000 }) only [$a,*, *])
  | `(tactic| walk_at "rd") => `(tactic| first | (walk_at "rl"; try walk_at "ro") | walk_at "ro")
  | `(tactic| walk_at "ry") => do
    let a ← L2.rdArgs (L2.lzPre2 ++ " lazyAll")
    `(tactic| simp (config := { maxSteps := 3000000, zeta := false, zetaDelta := false }) only [$a,*, *])
  | `(tactic| walk_at "rh") => `(tactic| with_reducible first | (refine L2.hideL ?_; intro T) | refine L2.hRet ?_ | refine L2.hIf ?_ | refine L2.hFor ?_ | refine L2.hDrop ?_ | refine L2.hAsg ?_ | refine L2.hWhile ?_ | refine L2.hFld ?_ | refine L2.hForU ?_ | refine L2.hForK ?_ | refine L2.hPut ?_ | refine L2.hRetN ?_)
  | `(tactic| walk_at "r2") => `(tactic| ((try walk_at "rh"); (try walk_at "ry"); repeat (walk_at "rh"; walk_at "ry")))
namespace K21
open PySem L2
def top(i:Nat):Stmt:=PySem.Challenge.pw_rerunyard_k21_whole_goods_by_the_words.main.body.getD i (.Pass ⟨0,0,0,0⟩)
abbrev s__wall:Stmt:=top 0
abbrev s_Tool___init__:Stmt:=inClass (top 2) 0
theorem sc_Tool___init__:FnScope ["self","count"] ["self","count"] (defScope s_Tool___init__):=⟨rfl,rfl,rfl,by decide +kernel,rfl,by decide +kernel,by decide +kernel⟩
abbrev s_Store___init__:Stmt:=inClass (top 3) 0
theorem sc_Store___init__:FnScope ["self","level","most"] ["self","level","most"] (defScope s_Store___init__):=⟨rfl,rfl,rfl,by decide +kernel,rfl,by decide +kernel,by decide +kernel⟩
abbrev s_Goods___init__:Stmt:=inClass (top 4) 0
theorem sc_Goods___init__:FnScope ["self","program"] ["self","program"] (defScope s_Goods___init__):=⟨rfl,rfl,rfl,by decide +kernel,rfl,by decide +kernel,by decide +kernel⟩
abbrev s_Goods_take:Stmt:=inClass (top 4) 1
theorem sc_Goods_take:FnScope ["self","hand","name","n","tool"] ["self","hand","name","n"] (defScope s_Goods_take):=⟨rfl,rfl,rfl,by decide +kernel,rfl,by decide +kernel,by decide +kernel⟩
abbrev s_Goods_give:Stmt:=inClass (top 4) 2
theorem sc_Goods_give:FnScope ["self","hand","name","n","tool","given"] ["self","hand","name","n"] (defScope s_Goods_give):=⟨rfl,rfl,rfl,by decide +kernel,rfl,by decide +kernel,by decide +kernel⟩
abbrev s_Goods_put:Stmt:=inClass (top 4) 3
theorem sc_Goods_put:FnScope ["self","hand","name","n","store"] ["self","hand","name","n"] (defScope s_Goods_put):=⟨rfl,rfl,rfl,by decide +kernel,rfl,by decide +kernel,by decide +kernel⟩
abbrev s_Goods_get:Stmt:=inClass (top 4) 4
theorem sc_Goods_get:FnScope ["self","hand","name","n","store"] ["self","hand","name","n"] (defScope s_Goods_get):=⟨rfl,rfl,rfl,by decide +kernel,rfl,by decide +kernel,by decide +kernel⟩
abbrev s_Goods_bring:Stmt:=inClass (top 4) 5
theorem sc_Goods_bring:FnScope ["self","name","n","store","brought"] ["self","name","n"] (defScope s_Goods_bring):=⟨rfl,rfl,rfl,by decide +kernel,rfl,by decide +kernel,by decide +kernel⟩
abbrev s_Goods_leave:Stmt:=inClass (top 4) 6
theorem sc_Goods_leave:FnScope ["self","hand","left","name","n","given","served"] ["self","hand"] (defScope s_Goods_leave):=⟨rfl,rfl,rfl,by decide +kernel,rfl,by decide +kernel,by decide +kernel⟩
abbrev s_Goods_tools:Stmt:=inClass (top 4) 7
theorem sc_Goods_tools:FnScope ["self"] ["self"] (defScope s_Goods_tools):=⟨rfl,rfl,rfl,by decide +kernel,rfl,by decide +kernel,by decide +kernel⟩
abbrev s_Goods_stores:Stmt:=inClass (top 4) 8
theorem sc_Goods_stores:FnScope ["self"] ["self"] (defScope s_Goods_stores):=⟨rfl,rfl,rfl,by decide +kernel,rfl,by decide +kernel,by decide +kernel⟩
abbrev s_Goods_stand:Stmt:=inClass (top 4) 9
abbrev s_tools_of:Stmt:=top 5
theorem sc_tools_of:FnScope ["program"] ["program"] (defScope s_tools_of):=⟨rfl,rfl,rfl,by decide +kernel,rfl,by decide +kernel,by decide +kernel⟩
abbrev s_stores_of:Stmt:=top 6
theorem sc_stores_of:FnScope ["program"] ["program"] (defScope s_stores_of):=⟨rfl,rfl,rfl,by decide +kernel,rfl,by decide +kernel,by decide +kernel⟩
abbrev s_told_tool:Stmt:=top 7
theorem sc_told_tool:FnScope ["tool"] ["tool"] (defScope s_told_tool):=⟨rfl,rfl,rfl,by decide +kernel,rfl,by decide +kernel,by decide +kernel⟩
abbrev s_told_store:Stmt:=top 8
theorem sc_told_store:FnScope ["store"] ["store"] (defScope s_told_store):=⟨rfl,rfl,rfl,by decide +kernel,rfl,by decide +kernel,by decide +kernel⟩
abbrev s_hand_out:Stmt:=top 9
theorem sc_hand_out:FnScope ["tool","hand","n"] ["tool","hand","n"] (defScope s_hand_out):=⟨rfl,rfl,rfl,by decide +kernel,rfl,by decide +kernel,by decide +kernel⟩
abbrev s_hand_in:Stmt:=top 10
theorem sc_hand_in:FnScope ["tool","hand","n"] ["tool","hand","n"] (defScope s_hand_in):=⟨rfl,rfl,rfl,by decide +kernel,rfl,by decide +kernel,by decide +kernel⟩
abbrev s_serve_takers:Stmt:=top 11
theorem sc_serve_takers:FnScope ["tool","served","hand","n"] ["tool"] (defScope s_serve_takers):=⟨rfl,rfl,rfl,by decide +kernel,rfl,by decide +kernel,by decide +kernel⟩
abbrev s_serve_by_turns:Stmt:=top 12
theorem sc_serve_by_turns:FnScope ["store","served","hand","n"] ["store"] (defScope s_serve_by_turns):=⟨rfl,rfl,rfl,by decide +kernel,rfl,by decide +kernel,by decide +kernel⟩
abbrev s__law_next:Stmt:=top 14
theorem sc__law_next:FnScope ["deck","at","many","cell","j","number"] ["deck"] (defScope s__law_next):=⟨rfl,rfl,rfl,by decide +kernel,rfl,by decide +kernel,by decide +kernel⟩
abbrev s__law_program:Stmt:=top 15
theorem sc__law_program:FnScope ["deck","tools","spin","k","name","stores","most"] ["deck"] (defScope s__law_program):=⟨rfl,rfl,rfl,by decide +kernel,rfl,by decide +kernel,by decide +kernel⟩
abbrev s__law_begun:Stmt:=top 16
theorem sc__law_begun:FnScope ["program","held","name","count","first","most"] ["program"] (defScope s__law_begun):=⟨rfl,rfl,rfl,by decide +kernel,rfl,by decide +kernel,by decide +kernel⟩
abbrev s__law_had:Stmt:=top 17
theorem sc__law_had:FnScope ["tool","hand"] ["tool","hand"] (defScope s__law_had):=⟨rfl,rfl,rfl,by decide +kernel,rfl,by decide +kernel,by decide +kernel⟩
abbrev s__law_give:Stmt:=top 18
theorem sc__law_give:FnScope ["tool","hand","n","back","rest","served","other","many"] ["tool","hand","n"] (defScope s__law_give):=⟨rfl,rfl,rfl,by decide +kernel,rfl,by decide +kernel,by decide +kernel⟩
abbrev s__law_serve:Stmt:=top 19
theorem sc__law_serve:FnScope ["store","served","hand","n"] ["store"] (defScope s__law_serve):=⟨rfl,rfl,rfl,by decide +kernel,rfl,by decide +kernel,by decide +kernel⟩
abbrev s__law_stored:Stmt:=top 20
theorem sc__law_stored:FnScope ["store","word","hand","n","put"] ["store","word","hand","n"] (defScope s__law_stored):=⟨rfl,rfl,rfl,by decide +kernel,rfl,by decide +kernel,by decide +kernel⟩
abbrev s__law_due:Stmt:=top 21
theorem sc__law_due:FnScope ["held","program","deed","word","hand","name","n","found","tool","count","many","at_once"] ["held","program","deed"] (defScope s__law_due):=⟨rfl,rfl,rfl,by decide +kernel,rfl,by decide +kernel,by decide +kernel⟩
abbrev s__law_asked:Stmt:=top 22
theorem sc__law_asked:FnScope ["goods","deed","word","hand","name","n"] ["goods","deed"] (defScope s__law_asked):=⟨rfl,rfl,rfl,by decide +kernel,rfl,by decide +kernel,by decide +kernel⟩
abbrev s__law_same:Stmt:=top 23
theorem sc__law_same:FnScope ["found","due"] ["found","due"] (defScope s__law_same):=⟨rfl,rfl,rfl,by decide +kernel,rfl,by decide +kernel,by decide +kernel⟩
abbrev s__law_seen:Stmt:=top 24
theorem sc__law_seen:FnScope ["goods","held","program","tools","name","count","hands","having","stores","told","some","one","part"] ["goods","held","program"] (defScope s__law_seen):=⟨rfl,rfl,rfl,by decide +kernel,rfl,by decide +kernel,by decide +kernel⟩
abbrev s__law_deed:Stmt:=top 25
theorem sc__law_deed:FnScope ["deck","program","words","word","some","name","n","one"] ["deck","program"] (defScope s__law_deed):=⟨rfl,rfl,rfl,by decide +kernel,rfl,by decide +kernel,by decide +kernel⟩
abbrev s__law_copied:Stmt:=top 26
theorem sc__law_copied:FnScope ["thing"] ["thing"] (defScope s__law_copied):=⟨rfl,rfl,rfl,by decide +kernel,rfl,by decide +kernel,by decide +kernel⟩
abbrev s__law_lists:Stmt:=top 27
theorem sc__law_lists:FnScope ["thing","found","part"] ["thing"] (defScope s__law_lists):=⟨rfl,rfl,rfl,by decide +kernel,rfl,by decide +kernel,by decide +kernel⟩
abbrev s__law_own:Stmt:=top 28
theorem sc__law_own:FnScope ["told","lists","sizes","some"] ["told"] (defScope s__law_own):=⟨rfl,rfl,rfl,by decide +kernel,rfl,by decide +kernel,by decide +kernel⟩
abbrev s_law:Stmt:=top 29
theorem sc_law:FnScope ["script","deck","program","handed","goods","held","told","kept","k","deed","found"] ["script"] (defScope s_law):=⟨rfl,rfl,rfl,by decide +kernel,rfl,by decide +kernel,by decide +kernel⟩
end K21
namespace K21
open PySem L2
structure TS where
 free:Int
 held:List (Int×Int)
 que:List (Int×Int)
def getI:List (Int×Int)->Int->Int
 | [],_=>0
 | (k,x)::r,h=>if k=h then x else getI r h
def putI:List (Int×Int)->Int->Int->List (Int×Int)
 | [],h,x=>[(h,x)]
 | (k,y)::r,h,x=>if k=h then (k,x)::r else (k,y)::putI r h x
def outS(t:TS)(h n:Int):TS:=⟨t.free-n,putI t.held h (getI t.held h+n),t.que⟩
def hk(held:List (Int×Int)):List (Key×V):=held.map λp=>(Sum.inl p.1,V.int p.2)
theorem hk_get{h:Int}:∀held:List (Int×Int),(valV (hk held) (Sum.inl h)).getD (.int 0)= .int (getI held h)
 | []=>rfl
 | (k,x)::r=>by
  unfold hk getI
  rw [List.map_cons]
  by_cases c:k=h
  ·rw [valV_pos (by rw [c]),if_pos c];rfl
  ·rw [valV_neg (λe=>c (Sum.inl.inj e)),if_neg c]
   exact hk_get r
theorem hk_put{h x:Int}:∀held:List (Int×Int),(held.map (·.1)).Nodup->putK (hk held) (Sum.inl h) (.int x)=hk (putI held h x)
 | [],_=>rfl
 | (k,y)::r,nd=>by
  rw [List.map_cons,List.nodup_cons] at nd
  have ih:=hk_put (h:=h) (x:=x) r nd.2
  unfold putI
  by_cases c:k=h
  ·rw [if_pos c]
   subst c
   unfold putK hk
   rw [if_pos (by rw [List.map_cons,List.any_cons];simp),List.map_cons,List.map_cons,List.map_cons]
   congr 1
   ·simp
   ·rw [List.map_map]
    refine List.map_congr_left λp hp=>?_
    have:p.1≠k:=λe=>nd.1 (by rw [<-e];exact List.mem_map_of_mem (f:=(·.1)) hp)
    simp [this]
  ·rw [if_neg c]
   unfold putK hk at ih⊢
   rw [List.map_cons,List.any_cons]
   have e0:decide ((Sum.inl k:Key)=Sum.inl h)=false:=decide_eq_false λe=>c (Sum.inl.inj e)
   rw [e0,Bool.false_or]
   by_cases c2:(List.map (λp=>((Sum.inl p.1:Key),V.int p.2)) r).any (λkv=>decide (kv.1=Sum.inl h))=true
   ·rw [if_pos c2] at ih⊢
    rw [List.map_cons,ih,List.map_cons]
    congr 1
    simp [c]
   ·rw [if_neg c2] at ih⊢
    rw [List.cons_append,ih,List.map_cons]
theorem putI_keys{h x:Int}:∀held:List (Int×Int),(held.map (·.1)).Nodup->((putI held h x).map (·.1)).Nodup/\(∀k,k∈(putI held h x).map (·.1)->k=h\/k∈held.map (·.1))/\(putI held h x).length<=held.length+1
 | [],_=>⟨List.nodup_cons.mpr ⟨List.not_mem_nil,.nil⟩,λk hk=>.inl (List.mem_singleton.mp hk),Nat.le_refl _⟩
 | (k,y)::r,nd=>by
  rw [List.map_cons,List.nodup_cons] at nd
  obtain⟨a,b,c⟩:=putI_keys (h:=h) (x:=x) r nd.2
  unfold putI
  by_cases e:k=h
  ·rw [if_pos e]
   exact⟨by rw [List.map_cons,List.nodup_cons];exact nd,λk' hk'=>.inr hk',by simp⟩
  ·rw [if_neg e,List.map_cons,List.nodup_cons]
   refine⟨⟨λz=>(b _ z).elim (λz=>e z) nd.1,a⟩,λk' hk'=>?_,by simp only [List.length_cons];omega⟩
   rcases List.mem_cons.mp hk' with rfl | hk'
   ·exact .inr List.mem_cons_self
   ·exact(b _ hk').imp id λz=>List.mem_cons_of_mem _ z
def srv:List (Int×Int)->TS->List (Int×Int)×TS
 | [],t=>([],t)
 | (h,n)::q,t=>if n<=t.free then ((h,n)::(srv q (outS ⟨t.free,t.held,q⟩ h n)).1,(srv q (outS ⟨t.free,t.held,q⟩ h n)).2) else ([],t)
theorem srv_cons{h n:Int}{q:List (Int×Int)}{t:TS}(c:n<=t.free):srv ((h,n)::q) t=((h,n)::(srv q (outS ⟨t.free,t.held,q⟩ h n)).1,(srv q (outS ⟨t.free,t.held,q⟩ h n)).2):=by
 show(if n<=t.free then _ else _)=_
 rw [if_pos c]
inductive Prs (H:Hp):List V->List (Int×Int)->Prop
 | nil:Prs H [] []
 | cons {p:Addr} {h n:Int} {vs:List V} {ps:List (Int×Int)}:H p=some (.tup [.int h,.int n])->Prs H vs ps->Prs H (.ref p::vs) ((h,n)::ps)
theorem Prs.mono{H H':Hp}(g:∀c xs,H c=some (.tup xs)->H' c=some (.tup xs)):∀{vs:List V} {ps:List (Int×Int)},Prs H vs ps->Prs H' vs ps
 | _,_,.nil=>.nil
 | _,_,.cons h r=>.cons (g _ _ h) (r.mono g)
theorem Prs.length{H:Hp}:∀{vs:List V} {ps:List (Int×Int)},Prs H vs ps->vs.length=ps.length
 | _,_,.nil=>rfl
 | _,_,.cons _ r=>by rw [List.length_cons,List.length_cons,r.length]
theorem Prs.snoc{H:Hp}{p:Addr}{h n:Int}(hp:H p=some (.tup [.int h,.int n])):∀{vs:List V} {ps:List (Int×Int)},Prs H vs ps->Prs H (vs++[.ref p]) (ps++[(h,n)])
 | _,_,.nil=>.cons hp .nil
 | _,_,.cons h r=>.cons h (r.snoc hp)
def Fr3(a d q:Addr)(H H':Hp):Prop:=∀c u,c≠a->c≠d->c≠q->H c=some u->H' c=some u
def hs:List Int:=[1,2,3,4,5,6,7,8,9,10,11,100]
def HsOk(t:TS):Prop:=(∀p∈t.held,p.1∈hs)/\∀p∈t.que,p.1∈hs
theorem nd_le:∀{l m:List Int},l.Nodup->(∀x∈l,x∈m)->l.length<=m.length
 | [],m,_,_=>Nat.zero_le _
 | x::l,m,nd,h=>by
  rw [List.nodup_cons] at nd
  have hx:=h x List.mem_cons_self
  have h2:∀y∈l,y∈m.erase x:=λy hy=>(List.mem_erase_of_ne (λz=>nd.1 (by rw [<-z];exact hy))).mpr (h y (List.mem_cons_of_mem _ hy))
  have:=nd_le nd.2 h2
  rw [List.length_erase_of_mem hx] at this
  have hp:0<m.length:=List.length_pos_of_mem hx
  rw [List.length_cons];omega
theorem held_len{t:TS}(nd:(t.held.map (·.1)).Nodup)(h:HsOk t):t.held.length<=12:=by
 have:=nd_le nd (m:=hs) λx hx=>by
  obtain⟨p,hp,e⟩:=List.mem_map.mp hx
  exact e▸h.1 p hp
 rw [List.length_map] at this
 exact this
def TlO(C:Addr)(H:Hp)(a d q:Addr)(t:TS):Prop:=∃dx qs,H a=some (.ins C dx [("free",.int t.free),("held",.ref d),("queue",.ref q)])/\H d=some (.dK (hk t.held))/\H q=some (.lst qs)/\Prs H qs t.que/\(t.held.map (·.1)).Nodup/\HsOk t/\t.que.length<=200
section
variable{P:Program}{w:World}{K:PySem.W.Frag}{mg:Str->Option Value}{base:Heap}
def spToolI(C:Addr):Sp:=λvs H Q _=>∃(a dx:Addr) (n:Int),vs= [.ref a,.int n]/\H a=some (.ins C dx [])/\∀(d q:Addr) (H':Hp),H d=none->H q=none->(∀c u,c≠a->H c=some u->H' c=some u)->TlO C H' a d q ⟨n,[],[]⟩->Q .non H'
theorem ok_Tool{C:Addr}(D:MakeAt K mg "Tool" C "Tool.__init__" s_Tool___init__ ["self","count"])(CL_Tool:Cls K C)(N_Tool_free:NoAttr K C "free")(N_Tool_held:NoAttr K C "held")(N_Tool_queue:NoAttr K C "queue"):OkC P w K mg base 1 "Tool" C ["self","count"] (spToolI C):=by
 refine D.ok sc_Tool___init__ (λvs H Q E h=>?_) (λf cdv A outer s H vs Q E hr h=>?_)
 ·obtain⟨_,_,_,rfl,_⟩:=h;rfl
 obtain⟨a,dx,n,rfl,ha,q⟩:=h
 refine⟨_,(pss_cons (ps_fldG CL_Tool N_Tool_free (pv 0) (pv 1))
 (pss_cons (ps_fldG CL_Tool N_Tool_held (pv 0) pe_dnewG)
 (pss_one (ps_fldG CL_Tool N_Tool_queue (pv 0) (pe_lstG pa_nil))))),?_⟩
 walk_at "rd"
 intro H1 m1 d H2 hd g2 h2
 have a2:=g2 _ _ m1.at_
 walk_at "rd"
 intro H3 m3 q0 H4 hq g4 h4
 have a4:=g4 _ _ m3.at_
 clear a2
 walk_at "rd"
 intro H5 m5
 have nd:d≠a:=(ne_of_none m1.at_ hd).symm
 have nq:q0≠a:=(ne_of_none m3.at_ hq).symm
 have d3:=m3.old h2 nd
 have hd0:H d=none:=by rw [<-m1.else_ d nd];exact hd
 have hq2:H2 q0=none:=by rw [<-m3.else_ q0 nq];exact hq
 have hq0:H q0=none:=by rw [<-m1.else_ q0 nq];exact g2.free hq2
 refine q d q0 H5 hd0 hq0 (λc u nc hc=>m5.old (g4 _ _ (m3.old (g2 _ _ (m1.old hc nc)) nc)) nc) ⟨dx,[],m5.at_,m5.old (g4 _ _ d3) nd,m5.old h4 nq,.nil,.nil,⟨λp hp=>absurd hp List.not_mem_nil,λp hp=>absurd hp List.not_mem_nil⟩,by simp⟩
theorem Fr3.trans{a d q:Addr}{H H' H'':Hp}(g:Fr3 a d q H H')(g':Fr3 a d q H' H''):Fr3 a d q H H'':=λc u h1 h2 h3 h=>g' c u h1 h2 h3 (g c u h1 h2 h3 h)
def spOut(C:Addr):Sp:=λvs H Q _=>∃(a d q:Addr) (t:TS) (h n:Int),vs= [.ref a,.int h,.int n]/\TlO C H a d q t/\h∈hs/\∀H',Fr3 a d q H H'->TlO C H' a d q (outS t h n)->Q .non H'
theorem ok_out{C:Addr}(D:DefAt K mg "hand_out" s_hand_out ["tool","hand","n"])(CL_Tool:Cls K C)(N_Tool_free:NoAttr K C "free")(N_Tool_held:NoAttr K C "held"):OkD P w K mg base 1 "hand_out" ["tool","hand","n"] (spOut C):=by
 refine D.ok sc_hand_out (λvs H Q E h=>?_) (λf cdv A outer s H vs Q E hr h=>?_)
 ·obtain⟨_,_,_,_,_,_,rfl,_⟩:=h;rfl
 obtain⟨a,d,q0,t,h,n,rfl,⟨dx,qs,k1,k2,k3,k4,k5,k6,k7⟩,kl,q⟩:=h
 have hu:=hu_of hr
 have big:100000<=sizeLine:=by unfold sizeLine;decide
 refine⟨_,(pss_cons (ps_fldG CL_Tool N_Tool_free (pv 0) (pe_op op_sub (pe_fldG CL_Tool N_Tool_free (pv 0)) (pv 2)))
 (pss_one (ps_dputG2 hu (pe_fldG CL_Tool N_Tool_held (pv 0)) (pv 1) (pe_op op_add (pe_dgetDG hu (pe_fldG CL_Tool N_Tool_held (pv 0)) (pv 1) pe_int ⟨rfl,rfl,rfl,rfl⟩) (pv 2))))),?_⟩
 walk_at "rd"
 intro H1 m1
 have nda:d≠a:=λz=>by rw [z,k1] at k2;cases k2
 have nqa:q0≠a:=λz=>by rw [z,k1] at k3;cases k3
 have nqd:q0≠d:=λz=>by rw [z,k2] at k3;cases k3
 have a1:=m1.at_
 have d1:=m1.old k2 nda
 have lh:(hk t.held).length=t.held.length:=by unfold hk;rw [List.length_map]
 have l12:=held_len k5 k6
 walk_at "rd"
 refine⟨⟨_,rfl⟩,_,hk_get _,by omega,λH2 m2=>?_⟩
 obtain⟨p1,p2,p3⟩:=putI_keys (h:=h) (x:=getI t.held h+n) t.held k5
 have nt:∀c xs,H c=some (.tup xs)->H2 c=some (.tup xs):=λc xs hc=>m2.old (m1.old hc (λz=>by rw [z,k1] at hc;cases hc)) (λz=>by rw [z,k2] at hc;cases hc)
 refine q H2 (λc u n1 n2 _ hc=>m2.old (m1.old hc n1) n2) ⟨dx,qs,m2.old a1 (Ne.symm nda),?_,m2.old (m1.old k3 nqa) nqd,k4.mono nt,p1,⟨λp hp=>(p2 p.1 (List.mem_map_of_mem (f:=(·.1)) hp)).elim (λz=>z▸kl) (λz=>by obtain⟨p',hp',e'⟩:=List.mem_map.mp z;exact e'▸k6.1 p' hp'),k6.2⟩,k7⟩
 rw [m2.at_,hk_put _ k5]
 rfl
def spIn(C:Addr):Sp:=λvs H Q _=>∃(a d q:Addr) (t:TS) (h n:Int),vs= [.ref a,.int h,.int n]/\TlO C H a d q t/\h∈hs/\∀H',Fr3 a d q H H'->TlO C H' a d q (outS t h (-n))->Q .non H'
theorem ok_in{C:Addr}(D:DefAt K mg "hand_in" s_hand_in ["tool","hand","n"])(G_hand_out:OkD P w K mg base 1 "hand_out" ["tool","hand","n"] (spOut C)):OkD P w K mg base 2 "hand_in" ["tool","hand","n"] (spIn C):=by
 refine D.ok sc_hand_in (λvs H Q E h=>?_) (λf cdv A outer s H vs Q E hr h=>?_)
 ·obtain⟨_,_,_,_,_,_,rfl,_⟩:=h;rfl
 obtain⟨a,d,q0,t,h,n,rfl,tl,kl,q⟩:=h
 refine⟨_,(pss_one (ps_expr (pe_def G_hand_out hr rfl (pa_c (pv 0) (pa_c (pv 1) (pa_c (pe_un un_neg (pv 2)) pa_nil)))))),?_⟩
 walk_at "rd"
 exact⟨a,d,q0,t,h, -n,rfl,tl,kl,λH' f3 tl'=>q H' f3 tl'⟩
inductive Svd (w:Str) (H:Hp):List V->List (Int×Int)->Prop
 | nil:Svd w H [] []
 | cons {p:Addr} {h n:Int} {vs:List V} {ps:List (Int×Int)}:H p=some (.tup [.int h,.str w,.int n])->Svd w H vs ps->Svd w H (.ref p::vs) ((h,n)::ps)
theorem Svd.mono{w:Str}{H H':Hp}(g:∀c xs,H c=some (.tup xs)->H' c=some (.tup xs)):∀{vs:List V} {ps:List (Int×Int)},Svd w H vs ps->Svd w H' vs ps
 | _,_,.nil=>.nil
 | _,_,.cons h r=>.cons (g _ _ h) (r.mono g)
theorem Svd.length{w:Str}{H:Hp}:∀{vs:List V} {ps:List (Int×Int)},Svd w H vs ps->vs.length=ps.length
 | _,_,.nil=>rfl
 | _,_,.cons _ r=>by rw [List.length_cons,List.length_cons,r.length]
theorem Svd.snoc{w:Str}{H:Hp}{p:Addr}{h n:Int}(hp:H p=some (.tup [.int h,.str w,.int n])):∀{vs:List V} {ps:List (Int×Int)},Svd w H vs ps->Svd w H (vs++[.ref p]) (ps++[(h,n)])
 | _,_,.nil=>.cons hp .nil
 | _,_,.cons h r=>.cons h (r.snoc hp)
theorem TlO.ne{C:Addr}{H:Hp}{a d q:Addr}{t:TS}(h:TlO C H a d q t):∀c xs,H c=some (.tup xs)->c≠a/\c≠d/\c≠q:=by
 obtain⟨dx,qs,k1,k2,k3,_⟩:=h
 intro c xs hc
 refine⟨λz=>?_,λz=>?_,λz=>?_⟩
 ·rw [z,k1] at hc;cases hc
 ·rw [z,k2] at hc;cases hc
 ·rw [z,k3] at hc;cases hc
theorem TlO.kt{C:Addr}{H H':Hp}{a d q:Addr}{t:TS}(h:TlO C H a d q t)(f:Fr3 a d q H H'):∀c xs,H c=some (.tup xs)->H' c=some (.tup xs):=λc xs hc=>by
 obtain⟨n1,n2,n3⟩:=h.ne c xs hc
 exact f c _ n1 n2 n3 hc
theorem tru_lst{K:PySem.W.Frag}{H:Hp}{p:Addr}{xs:List V}(h:H p=some (.lst xs)):TruV K (.ref p) H (!xs.isEmpty):=.inl ⟨_,SqL.of h,rfl⟩
theorem TlO.grow{C:Addr}{H H':Hp}{a d q:Addr}{t:TS}(h:TlO C H a d q t)(g:∀c u,(c=a\/c=d\/c=q\/∃xs,u=HO.tup xs)->H c=some u->H' c=some u):TlO C H' a d q t:=by
 obtain⟨dx,qs,k1,k2,k3,k4,k5⟩:=h
 exact⟨dx,qs,g _ _ (.inl rfl) k1,g _ _ (.inr (.inl rfl)) k2,g _ _ (.inr (.inr (.inl rfl))) k3,k4.mono λc xs hc=>g _ _ (.inr (.inr (.inr ⟨xs,rfl⟩))) hc,k5⟩
def StI(C a d q r:Addr)(t:TS)(H:Hp)(m:Nat)(σ:St)(H':Hp):Prop:=∃(sv:List V) (dn:List (Int×Int)) (t':TS) (v2 v3:Option V),σ= [some (.ref a),some (.ref r),v2,v3]/\Fr3 a d q H H'/\H' r=some (.lst sv)/\Svd "takes" H' sv dn/\TlO C H' a d q t'/\dn++(srv t'.que t').1=(srv t.que t).1/\(srv t'.que t').2=(srv t.que t).2/\dn.length+t'.que.length<=200/\m=t'.que.length
def StZ(C a d q r:Addr)(t:TS)(H:Hp)(σ:St)(H':Hp):Prop:=∃(sv:List V) (v2 v3:Option V),σ= [some (.ref a),some (.ref r),v2,v3]/\Fr3 a d q H H'/\H' r=some (.lst sv)/\Svd "takes" H' sv (srv t.que t).1/\TlO C H' a d q (srv t.que t).2
def spServe(C:Addr):Sp:=λvs H Q _=>∃(a d q:Addr) (t:TS),vs= [.ref a]/\TlO C H a d q t/\
 ∀(r:Addr) (H':Hp) (sv:List V),H r=none->Fr3 a d q H H'->H' r=some (.lst sv)->Svd "takes" H' sv (srv t.que t).1->TlO C H' a d q (srv t.que t).2->Q (.ref r) H'
theorem ok_serve{C:Addr}(D:DefAt K mg "serve_takers" s_serve_takers ["tool"])(CL_Tool:Cls K C)(N_Tool_free:NoAttr K C "free")(N_Tool_queue:NoAttr K C "queue")(G_hand_out:OkD P w K mg base 1 "hand_out" ["tool","hand","n"] (spOut C)):OkD P w K mg base 2 "serve_takers" ["tool"] (spServe C):=by
 refine D.ok sc_serve_takers (λvs H Q E h=>?_) (λf cdv A outer s H vs Q E hr h=>?_)
 ·obtain⟨_,_,_,_,rfl,_⟩:=h;rfl
 obtain⟨a,d,q0,t,rfl,tl,q⟩:=h
 have big:100000<=sizeLine:=by unfold sizeLine;decide
 refine⟨_,(pss_cons (ps_set (i:=1) sc_serve_takers.nd rfl (Or.inl rfl) (pe_lstG pa_nil))
 (pss_cons (ps_up (ps_while PassesOwn.never (PW.pt (pw_and (pt_truth (pe_fldG CL_Tool N_Tool_queue (pv 0)) (λ_=>rfl)) (pw_and1 (pt_cmpR op_le (pe_ix ix_g (pe_ix ix_g (pe_fldG CL_Tool N_Tool_queue (pv 0)) pe_int (λ_ _=>rfl)) pe_int (λ_ _=>rfl)) (pe_fldG CL_Tool N_Tool_free (pv 0)) (nomark _)))))
 (pss_cons (ps_asg (pe_bm PySem.F.plainAttrs_list PySem.F.slot_list_pop PySem.F.type_list_pop mt_popAtG (pe_fldG CL_Tool N_Tool_queue (pv 0)) (pa_c pe_int pa_nil)) (pg_tupG 2 rfl (pgs_cons (pg_name (i:=2) sc_serve_takers.nd rfl (Or.inl rfl)) (pgs_cons (pg_name (i:=3) sc_serve_takers.nd rfl (Or.inl rfl)) pgs_nil))))
 (pss_cons (ps_expr (pe_def G_hand_out hr rfl (pa_c (pv 0) (pa_c (pv 2) (pa_c (pv 3) pa_nil)))))
 (pss_one (ps_expr (pe_appG (pv 1) (pe_tupG (pa_c (pv 2) (pa_c pe_str (pa_c (pv 3) pa_nil)))))))))))
 (pss_one (ps_ret (pv 1))))),?_⟩
 walk_at "r2"
 intro r H1 hr1 g1 h1
 refine⟨StZ C a d q0 r t H,?_,?_⟩
 ·refine⟨StI C a d q0 r t H,⟨t.que.length,?_⟩,?_⟩
  ·unfold StI
   obtain⟨dx,qs,k1,k2,k3,k4,k5,k6,k7⟩:=tl
   exact⟨[],[],t,_,_,rfl,λc u _ _ _ hc=>g1 _ _ hc,h1,.nil,⟨dx,qs,g1 _ _ k1,g1 _ _ k2,g1 _ _ k3,k4.mono λ_ _ hc=>g1 _ _ hc,k5,k6,k7⟩,rfl,rfl,by simp only [List.length_nil];omega,rfl⟩
  ·intro m σ H2 z
   unfold StI at z
   obtain⟨sv,dn,t',v2,v3,rfl,f3,h2,sd,tl',e1,e2,b2,rfl⟩:=z
   obtain⟨dx,qs,k1,k2,k3,k4,k5,k6,k7⟩:=id tl'
   clear h1
   walk_at "r2"
   have nrq:r≠q0:=by
    obtain⟨_,_,_,_,kq,_⟩:=tl
    exact λz=>by rw [z,kq] at hr1;cases hr1
   have fin:(srv t'.que t')=([],t')->∀v2 v3,StZ C a d q0 r t H [some (.ref a),some (.ref r),v2,v3] H2:=λe v2 v3=>by
    rw [e] at e1 e2
    unfold StZ
    refine⟨sv,_,_,rfl,f3,h2,?_,?_⟩
    ·rw [<-e1,List.append_nil];exact sd
    ·rw [<-e2];exact tl'
   refine⟨!qs.isEmpty,tru_lst k3,?_⟩
   cases hq:t'.que with
   | nil=>
    rw [hq] at k4
    cases k4
    exact iteF (fin (by rw [hq];rfl) _ _)
   | cons p0 qu=>
    obtain⟨h,n⟩:=p0
    rw [hq] at k4
    cases k4 with
    | cons hp0 pr0=>
    rename_i pa qs'
    refine iteT ?_
    walk_at "r2"
    refine ite2 (λc=>?_) λc=>?_
    rotate_left
    ·walk_at "r2"
     exact fin (by rw [hq];unfold srv;rw [if_neg c]) _ _
    rw [<-hq]
    refine⟨λσ' H'=>∃m',m'<t'.que.length/\StI C a d q0 r t H m' σ' H',λ_ _ z=>z,?_⟩
    walk_at "r2"
    refine⟨⟨_,SqL.of k3⟩,?_⟩
    walk_at "r2"
    refine⟨by omega,_,by have:=pr0.length;rw [hq] at k7;simp only [List.length_cons] at k7⊢;omega,rfl,λH3 m3=>?_⟩
    have npa:pa≠q0:=(tl'.ne pa _ hp0).2.2
    have hp3:=m3.old hp0 npa
    obtain⟨nra,nrd⟩:r≠a/\r≠d:=by
     obtain⟨_,_,ka,kd,_⟩:=tl
     exact⟨λz=>(by rw [z,ka] at hr1;cases hr1),λz=>(by rw [z,kd] at hr1;cases hr1)⟩
    have naq:a≠q0:=λz=>by rw [z,k3] at k1;cases k1
    have ndq:d≠q0:=λz=>by rw [z,k3] at k2;cases k2
    have kt3:∀c xs,H2 c=some (.tup xs)->H3 c=some (.tup xs):=λc xs hc=>m3.old hc (tl'.ne c xs hc).2.2
    have tl3:TlO C H3 a d q0 ⟨t'.free,t'.held,qu⟩:=⟨dx,qs',m3.old k1 naq,m3.old k2 ndq,m3.at_,pr0.mono kt3,k5,⟨k6.1,λp hp=>k6.2 p (by rw [hq];exact List.mem_cons_of_mem _ hp)⟩,by rw [hq,List.length_cons] at k7;show qu.length<=200;omega⟩
    rw [hq,List.length_cons] at b2
    walk_at "r2"
    refine⟨a,d,q0,⟨t'.free,t'.held,qu⟩,h,n,rfl,tl3,k6.2 (h,n) (by rw [hq];exact List.mem_cons_self),λH4 f4 tl4=>?_⟩
    have h4r:=f4 r _ nra nrd nrq (m3.old h2 nrq)
    have ls:=sd.length
    walk_at "r2"
    intro p5 H5 hp5 g5 h5
    have h5r:=g5 _ _ h4r
    walk_at "r2"
    refine⟨by omega,λH6 m6=>⟨qu.length,by first | (rw [hq,List.length_cons];omega) | omega,?_⟩⟩
    have kt6:∀c xs,H2 c=some (.tup xs)->H6 c=some (.tup xs):=λc xs hc=>m6.old (g5 _ _ (tl3.kt f4 c xs (kt3 c xs hc))) λz=>by rw [z,h2] at hc;cases hc
    have np5:p5≠r:=(ne_of_none h4r hp5).symm
    obtain⟨p1,p2,p3⟩:=putI_keys (h:=h) (x:=getI t'.held h+n) t'.held k5
    unfold StI
    refine⟨sv++[.ref p5],dn++[(h,n)],outS ⟨t'.free,t'.held,qu⟩ h n,_,_,rfl,λc u n1 n2 n3 hc=>m6.old (g5 _ _ (f4 c u n1 n2 n3 (m3.old (f3 c u n1 n2 n3 hc) n3))) (ne_of_none hc hr1),m6.at_,(sd.mono kt6).snoc (m6.old h5 np5),tl4.grow λc u hc e=>m6.old (g5 _ _ e) (λz=>?_),?_,?_,?_,rfl⟩
    ·rcases hc with rfl | rfl | rfl | ⟨xs,rfl⟩
     ·exact nra z.symm
     ·exact nrd z.symm
     ·exact nrq z.symm
     ·rw [z,h4r] at e;cases e
    ·rw [<-e1,hq,List.append_assoc]
     congr 1
     rw [srv_cons c]
     rfl
    ·rw [<-e2,hq,srv_cons c]
     rfl
    ·show(dn++[(h,n)]).length+qu.length<=200
     rw [List.length_append,List.length_singleton];omega
 ·intro σ H2 z
  unfold StZ at z
  obtain⟨sv,v2,v3,rfl,f3,h2,sd,tl'⟩:=z
  clear h1
  walk_at "r2"
  try exact q r H2 sv hr1 f3 h2 sd tl'
end
end K21
namespace K21
open PySem L2
theorem take_snoc{α:Type}{xs:List α}{i:Nat}{x:α}(h:xs[i]? =some x):xs.take (i+1)=xs.take i++[x]:=by
 obtain⟨h1,h2⟩:=List.getElem?_eq_some_iff.mp h
 rw [<-List.take_append_getElem h1,h2]
theorem hk_at{held:List (Int×Int)}{i:Nat}{k:Key}{x:V}(h:(hk held)[i]? =some (k,x)):∃a n,k=Sum.inl a/\x= .int n/\held[i]? =some (a,n):=by
 unfold hk at h
 rw [List.getElem?_map] at h
 cases e:held[i]? with
 | none=>rw [e] at h;cases h
 | some p=>rw [e] at h;cases h;exact⟨p.1,p.2,rfl,rfl,rfl⟩
def Told(H0 H:Hp)(ph pq:Addr)(v:V)(t:TS)(hd:List (Int×Int)):Prop:=∃(p:Addr) (hs qs:List V),v= .ref p/\H p=some (.tup [.int t.free,.ref ph,.ref pq])/\H ph=some (.lst hs)/\Prs H hs hd/\H pq=some (.lst qs)/\Prs H qs t.que/\H0 ph=none/\H0 pq=none
def PmO(hd:List (Int×Int))(t:TS):Prop:=hd.Perm (t.held.filter λp=>decide (0<p.2))/\hd.Pairwise (λp r=>p.1<r.1)
theorem Prs.refs{H:Hp}:∀{vs:List V} {ps:List (Int×Int)},Prs H vs ps->∃as:List (Addr×List Int),vs=as.map (λq=>V.ref q.1)/\as.map (·.2)=ps.map (λp=>[p.1,p.2])/\∀q∈as,H q.1=some (.tup (q.2.map V.int))
 | _,_,.nil=>⟨[],rfl,rfl,λq hq=>absurd hq List.not_mem_nil⟩
 | _,_,.cons (p:=p) (h:=h) (n:=n) hp r=>by
  obtain⟨as,e1,e2,f⟩:=r.refs
  refine⟨(p,[h,n])::as,by rw [e1];rfl,by rw [List.map_cons,e2];rfl,λq hq=>?_⟩
  rcases List.mem_cons.mp hq with rfl | hq
  ·exact hp
  ·exact f q hq
def pr2(l:List Int):Int×Int:=(l.getD 0 0,l.getD 1 0)
theorem prs_of{H:Hp}:∀{as:List (Addr×List Int)},(∀q∈as,q.2.length=2/\H q.1=some (.tup (q.2.map V.int)))->Prs H (as.map λq=>V.ref q.1) (as.map λq=>pr2 q.2)
 | [],_=>.nil
 | (p,l)::as,h=>by
  obtain⟨e,hp⟩:=h _ List.mem_cons_self
  match l,e with
  | [a,b],_=>exact .cons hp (prs_of λq hq=>h q (List.mem_cons_of_mem _ hq))
theorem lex2{a b c d:Int}(h:HT.lexLt [a,b] [c,d]=true)(ne:a≠c):a<c:=by
 rw [HT.lexLt_cons,if_neg ne] at h
 exact of_decide_eq_true h
section
variable{P:Program}{w:World}{K:PySem.W.Frag}{mg:Str->Option Value}{base:Heap}
def HtP(held:List (Int×Int))(i:Nat)(ys:List V)(σ1:St)(H':Hp):Prop:=Prs H' ys ((held.take i).filter λp=>decide (0<p.2))/\∃v0 v1,σ1= [v0,v1]
def spTold(C:Addr):Sp:=λvs H Q _=>∃(a d q:Addr) (t:TS),vs= [.ref a]/\TlO C H a d q t/\∀(v:V) (H':Hp) (hd:List (Int×Int)) (ph pq:Addr),Same H H'->Told H H' ph pq v t hd->ph≠pq->PmO hd t->Q v H'
theorem ok_told{C:Addr}(D:DefAt K mg "told_tool" s_told_tool ["tool"])(CL_Tool:Cls K C)(N_Tool_free:NoAttr K C "free")(N_Tool_held:NoAttr K C "held")(N_Tool_queue:NoAttr K C "queue")(hsorted:mg "sorted" =none)(hlist:mg "list" =none):OkD P w K mg base 1 "told_tool" ["tool"] (spTold C):=by
 refine D.ok sc_told_tool (λvs H Q E h=>?_) (λf cdv A outer s H vs Q E hr h=>?_)
 ·obtain⟨_,_,_,_,rfl,_⟩:=h;rfl
 obtain⟨a,d,q0,t,rfl,⟨dx,qs,k1,k2,k3,k4,k5,k6',k7⟩,q⟩:=h
 have k6:=held_len k5 k6'
 have big:100000<=sizeLine:=by unfold sizeLine;decide
 have lh:(hk t.held).length=t.held.length:=by unfold hk;rw [List.length_map]
 refine⟨_,(pss_one (ps_ret (pe_tupG (pa_c (pe_fldG CL_Tool N_Tool_free (pv 0)) (pa_c (pe_cB (call_sortedO rfl) rfl hsorted (by decide +kernel) (pa_c (pe_unf (pe_compN (comp_scopeN 2 (N:=["hand","n"]) (cap:=[]) rfl rfl rfl rfl (by decide +kernel) rfl rfl rfl) rfl (pi_items (pe_fldG CL_Tool N_Tool_held (pv 0))) (λ_ _ _ _=>(pg_tupG 2 rfl (pgs_cons (pg_name (i:=0) (show List.Nodup (α:=Str) ["hand","n"] by decide +kernel) rfl (Or.inl (lookup_relabel_local rfl)) (Or.inr (lookup_relabel_local rfl))) (pgs_cons (pg_name (i:=1) (show List.Nodup (α:=Str) ["hand","n"] by decide +kernel) rfl (Or.inl (lookup_relabel_local rfl)) (Or.inr (lookup_relabel_local rfl))) pgs_nil)))) (λ_ _ _ _=>(pts_one (pt_cmpR op_gt (pv 1) pe_int (nomark _)))) (λ_ _ _ _=>(pe_tupG (pa_c (pv 0) (pa_c (pv 1) pa_nil)))))) pa_nil)) (pa_c (pe_cTy call_listG rfl hlist (by decide +kernel) (pa_c (pe_fldG CL_Tool N_Tool_queue (pv 0)) pa_nil)) pa_nil)))))),?_⟩
 walk_at "rd"
 refine tcomp_in ?_
 simp only [iItems]
 walk_at "rd"
 intro o nf
 refine compJ_items upd_same (by omega) (λ_=>HtP t.held) (λD H' _ _ _=>by unfold HtP;exact⟨.nil,_,_,rfl⟩) ?_ ?_
 ·rintro D i k x ys σ1 H1 p H2 hx at1 pv hp g2 h2
  unfold HtP at pv
  obtain⟨pr,v0,v1,rfl⟩:=pv
  obtain⟨h,n,rfl,rfl,eh⟩:=hk_at hx
  have h2:H2 p=some (.tup [.int h,.int n]):=h2
  walk_at "rd"
  refine ite2 (λc p3 H3 hp3 g3 h3=>at1.put (g2.trans g3) λH4 mu=>?_) λc=>at1.skip g2 ?_
  ·unfold HtP
   refine⟨?_,_,_,rfl⟩
   rw [take_snoc eh,List.filter_append,List.filter_cons,if_pos (by simpa using c),List.filter_nil]
   have nD:p3≠D:=(ne_of_none (g2 _ _ at1.lst) hp3).symm
   exact(pr.mono λc xs hc=>mu.old (g3 _ _ (g2 _ _ hc)) λz=>(by rw [z,at1.lst] at hc;cases hc)).snoc (mu.old h3 nD)
  ·unfold HtP
   refine⟨?_,_,_,rfl⟩
   rw [take_snoc eh,List.filter_append,List.filter_cons,if_neg (by simpa using c),List.filter_nil,List.append_nil]
   exact pr.mono λc xs hc=>g2 _ _ hc
 ·rintro D ys σ1 H1 hD g1 hy hle pv
  unfold HtP at pv
  obtain⟨pr,_⟩:=pv
  rw [List.take_of_length_le (by omega)] at pr
  have nDd:D≠d:=λz=>by rw [z,upd_same] at hD;cases hD
  have SH:Same H (upd H1 d (.dK (hk t.held))):=λc u hc=>by
   by_cases z:c=d
   ·rw [z,upd_same];rw [z,k2] at hc;exact hc
   ·rw [upd_ne z]
    exact g1 _ _ (by rw [upd_ne z];exact hc)
  have d1:H1 d=some (.frz o (.dK (hk t.held))):=g1 _ _ upd_same
  have pr1:Prs (upd H1 d (.dK (hk t.held))) ys (t.held.filter λp=>decide (0<p.2)):=pr.mono λc xs hc=>by
   rw [upd_ne (λz=>by rw [z,d1] at hc;cases hc)];exact hc
  have lf:=pr.length
  have lf2:=List.length_filter_le (λp:Int×Int=>decide (0<p.2)) t.held
  have fnd:((t.held.filter λp=>decide (0<p.2)).map (·.1)).Nodup:=List.Nodup.sublist (List.Sublist.map _ List.filter_sublist) k5
  generalize hF:(t.held.filter λp=>decide (0<p.2))=F at pr1 lf lf2 fnd
  obtain⟨as,e1,e2,f⟩:=pr1.refs
  have la:as.length=F.length:=by have:=congrArg List.length e2;rw [List.length_map,List.length_map] at this;exact this
  have l2:∀q∈as,q.2.length=2:=λq hq=>by
   obtain⟨x,_,hx⟩:=List.mem_map.mp (show q.2∈F.map (λp=>[p.1,p.2]) by rw [<-e2];exact List.mem_map_of_mem hq)
   rw [<-hx];rfl
  have e3:as.map (λq=>pr2 q.2)=F:=by
   have:=congrArg (List.map pr2) e2
   rw [List.map_map,List.map_map] at this
   rw [show(as.map λq=>pr2 q.2)=as.map (pr2∘λx=>x.2) from rfl,this]
   exact List.map_id' F
  have kn:as.Pairwise (λq r=>(pr2 q.2).1≠(pr2 r.2).1):=by
   rw [<-e3,List.map_map] at fnd
   exact List.pairwise_map.mp fnd
  subst e1
  refine⟨d,nf,o,_,d1,D,rfl,as,by rw [upd_ne nDd];exact hy,f,2,by decide,l2,kn.imp λh z=>h (by rw [z]),by unfold SN;omega,λDS H2 zs hDS g2 h2 pz sz=>?_⟩
  have S2:=SH.trans g2
  have a2:=S2 _ _ k1
  have q2:=S2 _ _ k3
  have zl:∀q∈zs,q.2.length=2/\H2 q.1=some (.tup (q.2.map V.int)):=λq hq=>⟨l2 q (pz.mem_iff.mp hq),g2 _ _ (f q (pz.mem_iff.mp hq))⟩
  have pz2:=prs_of zl
  have kz:zs.Pairwise (λq r=>(pr2 q.2).1≠(pr2 r.2).1):=(pz.pairwise_iff λh=>h.symm).mpr kn
  have pm:PmO (zs.map λq=>pr2 q.2) t:=by
   refine⟨by rw [hF,<-e3];exact pz.map _,List.pairwise_map.mpr ?_⟩
   refine List.Pairwise.imp_of_mem (λ{q r} hq hr h=>?_) (sz.and kz)
   obtain⟨a,b⟩:=q
   obtain⟨c,e⟩:=r
   have l1:=(zl _ hq).1
   have l2:=(zl _ hr).1
   match b,e,l1,l2,h with
   | [x,y],[z,w],_,_,h=>exact lex2 h.1 h.2
  clear k1 k3
  walk_at "rd"
  intro l3 H3 hl3 g3 h3 p4 H4 hp4 g4 h4
  exact q (.ref p4) H4 _ DS l3 ((S2.trans g3).trans g4) ⟨p4,_,qs,rfl,h4,g4 _ _ (g3 _ _ h2),pz2.mono λc xs hc=>g4 _ _ (g3 _ _ hc),g4 _ _ h3,k4.mono λc xs hc=>g4 _ _ (g3 _ _ (S2 _ _ hc)),SH.free hDS,S2.free hl3⟩ (ne_of_none h2 hl3) pm
end
end K21
namespace K21
open PySem L2
structure Ent where
 name:Str
 a:Addr
 d:Addr
 q:Addr
 c:Int
 t:TS
def kvE(es:List Ent):List (Key×V):=es.map λe=>(Sum.inr e.name,V.ref e.a)
inductive PrN (H:Hp):List V->List (Str×Int)->Prop
 | nil:PrN H [] []
 | cons {p:Addr} {s:Str} {n:Int} {vs:List V} {ps:List (Str×Int)}:H p=some (.tup [.str s,.int n])->PrN H vs ps->PrN H (.ref p::vs) ((s,n)::ps)
theorem PrN.get{H:Hp}{vs:List V}{ps:List (Str×Int)}(t:PrN H vs ps):∀{i:Nat} {v:V},vs[i]? =some v->∃p s n,v= .ref p/\ps[i]? =some (s,n)/\H p=some (.tup [.str s,.int n]):=by
 induction t with
 | nil=>intro i v e;simp at e
 | cons hp _ ih=>
  intro i v e
  cases i with
  | zero=>simp at e;exact⟨_,_,_,e.symm,rfl,hp⟩
  | succ i=>simpa using ih (i:=i) (v:=v) (by simpa using e)
theorem PrN.length{H:Hp}:∀{vs:List V} {ps:List (Str×Int)},PrN H vs ps->vs.length=ps.length
 | _,_,.nil=>rfl
 | _,_,.cons _ r=>by rw [List.length_cons,List.length_cons,r.length]
inductive PrT (C:Addr) (H:Hp):List V->List Ent->Prop
 | nil:PrT C H [] []
 | cons {p:Addr} {e:Ent} {vs:List V} {es:List Ent}:H p=some (.tup [.str e.name,.ref e.a])->TlO C H e.a e.d e.q e.t->PrT C H vs es->PrT C H (.ref p::vs) (e::es)
theorem TlO.same{C:Addr}{H H':Hp}{a d q:Addr}{t:TS}(g:Same H H')(h:TlO C H a d q t):TlO C H' a d q t:=h.grow λc u _ e=>g _ _ e
theorem PrT.mono{C:Addr}{H H':Hp}(g:Same H H'):∀{vs:List V} {es:List Ent},PrT C H vs es->PrT C H' vs es
 | _,_,.nil=>.nil
 | _,_,.cons h t r=>.cons (g _ _ h) (t.same g) (r.mono g)
theorem PrT.snoc{C:Addr}{H:Hp}{p:Addr}{e:Ent}(hp:H p=some (.tup [.str e.name,.ref e.a]))(ht:TlO C H e.a e.d e.q e.t):∀{vs:List V} {es:List Ent},PrT C H vs es->PrT C H (vs++[.ref p]) (es++[e])
 | _,_,.nil=>.cons hp ht .nil
 | _,_,.cons h t r=>.cons h t (r.snoc hp ht)
theorem PrT.prk{C:Addr}{H:Hp}:∀{vs:List V} {es:List Ent},PrT C H vs es->PrK H vs (kvE es)
 | _,_,.nil=>.nil
 | _,_,.cons h _ r=>.cons h r.prk
theorem PrT.at{C:Addr}{H:Hp}{vs:List V}{es:List Ent}(t:PrT C H vs es):∀e∈es,TlO C H e.a e.d e.q e.t:=by
 induction t with
 | nil=>exact λe h=>absurd h List.not_mem_nil
 | cons _ t _ ih=>
  intro e h
  rcases List.mem_cons.mp h with rfl | h
  ·exact t
  ·exact ih e h
theorem putAll_nd:∀(ps:List (Key×V)) (c:List (Key×V)),((c++ps).map (·.1)).Nodup->ps.foldl (λc p=>putK c p.1 p.2) c=c++ps
 | [],c,_=>(List.append_nil c).symm
 | p::ps,c,nd=>by
  have no:¬(c.any λkv=>decide (kv.1=p.1))=true:=λz=>by
   obtain⟨x,hx,e⟩:=List.any_eq_true.mp z
   rw [List.map_append,List.nodup_append] at nd
   exact nd.2.2 x.1 (List.mem_map_of_mem hx) p.1 (by simp) (of_decide_eq_true e)
  have e:putK c p.1 p.2=c++[p]:=by unfold putK;rw [if_neg no]
  rw [List.foldl_cons,e,putAll_nd ps (c++[p]) (by rw [List.append_assoc];exact nd),List.append_assoc];rfl
theorem nd_map{xs:List Str}(h:xs.Nodup):(xs.map (Sum.inr:Str->Key)).Nodup:=by
 induction xs with
 | nil=>exact .nil
 | cons x r ih=>
  rw [List.nodup_cons] at h
  rw [List.map_cons,List.nodup_cons]
  refine⟨λz=>?_,ih h.2⟩
  obtain⟨y,hy,e⟩:=List.mem_map.mp z
  cases e
  exact h.1 hy
def adE(es:List Ent):List Addr:=es.flatMap λe=>[e.a,e.d,e.q]
theorem adE_mem{c:Addr}{es:List Ent}(h:c∈adE es):∃e∈es,c=e.a\/c=e.d\/c=e.q:=by
 obtain⟨e,he,hc⟩:=List.mem_flatMap.mp h
 simp at hc
 exact⟨e,he,hc⟩
theorem TlO.has{C:Addr}{H:Hp}{a d q:Addr}{t:TS}(h:TlO C H a d q t):(∃u,H a=some u)/\(∃u,H d=some u)/\∃u,H q=some u:=by
 obtain⟨_,_,k1,k2,k3,_⟩:=h
 exact⟨⟨_,k1⟩,⟨_,k2⟩,⟨_,k3⟩⟩
theorem TlO.nd{C:Addr}{H:Hp}{a d q:Addr}{t:TS}(h:TlO C H a d q t):[a,d,q].Nodup:=by
 obtain⟨_,_,k1,k2,k3,_⟩:=h
 have n1:a≠d:=λz=>by rw [z,k2] at k1;cases k1
 have n2:a≠q:=λz=>by rw [z,k3] at k1;cases k1
 have n3:d≠q:=λz=>by rw [z,k3] at k2;cases k2
 simp [n1,n2,n3]
theorem adE_has{C:Addr}{H:Hp}{es:List Ent}(h:∀e∈es,TlO C H e.a e.d e.q e.t):∀c∈adE es,∃u,H c=some u:=λc hc=>by
 obtain⟨e,he,z⟩:=adE_mem hc
 obtain⟨h1,h2,h3⟩:=(h e he).has
 rcases z with rfl | rfl | rfl
 ·exact h1
 ·exact h2
 ·exact h3
section
variable{P:Program}{w:World}{K:PySem.W.Frag}{mg:Str->Option Value}{base:Heap}
def ToP(C:Addr)(H:Hp)(pr:List (Str×Int))(D:Addr)(i:Nat)(ys:List V)(σ1:St)(H':Hp):Prop:=∃(es:List Ent) (v0 v1:Option V),σ1= [v0,v1]/\PrT C (hide D H') ys es/\es.map (λe=>(e.name,e.c,e.t))=(pr.take i).map (λp=>(p.1,p.2,⟨p.2,[],[]⟩))/\(adE es).Nodup/\∀c∈adE es,H c=none
def spToolsOf(C:Addr):Sp:=λvs H Q _=>∃(pp p0:Addr) (x1 x2 x3:V) (ys:List V) (pr:List (Str×Int)),vs= [.ref pp]/\H pp=some (.tup [.ref p0,x1,x2,x3])/\H p0=some (.lst ys)/\PrN H ys pr/\pr.length<=10/\(pr.map (·.1)).Nodup/\
 ∀(d:Addr) (H':Hp) (es:List Ent),H d=none->Same H H'->H' d=some (.dK (kvE es))->(∀e∈es,TlO C H' e.a e.d e.q e.t)->es.map (λe=>(e.name,e.c,e.t))=pr.map (λp=>(p.1,p.2,⟨p.2,[],[]⟩))->(d::adE es).Nodup->(∀c∈adE es,H c=none)->Q (.ref d) H'
theorem ok_toolsOf{C:Addr}(D:DefAt K mg "tools_of" s_tools_of ["program"])(G_Tool:OkC P w K mg base 1 "Tool" C ["self","count"] (spToolI C))(hdict:mg "dict" =none):OkD P w K mg base 3 "tools_of" ["program"] (spToolsOf C):=by
 refine D.ok sc_tools_of (λvs H Q E h=>?_) (λf cdv A outer s H vs Q E hr h=>?_)
 ·obtain⟨_,_,_,_,_,_,_,rfl,_⟩:=h;rfl
 obtain⟨pp,p0,x1,x2,x3,ys,pr,rfl,h1,h2,h3,h4,hnd,q⟩:=h
 have big:100000<=sizeLine:=by unfold sizeLine;decide
 have ly:=h3.length
 refine⟨_,(pss_one (ps_ret (pe_cTy call_dictP rfl hdict (by decide +kernel) (pa_c (pe_compN (comp_scopeN 2 (N:=["name","count"]) (cap:=[]) rfl rfl rfl rfl (by decide +kernel) rfl rfl rfl) rfl (pi_list (pe_ix ix_g (pv 0) pe_int (λ_ _=>rfl))) (λ_ _ _ _=>(pg_tupG 2 rfl (pgs_cons (pg_name (i:=0) (show List.Nodup (α:=Str) ["name","count"] by decide +kernel) rfl (Or.inl (lookup_relabel_local rfl)) (Or.inr (lookup_relabel_local rfl))) (pgs_cons (pg_name (i:=1) (show List.Nodup (α:=Str) ["name","count"] by decide +kernel) rfl (Or.inl (lookup_relabel_local rfl)) (Or.inr (lookup_relabel_local rfl))) pgs_nil)))) (λ_ _ _ _=>pts_nil) (λ_ _ _ _=>(pe_tupG (pa_c (pv 0) (pa_c (pe_makeG G_Tool hr rfl (pa_c (pv 1) pa_nil)) pa_nil))))) pa_nil)))),?_⟩
 walk_at "rd"
 refine tcomp_in ?_
 simp only [iList]
 walk_at "rd"
 refine⟨⟨_,SqL.of h2⟩,compJD_list h2 (by omega) (ToP C H pr) (λD H' _ _ _=>by unfold ToP;exact⟨[],_,_,rfl,.nil,rfl,.nil,λe he=>absurd he List.not_mem_nil⟩) ?_ ?_⟩
 ·rintro D i x zs σ1 H1 hx at1 pv
  unfold ToP at pv
  obtain⟨es,v0,v1,rfl,pt,em,na,fr⟩:=pv
  obtain⟨p,nm,n,rfl,en,hp⟩:=h3.get hx
  have hp1:=at1.same _ _ hp
  walk_at "rd"
  intro x dx H2 hx0 hdx g2 hx2 hdx2
  refine⟨x,dx,n,rfl,hx2,λd0 q0 H3 hd0 hq0 k3 tl3=>⟨rfl,λp4 H4 hp4 g4 h4=>?_⟩⟩
  have nxD:∀{c u},H1 c=some u->c≠x:=λhc=>ne_of_none hc hx0
  have S13:Same H1 H3:=λc u hc=>k3 c u (nxD hc) (g2 _ _ hc)
  have hD1:=at1.lst
  refine at1.put (S13.trans g4) λH5 mu=>?_
  unfold ToP
  have SD:Same (hide D H1) (hide D H5):=(hide_same (S13.trans g4)).trans (hide_mu mu)
  have nD:∀{c},H1 c=none->c≠D:=λhc=>(ne_of_none hD1 hc).symm
  have hd1:H1 d0=none:=g2.free hd0
  have hq1:H1 q0=none:=g2.free hq0
  have hp1':H1 p4=none:=S13.free hp4
  refine⟨es++[⟨nm,x,d0,q0,n,⟨n,[],[]⟩⟩],_,_,rfl,(pt.mono SD).snoc (hide_of (nD hp1') (mu.old h4 (nD hp1'))) (tl3.grow λc u hc e=>?_),by rw [List.map_append,em,take_snoc en,List.map_append];rfl,?_,λc hc=>?_⟩
  ·have nc:c≠D:=by
    rcases hc with rfl | rfl | rfl | ⟨xs,rfl⟩
    ·exact nD hx0
    ·exact nD hd1
    ·exact nD hq1
    ·exact λz=>by rw [z,S13 _ _ hD1] at e;cases e
   exact hide_of nc (mu.old (g4 _ _ e) nc)
  ·have ea:adE (es++[⟨nm,x,d0,q0,n,⟨n,[],[]⟩⟩])=adE es++[x,d0,q0]:=by unfold adE;rw [List.flatMap_append];rfl
   rw [ea,List.nodup_append]
   refine⟨na,tl3.nd,λc hc y hy z=>?_⟩
   obtain⟨u,hu⟩:=adE_has (pt.mono hide_le).at c hc
   rw [z] at hu
   simp at hy
   rcases hy with rfl | rfl | rfl
   ·rw [hx0] at hu;cases hu
   ·rw [hd1] at hu;cases hu
   ·rw [hq1] at hu;cases hu
  ·have ea:adE (es++[⟨nm,x,d0,q0,n,⟨n,[],[]⟩⟩])=adE es++[x,d0,q0]:=by unfold adE;rw [List.flatMap_append];rfl
   rw [ea] at hc
   rcases List.mem_append.mp hc with hc | hc
   ·exact fr c hc
   ·simp at hc
    rcases hc with rfl | rfl | rfl
    ·exact at1.same.free hx0
    ·exact at1.same.free hd1
    ·exact at1.same.free hq1
 ·rintro D zs σ1 H1 hD g1 hy hle pv
  unfold ToP at pv
  obtain⟨es,v0,v1,rfl,pt,em,na,fr⟩:=pv
  rw [List.take_of_length_le (by omega)] at em
  have le:es.length=pr.length:=by have:=congrArg List.length em;rw [List.length_map,List.length_map] at this;exact this
  walk_at "rd"
  refine⟨kvE es,(pt.mono hide_le).prk,by unfold kvE;rw [List.length_map];omega,λl H2 hl g2 h2'=>?_⟩
  have nn:((kvE es).map (·.1)).Nodup:=by
   have e1:(kvE es).map (·.1)=(pr.map (·.1)).map Sum.inr:=by
    have:=congrArg (List.map (λx:Str×Int×TS=>(Sum.inr x.1:Key))) em
    rw [List.map_map,List.map_map] at this
    unfold kvE
    rw [List.map_map,List.map_map]
    exact this
   rw [e1]
   exact nd_map hnd
  have ep:putAll (kvE es)=kvE es:=putAll_nd _ [] nn
  rw [ep] at h2'
  have nl:l∉adE es:=λz=>by
   obtain⟨u,hu⟩:=adE_has (pt.mono hide_le).at l z
   rw [hl] at hu;cases hu
  exact q l H2 es (g1.free hl) (g1.trans g2) h2' (λe he=>((pt.mono hide_le).mono g2).at e he) em (List.nodup_cons.mpr ⟨nl,na⟩) fr
end
end K21
namespace K21
open PySem L2
structure SS where
 level:Int
 most:Int
 gets:List (Int×Int)
 puts:List (Int×Int)
def stpP(s:SS):Option ((Int×Bool×Int)×SS):=match s.puts with
 | []=>none
 | (h,n)::p=>if s.level+n<=s.most then some ((h,false,n),⟨s.level+n,s.most,s.gets,p⟩) else none
def stp(s:SS):Option ((Int×Bool×Int)×SS):=match s.gets with
 | []=>stpP s
 | (h,n)::g=>if n<=s.level then some ((h,true,n),⟨s.level-n,s.most,g,s.puts⟩) else stpP s
inductive Sbt:SS->List (Int×Bool×Int)->SS->Prop
 | done {s:SS}:stp s=none->Sbt s [] s
 | step {s s1 s':SS} {it:Int×Bool×Int} {its:List (Int×Bool×Int)}:stp s=some (it,s1)->Sbt s1 its s'->Sbt s (it::its) s'
def wordOf(b:Bool):Str:=if b=true then "gets" else "puts"
inductive Sv3 (H:Hp):List V->List (Int×Bool×Int)->Prop
 | nil:Sv3 H [] []
 | cons {p:Addr} {h n:Int} {b:Bool} {vs:List V} {ps:List (Int×Bool×Int)}:H p=some (.tup [.int h,.str (wordOf b),.int n])->Sv3 H vs ps->Sv3 H (.ref p::vs) ((h,b,n)::ps)
theorem Sv3.mono{H H':Hp}(g:∀c xs,H c=some (.tup xs)->H' c=some (.tup xs)):∀{vs:List V} {ps:List (Int×Bool×Int)},Sv3 H vs ps->Sv3 H' vs ps
 | _,_,.nil=>.nil
 | _,_,.cons h r=>.cons (g _ _ h) (r.mono g)
theorem Sv3.length{H:Hp}:∀{vs:List V} {ps:List (Int×Bool×Int)},Sv3 H vs ps->vs.length=ps.length
 | _,_,.nil=>rfl
 | _,_,.cons _ r=>by rw [List.length_cons,List.length_cons,r.length]
theorem Sv3.snoc{H:Hp}{p:Addr}{h n:Int}{b:Bool}(hp:H p=some (.tup [.int h,.str (wordOf b),.int n])):∀{vs:List V} {ps:List (Int×Bool×Int)},Sv3 H vs ps->Sv3 H (vs++[.ref p]) (ps++[(h,b,n)])
 | _,_,.nil=>.cons hp .nil
 | _,_,.cons h r=>.cons h (r.snoc hp)
def StO(C:Addr)(H:Hp)(a g p:Addr)(s:SS):Prop:=∃dx gs ps,H a=some (.ins C dx [("level",.int s.level),("most",.int s.most),("getters",.ref g),("putters",.ref p)])/\H g=some (.lst gs)/\Prs H gs s.gets/\H p=some (.lst ps)/\Prs H ps s.puts/\g≠p/\s.gets.length<=200/\s.puts.length<=200
theorem StO.grow{C:Addr}{H H':Hp}{a g p:Addr}{s:SS}(h:StO C H a g p s)(k:∀c u,(c=a\/c=g\/c=p\/∃xs,u=HO.tup xs)->H c=some u->H' c=some u):StO C H' a g p s:=by
 obtain⟨dx,gs,ps,k1,k2,k3,k4,k5,k6⟩:=h
 exact⟨dx,gs,ps,k _ _ (.inl rfl) k1,k _ _ (.inr (.inl rfl)) k2,k3.mono λc xs hc=>k _ _ (.inr (.inr (.inr ⟨xs,rfl⟩))) hc,k _ _ (.inr (.inr (.inl rfl))) k4,k5.mono λc xs hc=>k _ _ (.inr (.inr (.inr ⟨xs,rfl⟩))) hc,k6⟩
theorem StO.same{C:Addr}{H H':Hp}{a g p:Addr}{s:SS}(k:Same H H')(h:StO C H a g p s):StO C H' a g p s:=h.grow λ_ _ _ e=>k _ _ e
theorem StO.ne{C:Addr}{H:Hp}{a g p:Addr}{s:SS}(h:StO C H a g p s):∀c xs,H c=some (.tup xs)->c≠a/\c≠g/\c≠p:=by
 obtain⟨dx,gs,ps,k1,k2,k3,k4,_⟩:=h
 intro c xs hc
 refine⟨λz=>?_,λz=>?_,λz=>?_⟩
 ·rw [z,k1] at hc;cases hc
 ·rw [z,k2] at hc;cases hc
 ·rw [z,k4] at hc;cases hc
section
variable{P:Program}{w:World}{K:PySem.W.Frag}{mg:Str->Option Value}{base:Heap}
def spStoreI(C:Addr):Sp:=λvs H Q _=>∃(a dx:Addr) (l m:Int),vs= [.ref a,.int l,.int m]/\H a=some (.ins C dx [])/\∀(g p:Addr) (H':Hp),H g=none->H p=none->(∀c u,c≠a->H c=some u->H' c=some u)->StO C H' a g p ⟨l,m,[],[]⟩->Q .non H'
theorem ok_Store{C:Addr}(D:MakeAt K mg "Store" C "Store.__init__" s_Store___init__ ["self","level","most"])(CL_Store:Cls K C)(N_Store_level:NoAttr K C "level")(N_Store_most:NoAttr K C "most")(N_Store_getters:NoAttr K C "getters")(N_Store_putters:NoAttr K C "putters"):OkC P w K mg base 1 "Store" C ["self","level","most"] (spStoreI C):=by
 refine D.ok sc_Store___init__ (λvs H Q E h=>?_) (λf cdv A outer s H vs Q E hr h=>?_)
 ·obtain⟨_,_,_,_,rfl,_⟩:=h;rfl
 obtain⟨a,dx,l,m,rfl,ha,q⟩:=h
 refine⟨_,(pss_cons (ps_fldG CL_Store N_Store_level (pv 0) (pv 1))
 (pss_cons (ps_fldG CL_Store N_Store_most (pv 0) (pv 2))
 (pss_cons (ps_fldG CL_Store N_Store_getters (pv 0) (pe_lstG pa_nil))
 (pss_one (ps_fldG CL_Store N_Store_putters (pv 0) (pe_lstG pa_nil)))))),?_⟩
 walk_at "rd"
 intro H1 m1
 have a1:=m1.at_
 walk_at "rd"
 intro H2 m2 g0 H3 hg g3 h3
 have a3:=g3 _ _ m2.at_
 clear a1
 walk_at "rd"
 intro H4 m4 p0 H5 hp g5 h5
 have a5:=g5 _ _ m4.at_
 clear a3
 walk_at "rd"
 intro H6 m6
 have ng:g0≠a:=(ne_of_none m2.at_ hg).symm
 have np:p0≠a:=(ne_of_none m4.at_ hp).symm
 have hg4:=m4.old h3 ng
 have hg0:H g0=none:=by rw [<-m1.else_ g0 ng,<-m2.else_ g0 ng];exact hg
 have hp3:H3 p0=none:=by rw [<-m4.else_ p0 np];exact hp
 have hp0:H p0=none:=by rw [<-m1.else_ p0 np,<-m2.else_ p0 np];exact g3.free hp3
 refine q g0 p0 H6 hg0 hp0 (λc u nc hc=>m6.old (g5 _ _ (m4.old (g3 _ _ (m2.old (m1.old hc nc) nc)) nc)) nc) ⟨dx,[],[],m6.at_,m6.old (g5 _ _ hg4) ng,.nil,m6.old h5 np,.nil,ne_of_none hg4 hp,by simp,by simp⟩
def ToldS(H0 H:Hp)(pg pp:Addr)(v:V)(s:SS):Prop:=∃(r:Addr) (gs ps:List V),v= .ref r/\H r=some (.tup [.int s.level,.ref pg,.ref pp])/\H pg=some (.lst gs)/\Prs H gs s.gets/\H pp=some (.lst ps)/\Prs H ps s.puts/\H0 pg=none/\H0 pp=none
def spToldS(C:Addr):Sp:=λvs H Q _=>∃(a g p:Addr) (s:SS),vs= [.ref a]/\StO C H a g p s/\∀(v:V) (H':Hp) (pg pp:Addr),Same H H'->ToldS H H' pg pp v s->pg≠pp->Q v H'
theorem ok_toldS{C:Addr}(D:DefAt K mg "told_store" s_told_store ["store"])(CL_Store:Cls K C)(N_Store_level:NoAttr K C "level")(N_Store_getters:NoAttr K C "getters")(N_Store_putters:NoAttr K C "putters")(hlist:mg "list" =none):OkD P w K mg base 1 "told_store" ["store"] (spToldS C):=by
 refine D.ok sc_told_store (λvs H Q E h=>?_) (λf cdv A outer s H vs Q E hr h=>?_)
 ·obtain⟨_,_,_,_,rfl,_⟩:=h;rfl
 obtain⟨a,g,p,ss,rfl,⟨dx,gs,ps,k1,k2,k3,k4,k5,k6,k7,k8⟩,q⟩:=h
 refine⟨_,(pss_one (ps_ret (pe_tupG (pa_c (pe_fldG CL_Store N_Store_level (pv 0)) (pa_c (pe_cTy call_listG rfl hlist (by decide +kernel) (pa_c (pe_fldG CL_Store N_Store_getters (pv 0)) pa_nil)) (pa_c (pe_cTy call_listG rfl hlist (by decide +kernel) (pa_c (pe_fldG CL_Store N_Store_putters (pv 0)) pa_nil)) pa_nil)))))),?_⟩
 walk_at "rd"
 intro l1 H1 hl1 g1 h1
 have a1:=g1 _ _ k1
 have p1:=g1 _ _ k4
 clear k1 k4
 walk_at "rd"
 intro l2 H2 hl2 g2 h2 r3 H3 hr3 g3 h3
 exact q (.ref r3) H3 l1 l2 ((g1.trans g2).trans g3) ⟨r3,gs,ps,rfl,h3,g3 _ _ (g2 _ _ h1),k3.mono λc xs hc=>g3 _ _ (g2 _ _ (g1 _ _ hc)),g3 _ _ h2,k5.mono λc xs hc=>g3 _ _ (g2 _ _ (g1 _ _ hc)),hl1,g1.free hl2⟩ (ne_of_none h1 hl2)
end
end K21
namespace K21
open PySem L2
structure EntS where
 name:Str
 a:Addr
 g:Addr
 p:Addr
 s:SS
def kvS(es:List EntS):List (Key×V):=es.map λe=>(Sum.inr e.name,V.ref e.a)
inductive PrM (H:Hp):List V->List (Str×Int×Int)->Prop
 | nil:PrM H [] []
 | cons {p:Addr} {s:Str} {n m:Int} {vs:List V} {ps:List (Str×Int×Int)}:H p=some (.tup [.str s,.int n,.int m])->PrM H vs ps->PrM H (.ref p::vs) ((s,n,m)::ps)
theorem PrM.get{H:Hp}{vs:List V}{ps:List (Str×Int×Int)}(t:PrM H vs ps):∀{i:Nat} {v:V},vs[i]? =some v->∃p s n m,v= .ref p/\ps[i]? =some (s,n,m)/\H p=some (.tup [.str s,.int n,.int m]):=by
 induction t with
 | nil=>intro i v e;simp at e
 | cons hp _ ih=>
  intro i v e
  cases i with
  | zero=>simp at e;exact⟨_,_,_,_,e.symm,rfl,hp⟩
  | succ i=>simpa using ih (i:=i) (v:=v) (by simpa using e)
theorem PrM.length{H:Hp}:∀{vs:List V} {ps:List (Str×Int×Int)},PrM H vs ps->vs.length=ps.length
 | _,_,.nil=>rfl
 | _,_,.cons _ r=>by rw [List.length_cons,List.length_cons,r.length]
inductive PrS (C:Addr) (H:Hp):List V->List EntS->Prop
 | nil:PrS C H [] []
 | cons {p:Addr} {e:EntS} {vs:List V} {es:List EntS}:H p=some (.tup [.str e.name,.ref e.a])->StO C H e.a e.g e.p e.s->PrS C H vs es->PrS C H (.ref p::vs) (e::es)
theorem PrS.mono{C:Addr}{H H':Hp}(g:Same H H'):∀{vs:List V} {es:List EntS},PrS C H vs es->PrS C H' vs es
 | _,_,.nil=>.nil
 | _,_,.cons h t r=>.cons (g _ _ h) (t.same g) (r.mono g)
theorem PrS.snoc{C:Addr}{H:Hp}{p:Addr}{e:EntS}(hp:H p=some (.tup [.str e.name,.ref e.a]))(ht:StO C H e.a e.g e.p e.s):∀{vs:List V} {es:List EntS},PrS C H vs es->PrS C H (vs++[.ref p]) (es++[e])
 | _,_,.nil=>.cons hp ht .nil
 | _,_,.cons h t r=>.cons h t (r.snoc hp ht)
theorem PrS.prk{C:Addr}{H:Hp}:∀{vs:List V} {es:List EntS},PrS C H vs es->PrK H vs (kvS es)
 | _,_,.nil=>.nil
 | _,_,.cons h _ r=>.cons h r.prk
theorem PrS.at{C:Addr}{H:Hp}{vs:List V}{es:List EntS}(t:PrS C H vs es):∀e∈es,StO C H e.a e.g e.p e.s:=by
 induction t with
 | nil=>exact λe h=>absurd h List.not_mem_nil
 | cons _ t _ ih=>
  intro e h
  rcases List.mem_cons.mp h with rfl | h
  ·exact t
  ·exact ih e h
def adS(es:List EntS):List Addr:=es.flatMap λe=>[e.a,e.g,e.p]
theorem adS_mem{c:Addr}{es:List EntS}(h:c∈adS es):∃e∈es,c=e.a\/c=e.g\/c=e.p:=by
 obtain⟨e,he,hc⟩:=List.mem_flatMap.mp h
 simp at hc
 exact⟨e,he,hc⟩
theorem StO.has{C:Addr}{H:Hp}{a d q:Addr}{t:SS}(h:StO C H a d q t):(∃u,H a=some u)/\(∃u,H d=some u)/\∃u,H q=some u:=by
 obtain⟨_,_,_,k1,k2,_,k3,_⟩:=h
 exact⟨⟨_,k1⟩,⟨_,k2⟩,⟨_,k3⟩⟩
theorem StO.nd{C:Addr}{H:Hp}{a d q:Addr}{t:SS}(h:StO C H a d q t):[a,d,q].Nodup:=by
 obtain⟨_,_,_,k1,k2,_,k3,_,n3,_⟩:=h
 have n1:a≠d:=λz=>by rw [z,k2] at k1;cases k1
 have n2:a≠q:=λz=>by rw [z,k3] at k1;cases k1
 simp [n1,n2,n3]
theorem adS_has{C:Addr}{H:Hp}{es:List EntS}(h:∀e∈es,StO C H e.a e.g e.p e.s):∀c∈adS es,∃u,H c=some u:=λc hc=>by
 obtain⟨e,he,z⟩:=adS_mem hc
 obtain⟨h1,h2,h3⟩:=(h e he).has
 rcases z with rfl | rfl | rfl
 ·exact h1
 ·exact h2
 ·exact h3
section
variable{P:Program}{w:World}{K:PySem.W.Frag}{mg:Str->Option Value}{base:Heap}
def SoP(C:Addr)(H:Hp)(pr:List (Str×Int×Int))(D:Addr)(i:Nat)(ys:List V)(σ1:St)(H':Hp):Prop:=∃(es:List EntS) (v0 v1 v2:Option V),σ1= [v0,v1,v2]/\PrS C (hide D H') ys es/\es.map (λe=>(e.name,e.s))=(pr.take i).map (λp=>(p.1,⟨p.2.1,p.2.2,[],[]⟩))/\(adS es).Nodup/\∀c∈adS es,H c=none
def spStoresOf(C:Addr):Sp:=λvs H Q _=>∃(pp p1:Addr) (x0 x2 x3:V) (ys:List V) (pr:List (Str×Int×Int)),vs= [.ref pp]/\H pp=some (.tup [x0,.ref p1,x2,x3])/\H p1=some (.lst ys)/\PrM H ys pr/\pr.length<=10/\(pr.map (·.1)).Nodup/\
 ∀(d:Addr) (H':Hp) (es:List EntS),H d=none->Same H H'->H' d=some (.dK (kvS es))->(∀e∈es,StO C H' e.a e.g e.p e.s)->es.map (λe=>(e.name,e.s))=pr.map (λp=>(p.1,⟨p.2.1,p.2.2,[],[]⟩))->(d::adS es).Nodup->(∀c∈adS es,H c=none)->Q (.ref d) H'
theorem ok_storesOf{C:Addr}(D:DefAt K mg "stores_of" s_stores_of ["program"])(G_Store:OkC P w K mg base 1 "Store" C ["self","level","most"] (spStoreI C))(hdict:mg "dict" =none):OkD P w K mg base 3 "stores_of" ["program"] (spStoresOf C):=by
 refine D.ok sc_stores_of (λvs H Q E h=>?_) (λf cdv A outer s H vs Q E hr h=>?_)
 ·obtain⟨_,_,_,_,_,_,_,rfl,_⟩:=h;rfl
 obtain⟨pp,p1,x0,x2,x3,ys,pr,rfl,h1,h2,h3,h4,hnd,q⟩:=h
 have big:100000<=sizeLine:=by unfold sizeLine;decide
 have ly:=h3.length
 refine⟨_,(pss_one (ps_ret (pe_cTy call_dictP rfl hdict (by decide +kernel) (pa_c (pe_compN (comp_scopeN 3 (N:=["name","level","most"]) (cap:=[]) rfl rfl rfl rfl (by decide +kernel) rfl rfl rfl) rfl (pi_list (pe_ix ix_g (pv 0) pe_int (λ_ _=>rfl))) (λ_ _ _ _=>(pg_tupG 3 rfl (pgs_cons (pg_name (i:=0) (show List.Nodup (α:=Str) ["name","level","most"] by decide +kernel) rfl (Or.inl (lookup_relabel_local rfl)) (Or.inr (lookup_relabel_local rfl))) (pgs_cons (pg_name (i:=1) (show List.Nodup (α:=Str) ["name","level","most"] by decide +kernel) rfl (Or.inl (lookup_relabel_local rfl)) (Or.inr (lookup_relabel_local rfl))) (pgs_cons (pg_name (i:=2) (show List.Nodup (α:=Str) ["name","level","most"] by decide +kernel) rfl (Or.inl (lookup_relabel_local rfl)) (Or.inr (lookup_relabel_local rfl))) pgs_nil))))) (λ_ _ _ _=>pts_nil) (λ_ _ _ _=>(pe_tupG (pa_c (pv 0) (pa_c (pe_makeG G_Store hr rfl (pa_c (pv 1) (pa_c (pv 2) pa_nil))) pa_nil))))) pa_nil)))),?_⟩
 walk_at "r2"
 refine tcomp_in ?_
 simp only [iList]
 walk_at "r2"
 refine⟨⟨_,SqL.of h2⟩,compJD_list h2 (by omega) (SoP C H pr) (λD H' _ _ _=>by unfold SoP;exact⟨[],_,_,_,rfl,.nil,rfl,.nil,λe he=>absurd he List.not_mem_nil⟩) ?_ ?_⟩
 ·rintro D i x zs σ1 H1 hx at1 pv
  unfold SoP at pv
  obtain⟨es,v0,v1,v2,rfl,pt,em,na,fr⟩:=pv
  obtain⟨p,nm,n,m,rfl,en,hp⟩:=h3.get hx
  have hp1:=at1.same _ _ hp
  walk_at "r2"
  intro x dx H2 hx0 hdx g2 hx2 hdx2
  refine⟨x,dx,n,m,rfl,hx2,λd0 q0 H3 hd0 hq0 k3 tl3=>?_⟩
  walk_at "r2"
  intro p4 H4 hp4 g4 h4
  have nxD:∀{c u},H1 c=some u->c≠x:=λhc=>ne_of_none hc hx0
  have S13:Same H1 H3:=λc u hc=>k3 c u (nxD hc) (g2 _ _ hc)
  have hD1:=at1.lst
  refine at1.put (S13.trans g4) λH5 mu=>?_
  unfold SoP
  have SD:Same (hide D H1) (hide D H5):=(hide_same (S13.trans g4)).trans (hide_mu mu)
  have nD:∀{c},H1 c=none->c≠D:=λhc=>(ne_of_none hD1 hc).symm
  have hd1:H1 d0=none:=g2.free hd0
  have hq1:H1 q0=none:=g2.free hq0
  have hp1':H1 p4=none:=S13.free hp4
  refine⟨es++[⟨nm,x,d0,q0,⟨n,m,[],[]⟩⟩],_,_,_,rfl,(pt.mono SD).snoc (hide_of (nD hp1') (mu.old h4 (nD hp1'))) (tl3.grow λc u hc e=>?_),by rw [List.map_append,em,take_snoc en,List.map_append];rfl,?_,λc hc=>?_⟩
  ·have nc:c≠D:=by
    rcases hc with rfl | rfl | rfl | ⟨xs,rfl⟩
    ·exact nD hx0
    ·exact nD hd1
    ·exact nD hq1
    ·exact λz=>by rw [z,S13 _ _ hD1] at e;cases e
   exact hide_of nc (mu.old (g4 _ _ e) nc)
  ·have ea:adS (es++[⟨nm,x,d0,q0,⟨n,m,[],[]⟩⟩])=adS es++[x,d0,q0]:=by unfold adS;rw [List.flatMap_append];rfl
   rw [ea,List.nodup_append]
   refine⟨na,tl3.nd,λc hc y hy z=>?_⟩
   obtain⟨u,hu⟩:=adS_has (pt.mono hide_le).at c hc
   rw [z] at hu
   simp at hy
   rcases hy with rfl | rfl | rfl
   ·rw [hx0] at hu;cases hu
   ·rw [hd1] at hu;cases hu
   ·rw [hq1] at hu;cases hu
  ·have ea:adS (es++[⟨nm,x,d0,q0,⟨n,m,[],[]⟩⟩])=adS es++[x,d0,q0]:=by unfold adS;rw [List.flatMap_append];rfl
   rw [ea] at hc
   rcases List.mem_append.mp hc with hc | hc
   ·exact fr c hc
   ·simp at hc
    rcases hc with rfl | rfl | rfl
    ·exact at1.same.free hx0
    ·exact at1.same.free hd1
    ·exact at1.same.free hq1
 ·rintro D zs σ1 H1 hD g1 hy hle pv
  unfold SoP at pv
  obtain⟨es,v0,v1,v2,rfl,pt,em,na,fr⟩:=pv
  rw [List.take_of_length_le (by omega)] at em
  have le:es.length=pr.length:=by have:=congrArg List.length em;rw [List.length_map,List.length_map] at this;exact this
  walk_at "r2"
  refine⟨kvS es,(pt.mono hide_le).prk,by unfold kvS;rw [List.length_map];omega,λl H2 hl g2 h2'=>?_⟩
  have nn:((kvS es).map (·.1)).Nodup:=by
   have e1:(kvS es).map (·.1)=(pr.map (·.1)).map Sum.inr:=by
    have:=congrArg (List.map (λx:Str×SS=>(Sum.inr x.1:Key))) em
    rw [List.map_map,List.map_map] at this
    unfold kvS
    rw [List.map_map,List.map_map]
    exact this
   rw [e1]
   exact nd_map hnd
  have ep:putAll (kvS es)=kvS es:=putAll_nd _ [] nn
  rw [ep] at h2'
  have nl:l∉adS es:=λz=>by
   obtain⟨u,hu⟩:=adS_has (pt.mono hide_le).at l z
   rw [hl] at hu;cases hu
  exact q l H2 es (g1.free hl) (g1.trans g2) h2' (λe he=>((pt.mono hide_le).mono g2).at e he) em (List.nodup_cons.mpr ⟨nl,na⟩) fr
def TbI(C a g p r:Addr)(s:SS)(H:Hp)(m:Nat)(σ:St)(H':Hp):Prop:=∃(sv:List V) (dn:List (Int×Bool×Int)) (s':SS) (v2 v3:Option V),σ= [some (.ref a),some (.ref r),v2,v3]/\Fr3 a g p H H'/\H' r=some (.lst sv)/\Sv3 H' sv dn/\StO C H' a g p s'/\(∀its z,Sbt s' its z->Sbt s (dn++its) z)/\dn.length+s'.gets.length+s'.puts.length<=400/\m=s'.gets.length+s'.puts.length
def spTurns(C:Addr):Sp:=λvs H Q _=>∃(a g p:Addr) (s:SS),vs= [.ref a]/\StO C H a g p s/\
 ∀(r:Addr) (H':Hp) (sv:List V) (its:List (Int×Bool×Int)) (s':SS),H r=none->Fr3 a g p H H'->H' r=some (.lst sv)->Sv3 H' sv its->StO C H' a g p s'->Sbt s its s'->Q (.ref r) H'
theorem ok_turns{C:Addr}(D:DefAt K mg "serve_by_turns" s_serve_by_turns ["store"])(CL_Store:Cls K C)(N_Store_level:NoAttr K C "level")(N_Store_most:NoAttr K C "most")(N_Store_getters:NoAttr K C "getters")(N_Store_putters:NoAttr K C "putters"):OkD P w K mg base 1 "serve_by_turns" ["store"] (spTurns C):=by
 refine D.ok sc_serve_by_turns (λvs H Q E h=>?_) (λf cdv A outer s H vs Q E hr h=>?_)
 ·obtain⟨_,_,_,_,rfl,_⟩:=h;rfl
 obtain⟨a,g,p,ss,rfl,tl,q⟩:=h
 have big:100000<=sizeLine:=by unfold sizeLine;decide
 refine⟨_,(pss_cons (ps_set (i:=1) sc_serve_by_turns.nd rfl (Or.inl rfl) (pe_lstG pa_nil))
 (pss_one (ps_while PassesOwn.never (pt_val pe_bl)
 (pss_one (ps_if (PW.pt (pw_and (pt_truth (pe_fldG CL_Store N_Store_getters (pv 0)) (λ_=>rfl)) (pw_and1 (pt_cmpR op_le (pe_ix ix_g (pe_ix ix_g (pe_fldG CL_Store N_Store_getters (pv 0)) pe_int (λ_ _=>rfl)) pe_int (λ_ _=>rfl)) (pe_fldG CL_Store N_Store_level (pv 0)) (nomark _)))))
 (pss_cons (ps_asg (pe_bm PySem.F.plainAttrs_list PySem.F.slot_list_pop PySem.F.type_list_pop mt_popAtG (pe_fldG CL_Store N_Store_getters (pv 0)) (pa_c pe_int pa_nil)) (pg_tupG 2 rfl (pgs_cons (pg_name (i:=2) sc_serve_by_turns.nd rfl (Or.inl rfl)) (pgs_cons (pg_name (i:=3) sc_serve_by_turns.nd rfl (Or.inl rfl)) pgs_nil))))
 (pss_cons (ps_fldG CL_Store N_Store_level (pv 0) (pe_op op_sub (pe_fldG CL_Store N_Store_level (pv 0)) (pv 3)))
 (pss_one (ps_expr (pe_appG (pv 1) (pe_tupG (pa_c (pv 2) (pa_c pe_str (pa_c (pv 3) pa_nil)))))))))
 (pss_one (ps_if (PW.pt (pw_and (pt_truth (pe_fldG CL_Store N_Store_putters (pv 0)) (λ_=>rfl)) (pw_and1 (pt_cmpR op_le (pe_op op_add (pe_fldG CL_Store N_Store_level (pv 0)) (pe_ix ix_g (pe_ix ix_g (pe_fldG CL_Store N_Store_putters (pv 0)) pe_int (λ_ _=>rfl)) pe_int (λ_ _=>rfl))) (pe_fldG CL_Store N_Store_most (pv 0)) (nomark _)))))
 (pss_cons (ps_asg (pe_bm PySem.F.plainAttrs_list PySem.F.slot_list_pop PySem.F.type_list_pop mt_popAtG (pe_fldG CL_Store N_Store_putters (pv 0)) (pa_c pe_int pa_nil)) (pg_tupG 2 rfl (pgs_cons (pg_name (i:=2) sc_serve_by_turns.nd rfl (Or.inl rfl)) (pgs_cons (pg_name (i:=3) sc_serve_by_turns.nd rfl (Or.inl rfl)) pgs_nil))))
 (pss_cons (ps_fldG CL_Store N_Store_level (pv 0) (pe_op op_add (pe_fldG CL_Store N_Store_level (pv 0)) (pv 3)))
 (pss_one (ps_expr (pe_appG (pv 1) (pe_tupG (pa_c (pv 2) (pa_c pe_str (pa_c (pv 3) pa_nil)))))))))
 (pss_one (ps_ret (pv 1)))))))))),?_⟩
 walk_at "r2"
 intro r H1 hr1 g1 h1
 refine⟨TbI C a g p r ss H,⟨ss.gets.length+ss.puts.length,?_⟩,?_⟩
 ·unfold TbI
  have b:=tl
  obtain⟨_,_,_,_,_,_,_,_,_,b1,b2⟩:=b
  exact⟨[],[],ss,_,_,rfl,λc u _ _ _ hc=>g1 _ _ hc,h1,.nil,tl.same g1,λits z h=>h,by simp only [List.length_nil];omega,rfl⟩
 ·intro m σ H2 z
  unfold TbI at z
  obtain⟨sv,dn,s',v2,v3,rfl,f3,h2,sd,tl',rel,bd,rfl⟩:=z
  obtain⟨dx,gs,ps,k1,k2,k3,k4,k5,k6,k7,k8⟩:=id tl'
  clear h1
  walk_at "r2"
  have no:stp s'=none->Q (.ref r) H2:=λe=>q r H2 sv dn s' hr1 f3 h2 sd tl' (by have:=rel [] s' (.done e);rw [List.append_nil] at this;exact this)
  refine⟨λσ' H'=>∃m',m'<s'.gets.length+s'.puts.length/\TbI C a g p r ss H m' σ' H',λ_ _ z=>z,?_⟩
  walk_at "r2"
  refine⟨!gs.isEmpty,tru_lst k2,?_⟩
  have nra:r≠a/\r≠g/\r≠p:=by
   obtain⟨_,_,_,ka,kg,_,kp,_⟩:=tl
   exact⟨λz=>(by rw [z,ka] at hr1;cases hr1),λz=>(by rw [z,kg] at hr1;cases hr1),λz=>(by rw [z,kp] at hr1;cases hr1)⟩
  have nag:a≠g:=λz=>by rw [z,k2] at k1;cases k1
  have nap:a≠p:=λz=>by rw [z,k4] at k1;cases k1
  have ls:=sd.length
  have k3s:=k3
  have k7s:=k7
  cases hg:s'.gets with
  | nil=>
   have eg:=congrArg List.length hg
   rw [List.length_nil] at eg
   rw [hg] at k3
   cases k3
   have eP:stp s'=stpP s':=by unfold stp;rw [hg]
   refine iteF ?_
   walk_at "r2"
   try walk_at "r2"
   refine⟨!ps.isEmpty,tru_lst k4,?_⟩
   cases hpu:s'.puts with
   | nil=>
    rw [hpu] at k5
    cases k5
    refine iteF ?_
    walk_at "r2"
    exact no (by rw [eP];unfold stpP;rw [hpu])
   | cons p1 pu=>
    obtain⟨h',n'⟩:=p1
    rw [hpu] at k5
    cases k5 with
    | cons hq0 qr0=>
    rename_i pb ps'
    refine iteT ?_
    walk_at "r2"
    refine ite2 (λc2=>?_) λc2=>by walk_at "r2";exact no (by rw [eP];unfold stpP;rw [hpu];show(if s'.level+n'<=s'.most then _ else _)=_;rw [if_neg c2])
    have lp:=qr0.length
    have ep:=congrArg List.length hpu
    rw [List.length_cons] at ep
    walk_at "r2"
    refine⟨⟨_,SqL.of k4⟩,?_⟩
    walk_at "r2"
    refine⟨by omega,_,by simp only [List.length_cons];omega,rfl,λH3 m3=>?_⟩
    have npb:pb≠p:=(tl'.ne pb _ hq0).2.2
    have hq3:=m3.old hq0 npb
    have a3:=m3.old k1 nap
    walk_at "r2"
    intro H4 m4
    have h4r:=m4.old (m3.old h2 nra.2.2) nra.1
    walk_at "r2"
    intro p5 H5 hp5 g5 h5
    have h5r:=g5 _ _ h4r
    walk_at "r2"
    refine⟨by omega,λH6 m6=>?_⟩
    walk_at "r2"
    refine⟨s'.gets.length+pu.length,by omega,?_⟩
    have kt6:∀c xs,H2 c=some (.tup xs)->H6 c=some (.tup xs):=λc xs hc=>m6.old (g5 _ _ (m4.old (m3.old hc (tl'.ne c xs hc).2.2) (tl'.ne c xs hc).1)) (λz=>by rw [z,h2] at hc;cases hc)
    have np5:p5≠r:=(ne_of_none h4r hp5).symm
    unfold TbI
    refine⟨sv++[.ref p5],dn++[(h',false,n')],⟨s'.level+n',s'.most,s'.gets,pu⟩,_,_,rfl,λc u n1 n2 n3 hc=>m6.old (g5 _ _ (m4.old (m3.old (f3 c u n1 n2 n3 hc) n3) n1)) (ne_of_none hc hr1),m6.at_,(sd.mono kt6).snoc (b:=false) (m6.old h5 np5),⟨dx,_,ps',m6.old (g5 _ _ m4.at_) (Ne.symm nra.1),m6.old (g5 _ _ (m4.old (m3.old k2 k6) (Ne.symm nag))) (Ne.symm nra.2.1),k3s.mono kt6,m6.old (g5 _ _ (m4.old m3.at_ (Ne.symm nap))) (Ne.symm nra.2.2),qr0.mono kt6,k6,k7s,by show pu.length<=200;omega⟩,λits z hz=>?_,?_,rfl⟩
    ·rw [List.append_assoc]
     exact rel _ _ (.step (by rw [eP];unfold stpP;rw [hpu];show(if s'.level+n'<=s'.most then _ else _)=_;rw [if_pos c2]) hz)
    ·show(dn++[(h',false,n')]).length+s'.gets.length+pu.length<=400
     rw [List.length_append,List.length_singleton]
     omega
  | cons p0 gu=>
   obtain⟨h,n⟩:=p0
   have eg:=congrArg List.length hg
   rw [List.length_cons] at eg
   rw [hg] at k3
   cases k3 with
   | cons hp0 pr0=>
   rename_i pa gs'
   refine iteT ?_
   walk_at "r2"
   refine ite2 (λc=>?_) λc=>?_
   ·have lg:=pr0.length
    rw [hg,List.length_cons] at k7
    walk_at "r2"
    refine⟨⟨_,SqL.of k2⟩,?_⟩
    walk_at "r2"
    refine⟨by omega,_,by simp only [List.length_cons];omega,rfl,λH3 m3=>?_⟩
    have npa:pa≠g:=(tl'.ne pa _ hp0).2.1
    have hp3:=m3.old hp0 npa
    have a3:=m3.old k1 nag
    walk_at "r2"
    intro H4 m4
    have h4r:=m4.old (m3.old h2 nra.2.1) nra.1
    walk_at "r2"
    intro p5 H5 hp5 g5 h5
    have h5r:=g5 _ _ h4r
    walk_at "r2"
    refine⟨by omega,λH6 m6=>?_⟩
    walk_at "r2"
    refine⟨gu.length+s'.puts.length,by omega,?_⟩
    have kt6:∀c xs,H2 c=some (.tup xs)->H6 c=some (.tup xs):=λc xs hc=>m6.old (g5 _ _ (m4.old (m3.old hc (tl'.ne c xs hc).2.1) (tl'.ne c xs hc).1)) (λz=>by rw [z,h2] at hc;cases hc)
    have np5:p5≠r:=(ne_of_none h4r hp5).symm
    unfold TbI
    refine⟨sv++[.ref p5],dn++[(h,true,n)],⟨s'.level-n,s'.most,gu,s'.puts⟩,_,_,rfl,λc u n1 n2 n3 hc=>m6.old (g5 _ _ (m4.old (m3.old (f3 c u n1 n2 n3 hc) n2) n1)) (ne_of_none hc hr1),m6.at_,(sd.mono kt6).snoc (b:=true) (m6.old h5 np5),⟨dx,gs',ps,m6.old (g5 _ _ m4.at_) (Ne.symm nra.1),m6.old (g5 _ _ (m4.old m3.at_ (Ne.symm nag))) (Ne.symm nra.2.1),pr0.mono kt6,m6.old (g5 _ _ (m4.old (m3.old k4 (Ne.symm k6)) (Ne.symm nap))) (Ne.symm nra.2.2),k5.mono kt6,k6,by show gu.length<=200;omega,k8⟩,λits z hz=>?_,?_,rfl⟩
    ·rw [List.append_assoc]
     exact rel _ _ (.step (by unfold stp;rw [hg];show(if n<=s'.level then _ else _)=_;rw [if_pos c]) hz)
    ·show(dn++[(h,true,n)]).length+gu.length+s'.puts.length<=400
     rw [List.length_append,List.length_singleton]
     omega
   ·have eP:stp s'=stpP s':=by unfold stp;rw [hg];show(if n<=s'.level then _ else _)=_;rw [if_neg c]
    try walk_at "r2"
    refine⟨!ps.isEmpty,tru_lst k4,?_⟩
    cases hpu:s'.puts with
    | nil=>
     rw [hpu] at k5
     cases k5
     refine iteF ?_
     walk_at "r2"
     exact no (by rw [eP];unfold stpP;rw [hpu])
    | cons p1 pu=>
     obtain⟨h',n'⟩:=p1
     rw [hpu] at k5
     cases k5 with
     | cons hq0 qr0=>
     rename_i pb ps'
     refine iteT ?_
     walk_at "r2"
     refine ite2 (λc2=>?_) λc2=>by walk_at "r2";exact no (by rw [eP];unfold stpP;rw [hpu];show(if s'.level+n'<=s'.most then _ else _)=_;rw [if_neg c2])
     have lp:=qr0.length
     have ep:=congrArg List.length hpu
     rw [List.length_cons] at ep
     walk_at "r2"
     refine⟨⟨_,SqL.of k4⟩,?_⟩
     walk_at "r2"
     refine⟨by omega,_,by simp only [List.length_cons];omega,rfl,λH3 m3=>?_⟩
     have npb:pb≠p:=(tl'.ne pb _ hq0).2.2
     have hq3:=m3.old hq0 npb
     have a3:=m3.old k1 nap
     walk_at "r2"
     intro H4 m4
     have h4r:=m4.old (m3.old h2 nra.2.2) nra.1
     walk_at "r2"
     intro p5 H5 hp5 g5 h5
     have h5r:=g5 _ _ h4r
     walk_at "r2"
     refine⟨by omega,λH6 m6=>?_⟩
     walk_at "r2"
     refine⟨s'.gets.length+pu.length,by omega,?_⟩
     have kt6:∀c xs,H2 c=some (.tup xs)->H6 c=some (.tup xs):=λc xs hc=>m6.old (g5 _ _ (m4.old (m3.old hc (tl'.ne c xs hc).2.2) (tl'.ne c xs hc).1)) (λz=>by rw [z,h2] at hc;cases hc)
     have np5:p5≠r:=(ne_of_none h4r hp5).symm
     unfold TbI
     refine⟨sv++[.ref p5],dn++[(h',false,n')],⟨s'.level+n',s'.most,s'.gets,pu⟩,_,_,rfl,λc u n1 n2 n3 hc=>m6.old (g5 _ _ (m4.old (m3.old (f3 c u n1 n2 n3 hc) n3) n1)) (ne_of_none hc hr1),m6.at_,(sd.mono kt6).snoc (b:=false) (m6.old h5 np5),⟨dx,_,ps',m6.old (g5 _ _ m4.at_) (Ne.symm nra.1),m6.old (g5 _ _ (m4.old (m3.old k2 k6) (Ne.symm nag))) (Ne.symm nra.2.1),k3s.mono kt6,m6.old (g5 _ _ (m4.old m3.at_ (Ne.symm nap))) (Ne.symm nra.2.2),qr0.mono kt6,k6,k7s,by show pu.length<=200;omega⟩,λits z hz=>?_,?_,rfl⟩
     ·rw [List.append_assoc]
      exact rel _ _ (.step (by rw [eP];unfold stpP;rw [hpu];show(if s'.level+n'<=s'.most then _ else _)=_;rw [if_pos c2]) hz)
     ·show(dn++[(h',false,n')]).length+s'.gets.length+pu.length<=400
      rw [List.length_append,List.length_singleton]
      omega
end
end K21
namespace K21
open PySem L2
def takeS(t:TS)(h n:Int):Bool×TS:=if t.que≠[]\/t.free<n then (false,⟨t.free,t.held,t.que++[(h,n)]⟩) else (true,outS t h n)
def giv(t:TS)(h n:Int):Int:=if getI t.held h<n then getI t.held h else n
def giveS(t:TS)(h n:Int):List (Int×Int)×TS:=srv t.que (outS t h (-(giv t h n)))
def PutR(s:SS)(h n:Int)(b:Bool)(its:List (Int×Bool×Int))(s':SS):Prop:=if s.puts≠[]\/s.most<s.level+n then b=false/\its= []/\s'=⟨s.level,s.most,s.gets,s.puts++[(h,n)]⟩ else b=true/\Sbt ⟨s.level+n,s.most,s.gets,s.puts⟩ its s'
def GetR(s:SS)(h n:Int)(b:Bool)(its:List (Int×Bool×Int))(s':SS):Prop:=if s.gets≠[]\/s.level<n then b=false/\its= []/\s'=⟨s.level,s.most,s.gets++[(h,n)],s.puts⟩ else b=true/\Sbt ⟨s.level-n,s.most,s.gets,s.puts⟩ its s'
section
variable{P:Program}{w:World}{K:PySem.W.Frag}{mg:Str->Option Value}{base:Heap}
def spTake(CG CT:Addr):Sp:=λvs H Q _=>∃(g dx dt a d q:Addr) (x:V) (kv:List (Key×V)) (nm:Str) (h n:Int) (t:TS),vs= [.ref g,.int h,.str nm,.int n]/\H g=some (.ins CG dx [("by_tool",.ref dt),("by_store",x)])/\H dt=some (.dK kv)/\valV kv (Sum.inr nm)=some (.ref a)/\TlO CT H a d q t/\h∈hs/\t.que.length<200/\
 ∀(H':Hp),Fr3 a d q H H'->TlO CT H' a d q (takeS t h n).2->Q (.bl (takeS t h n).1) H'
theorem ok_take{CG CT:Addr}(D:MethAt K CG "take" "Goods.take" s_Goods_take ["self","hand","name","n"])(CL_Goods:Cls K CG)(N_Goods_by_tool:NoAttr K CG "by_tool")(CL_Tool:Cls K CT)(N_Tool_free:NoAttr K CT "free")(N_Tool_queue:NoAttr K CT "queue")(G_hand_out:OkD P w K mg base 1 "hand_out" ["tool","hand","n"] (spOut CT)):OkM P w K mg base 2 CG "take" ["self","hand","name","n"] (spTake CG CT):=by
 refine D.ok CL_Goods sc_Goods_take (λvs H Q E h=>?_) (λf cdv A outer s H vs Q E hr h=>?_)
 ·obtain⟨_,_,_,_,_,_,_,_,_,_,_,_,rfl,_⟩:=h;rfl
 obtain⟨g,dx,dt,a,d,q0,x,kv,nm,h,n,t,rfl,e1,e2,e3,tl,b1,b2,q⟩:=h
 have hu:=hu_of hr
 have big:100000<=sizeLine:=by unfold sizeLine;decide
 obtain⟨dx',qs,k1,k2,k3,k4,k5,k6,k7⟩:=id tl
 have lq:=k4.length
 refine⟨_,(pss_cons (ps_set (i:=4) sc_Goods_take.nd rfl (Or.inl rfl) (pe_dgetG hu (pe_fldG CL_Goods N_Goods_by_tool (pv 0)) (pv 2) (λ_ _=>rfl)))
 (pss_cons (ps_if (PW.pt (pw_or (pt_truth (pe_fldG CL_Tool N_Tool_queue (pv 4)) (λ_=>rfl)) (pw_or1 (pt_cmpR op_lt (pe_fldG CL_Tool N_Tool_free (pv 4)) (pv 3) (nomark _)))))
 (pss_cons (ps_expr (pe_appG (pe_fldG CL_Tool N_Tool_queue (pv 4)) (pe_tupG (pa_c (pv 1) (pa_c (pv 3) pa_nil)))))
 (pss_one (ps_ret pe_bl)))
 pss_nil)
 (pss_cons (ps_expr (pe_def G_hand_out hr rfl (pa_c (pv 4) (pa_c (pv 1) (pa_c (pv 3) pa_nil)))))
 (pss_one (ps_ret pe_bl))))),?_⟩
 walk_at "rd"
 have wait:(t.que≠[]\/t.free<n)->∀(p:Addr) (H1:Hp),H p=none->Same H H1->H1 p=some (.tup [.int h,.int n])->∃ys,H1 q0=some (.lst ys)/\ys.length<sizeLine/\∀H3,Mu H1 q0 (.lst (ys++[.ref p])) H3->Q (.bl false) H3:=λc p H1 hp g1 h1=>by
  refine⟨qs,g1 _ _ k3,by omega,λH3 m3=>?_⟩
  have et:takeS t h n=(false,⟨t.free,t.held,t.que++[(h,n)]⟩):=by unfold takeS;rw [if_pos c]
  rw [et] at q
  have nq:∀c u,c≠q0->H c=some u->H3 c=some u:=λc u nc hc=>m3.old (g1 _ _ hc) nc
  have naq:a≠q0:=λz=>by rw [z,k3] at k1;cases k1
  have ndq:d≠q0:=λz=>by rw [z,k3] at k2;cases k2
  have npq:p≠q0:=(ne_of_none k3 hp).symm
  refine q H3 (λc u _ _ n3 hc=>nq c u n3 hc) ⟨dx',qs++[.ref p],nq _ _ naq k1,nq _ _ ndq k2,m3.at_,(k4.mono λc xs hc=>nq c _ (tl.ne c xs hc).2.2 hc).snoc (m3.old h1 npq),k5,⟨k6.1,λp hp=>(List.mem_append.mp hp).elim (k6.2 p) (λz=>by rw [List.mem_singleton.mp z];exact b1)⟩,?_⟩
  show(t.que++[(h,n)]).length<=200
  rw [List.length_append,List.length_singleton];omega
 refine⟨!qs.isEmpty,tru_lst k3,?_⟩
 cases hq:qs with
 | cons v0 qs'=>
  have nq:t.que≠[]:=λz=>by rw [z] at lq;rw [hq] at lq;cases lq
  exact iteT (wait (.inl nq))
 | nil=>
  have nq:t.que= []:=by
   rw [hq] at lq
   exact List.eq_nil_of_length_eq_zero lq.symm
  refine iteF (ite2 (λc=>?_) λc=>?_)
  ·exact wait (.inr c)
  ·have et:takeS t h n=(true,outS t h n):=by unfold takeS;rw [if_neg (λz=>z.elim (λz=>z nq) c)]
   rw [et] at q
   exact⟨a,d,q0,t,h,n,rfl,tl,b1,λH1 f1 t1=>q H1 f1 t1⟩
def spGive(CG CT:Addr):Sp:=λvs H Q _=>∃(g dx dt a d q:Addr) (x:V) (kv:List (Key×V)) (nm:Str) (h n:Int) (t:TS),vs= [.ref g,.int h,.str nm,.int n]/\H g=some (.ins CG dx [("by_tool",.ref dt),("by_store",x)])/\H dt=some (.dK kv)/\valV kv (Sum.inr nm)=some (.ref a)/\TlO CT H a d q t/\h∈hs/\
 ∀(H':Hp) (p r:Addr) (sv:List V),Fr3 a d q H H'->H r=none->H' p=some (.tup [.int (giv t h n),.ref r])->H' r=some (.lst sv)->Svd "takes" H' sv (giveS t h n).1->TlO CT H' a d q (giveS t h n).2->Q (.ref p) H'
theorem ok_give{CG CT:Addr}(D:MethAt K CG "give" "Goods.give" s_Goods_give ["self","hand","name","n"])(CL_Goods:Cls K CG)(N_Goods_by_tool:NoAttr K CG "by_tool")(CL_Tool:Cls K CT)(N_Tool_held:NoAttr K CT "held")(G_hand_in:OkD P w K mg base 2 "hand_in" ["tool","hand","n"] (spIn CT))(G_serve_takers:OkD P w K mg base 2 "serve_takers" ["tool"] (spServe CT))(hmin:mg "min" =none):OkM P w K mg base 3 CG "give" ["self","hand","name","n"] (spGive CG CT):=by
 refine D.ok CL_Goods sc_Goods_give (λvs H Q E h=>?_) (λf cdv A outer s H vs Q E hr h=>?_)
 ·obtain⟨_,_,_,_,_,_,_,_,_,_,_,_,rfl,_⟩:=h;rfl
 obtain⟨g,dx,dt,a,d,q0,x,kv,nm,h,n,t,rfl,e1,e2,e3,tl,b1,q⟩:=h
 have hu:=hu_of hr
 obtain⟨dx',qs,k1,k2,k3,k4,k5,k6,k7⟩:=id tl
 refine⟨_,(pss_cons (ps_set (i:=4) sc_Goods_give.nd rfl (Or.inl rfl) (pe_dgetG hu (pe_fldG CL_Goods N_Goods_by_tool (pv 0)) (pv 2) (λ_ _=>rfl)))
 (pss_cons (ps_set (i:=5) sc_Goods_give.nd rfl (Or.inl rfl) (pe_cB (call_min2 rfl) rfl hmin (by decide +kernel) (pa_c (pv 3) (pa_c (pe_dgetDG hu (pe_fldG CL_Tool N_Tool_held (pv 4)) (pv 1) pe_int ⟨rfl,rfl,rfl,rfl⟩) pa_nil))))
 (pss_cons (ps_expr (pe_def G_hand_in hr rfl (pa_c (pv 4) (pa_c (pv 1) (pa_c (pv 5) pa_nil)))))
 (pss_one (ps_ret (pe_tupG (pa_c (pv 5) (pa_c (pe_def G_serve_takers hr rfl (pa_c (pv 4) pa_nil)) pa_nil)))))))),?_⟩
 walk_at "rd"
 refine⟨⟨_,rfl⟩,_,hk_get _,?_⟩
 obtain⟨p1,p2,p3⟩:=putI_keys (h:=h) (x:=getI t.held h+ -(giv t h n)) t.held k5
 refine⟨a,d,q0,t,h,giv t h n,rfl,tl,b1,λH1 f1 t1=>?_⟩
 refine⟨a,d,q0,outS t h (-(giv t h n)),rfl,t1,λr H2 sv hr2 f2 h2 sd t2=>?_⟩
 intro p H3 hp g3 h3
 have hr0:H r=none:=by
  cases z:H r with
  | none=>rfl
  | some u=>
   obtain⟨dx1,qs1,j1,j2,j3,_⟩:=t1
   have:=f1 r u (λe=>by rw [e,j1] at hr2;cases hr2) (λe=>by rw [e,j2] at hr2;cases hr2) (λe=>by rw [e,j3] at hr2;cases hr2) z
   rw [this] at hr2;cases hr2
 exact q H3 p r sv ((f1.trans f2).trans λc u _ _ _ hc=>g3 _ _ hc) hr0 h3 (g3 _ _ h2) (sd.mono λc xs hc=>g3 _ _ hc) (t2.same g3)
def spPut(CG CS:Addr):Sp:=λvs H Q _=>∃(g dx ds a gg pp:Addr) (x:V) (kv:List (Key×V)) (nm:Str) (h n:Int) (s:SS),vs= [.ref g,.int h,.str nm,.int n]/\H g=some (.ins CG dx [("by_tool",x),("by_store",.ref ds)])/\H ds=some (.dK kv)/\valV kv (Sum.inr nm)=some (.ref a)/\StO CS H a gg pp s/\s.gets.length<200/\s.puts.length<200/\
 ∀(H':Hp) (p r:Addr) (sv:List V) (b:Bool) (its:List (Int×Bool×Int)) (s':SS),Fr3 a gg pp H H'->H r=none->H' p=some (.tup [.bl b,.ref r])->H' r=some (.lst sv)->Sv3 H' sv its->StO CS H' a gg pp s'->PutR s h n b its s'->Q (.ref p) H'
theorem ok_put{CG CS:Addr}(D:MethAt K CG "put" "Goods.put" s_Goods_put ["self","hand","name","n"])(CL_Goods:Cls K CG)(N_Goods_by_store:NoAttr K CG "by_store")(CL_Store:Cls K CS)(N_Store_level:NoAttr K CS "level")(N_Store_most:NoAttr K CS "most")(N_Store_putters:NoAttr K CS "putters")(G_serve_by_turns:OkD P w K mg base 1 "serve_by_turns" ["store"] (spTurns CS)):OkM P w K mg base 2 CG "put" ["self","hand","name","n"] (spPut CG CS):=by
 refine D.ok CL_Goods sc_Goods_put (λvs H Q E h=>?_) (λf cdv A outer s H vs Q E hr h=>?_)
 ·obtain⟨_,_,_,_,_,_,_,_,_,_,_,_,rfl,_⟩:=h;rfl
 obtain⟨g,dx,ds,a,gg,pp,x,kv,nm,h,n,ss,rfl,e1,e2,e3,tl,b1,b2,q⟩:=h
 have hu:=hu_of hr
 have big:100000<=sizeLine:=by unfold sizeLine;decide
 obtain⟨dx',gs,ps,k1,k2,k3,k4,k5,k6,k7,k8⟩:=id tl
 have lq:=k5.length
 have nag:gg≠a:=λz=>by rw [z,k1] at k2;cases k2
 have nap:pp≠a:=λz=>by rw [z,k1] at k4;cases k4
 refine⟨_,(pss_cons (ps_set (i:=4) sc_Goods_put.nd rfl (Or.inl rfl) (pe_dgetG hu (pe_fldG CL_Goods N_Goods_by_store (pv 0)) (pv 2) (λ_ _=>rfl)))
 (pss_cons (ps_if (PW.pt (pw_or (pt_truth (pe_fldG CL_Store N_Store_putters (pv 4)) (λ_=>rfl)) (pw_or1 (pt_cmpR op_gt (pe_op op_add (pe_fldG CL_Store N_Store_level (pv 4)) (pv 3)) (pe_fldG CL_Store N_Store_most (pv 4)) (nomark _)))))
 (pss_cons (ps_expr (pe_appG (pe_fldG CL_Store N_Store_putters (pv 4)) (pe_tupG (pa_c (pv 1) (pa_c (pv 3) pa_nil)))))
 (pss_one (ps_ret (pe_tupG (pa_c pe_bl (pa_c (pe_lstG pa_nil) pa_nil))))))
 pss_nil)
 (pss_cons (ps_fldG CL_Store N_Store_level (pv 4) (pe_op op_add (pe_fldG CL_Store N_Store_level (pv 4)) (pv 3)))
 (pss_one (ps_ret (pe_tupG (pa_c pe_bl (pa_c (pe_def G_serve_by_turns hr rfl (pa_c (pv 4) pa_nil)) pa_nil)))))))),?_⟩
 walk_at "rd"
 have wait:(ss.puts≠[]\/ss.most<ss.level+n)->∀(p:Addr) (H1:Hp),H p=none->Same H H1->H1 p=some (.tup [.int h,.int n])->∃ys,H1 pp=some (.lst ys)/\ys.length<sizeLine/\∀H3,Mu H1 pp (.lst (ys++[.ref p])) H3->∀(r:Addr) (H4:Hp),H3 r=none->Same H3 H4->H4 r=some (.lst [])->∀(p2:Addr) (H5:Hp),H4 p2=none->Same H4 H5->H5 p2=some (.tup [.bl false,.ref r])->Q (.ref p2) H5:=λc p H1 hp g1 h1=>by
  refine⟨ps,g1 _ _ k4,by omega,λH3 m3 r H4 hr4 g4 h4 p2 H5 hp2 g5 h5=>?_⟩
  have nq:∀c u,c≠pp->H c=some u->H3 c=some u:=λc u nc hc=>m3.old (g1 _ _ hc) nc
  have npq:p≠pp:=(ne_of_none k4 hp).symm
  have nrp:r≠pp:=(ne_of_none m3.at_ hr4).symm
  have hr0:H r=none:=g1.free (by rw [<-m3.else_ r nrp];exact hr4)
  refine q H5 p2 r [] false [] ⟨ss.level,ss.most,ss.gets,ss.puts++[(h,n)]⟩ (λc u _ _ n3 hc=>g5 _ _ (g4 _ _ (nq c u n3 hc))) hr0 h5 (g5 _ _ h4) .nil (StO.same (g4.trans g5) ⟨dx',gs,ps++[.ref p],nq _ _ (Ne.symm nap) k1,nq _ _ k6 k2,k3.mono λc xs hc=>nq c _ (tl.ne c xs hc).2.2 hc,m3.at_,(k5.mono λc xs hc=>nq c _ (tl.ne c xs hc).2.2 hc).snoc (m3.old h1 npq),k6,k7,?_⟩) ?_
  ·show(ss.puts++[(h,n)]).length<=200
   rw [List.length_append,List.length_singleton];omega
  ·unfold PutR
   rw [if_pos c]
   exact⟨rfl,rfl,rfl⟩
 refine⟨!ps.isEmpty,tru_lst k4,?_⟩
 cases hq:ps with
 | cons v0 qs'=>
  have nq:ss.puts≠[]:=λz=>by rw [z] at lq;rw [hq] at lq;cases lq
  exact iteT (wait (.inl nq))
 | nil=>
  have nq:ss.puts= []:=by
   rw [hq] at lq
   exact List.eq_nil_of_length_eq_zero lq.symm
  refine iteF (ite2 (λc=>?_) λc=>?_)
  ·exact wait (.inr c)
  ·intro H1 m1
   have kt:∀c xs,H c=some (.tup xs)->H1 c=some (.tup xs):=λc xs hc=>m1.old hc (tl.ne c xs hc).1
   have t1:StO CS H1 a gg pp ⟨ss.level+n,ss.most,ss.gets,ss.puts⟩:=⟨dx',gs,ps,m1.at_,m1.old k2 nag,k3.mono kt,m1.old k4 nap,k5.mono kt,k6,k7,k8⟩
   refine⟨a,gg,pp,⟨ss.level+n,ss.most,ss.gets,ss.puts⟩,rfl,t1,λr H2 sv its s' hr2 f2 h2 sd t2 sb=>?_⟩
   intro p H3 hp g3 h3
   have nra:r≠a:=(ne_of_none m1.at_ hr2).symm
   have hr0:H r=none:=by rw [<-m1.else_ r nra];exact hr2
   refine q H3 p r sv true its s' (λc u n1 n2 n3 hc=>g3 _ _ (f2 c u n1 n2 n3 (m1.old hc n1))) hr0 h3 (g3 _ _ h2) (sd.mono λc xs hc=>g3 _ _ hc) (t2.same g3) ?_
   unfold PutR
   rw [if_neg (λz=>z.elim (λz=>z nq) c)]
   exact⟨rfl,sb⟩
def spGet(CG CS:Addr):Sp:=λvs H Q _=>∃(g dx ds a gg pp:Addr) (x:V) (kv:List (Key×V)) (nm:Str) (h n:Int) (s:SS),vs= [.ref g,.int h,.str nm,.int n]/\H g=some (.ins CG dx [("by_tool",x),("by_store",.ref ds)])/\H ds=some (.dK kv)/\valV kv (Sum.inr nm)=some (.ref a)/\StO CS H a gg pp s/\s.gets.length<200/\s.puts.length<200/\
 ∀(H':Hp) (p r:Addr) (sv:List V) (b:Bool) (its:List (Int×Bool×Int)) (s':SS),Fr3 a gg pp H H'->H r=none->H' p=some (.tup [.bl b,.ref r])->H' r=some (.lst sv)->Sv3 H' sv its->StO CS H' a gg pp s'->GetR s h n b its s'->Q (.ref p) H'
theorem ok_get{CG CS:Addr}(D:MethAt K CG "get" "Goods.get" s_Goods_get ["self","hand","name","n"])(CL_Goods:Cls K CG)(N_Goods_by_store:NoAttr K CG "by_store")(CL_Store:Cls K CS)(N_Store_level:NoAttr K CS "level")(N_Store_getters:NoAttr K CS "getters")(G_serve_by_turns:OkD P w K mg base 1 "serve_by_turns" ["store"] (spTurns CS)):OkM P w K mg base 2 CG "get" ["self","hand","name","n"] (spGet CG CS):=by
 refine D.ok CL_Goods sc_Goods_get (λvs H Q E h=>?_) (λf cdv A outer s H vs Q E hr h=>?_)
 ·obtain⟨_,_,_,_,_,_,_,_,_,_,_,_,rfl,_⟩:=h;rfl
 obtain⟨g,dx,ds,a,gg,pp,x,kv,nm,h,n,ss,rfl,e1,e2,e3,tl,b1,b2,q⟩:=h
 have hu:=hu_of hr
 have big:100000<=sizeLine:=by unfold sizeLine;decide
 obtain⟨dx',gs,ps,k1,k2,k3,k4,k5,k6,k7,k8⟩:=id tl
 have lq:=k3.length
 have nag:gg≠a:=λz=>by rw [z,k1] at k2;cases k2
 have nap:pp≠a:=λz=>by rw [z,k1] at k4;cases k4
 refine⟨_,(pss_cons (ps_set (i:=4) sc_Goods_get.nd rfl (Or.inl rfl) (pe_dgetG hu (pe_fldG CL_Goods N_Goods_by_store (pv 0)) (pv 2) (λ_ _=>rfl)))
 (pss_cons (ps_if (PW.pt (pw_or (pt_truth (pe_fldG CL_Store N_Store_getters (pv 4)) (λ_=>rfl)) (pw_or1 (pt_cmpR op_lt (pe_fldG CL_Store N_Store_level (pv 4)) (pv 3) (nomark _)))))
 (pss_cons (ps_expr (pe_appG (pe_fldG CL_Store N_Store_getters (pv 4)) (pe_tupG (pa_c (pv 1) (pa_c (pv 3) pa_nil)))))
 (pss_one (ps_ret (pe_tupG (pa_c pe_bl (pa_c (pe_lstG pa_nil) pa_nil))))))
 pss_nil)
 (pss_cons (ps_fldG CL_Store N_Store_level (pv 4) (pe_op op_sub (pe_fldG CL_Store N_Store_level (pv 4)) (pv 3)))
 (pss_one (ps_ret (pe_tupG (pa_c pe_bl (pa_c (pe_def G_serve_by_turns hr rfl (pa_c (pv 4) pa_nil)) pa_nil)))))))),?_⟩
 walk_at "rd"
 have wait:(ss.gets≠[]\/ss.level<n)->∀(p:Addr) (H1:Hp),H p=none->Same H H1->H1 p=some (.tup [.int h,.int n])->∃ys,H1 gg=some (.lst ys)/\ys.length<sizeLine/\∀H3,Mu H1 gg (.lst (ys++[.ref p])) H3->∀(r:Addr) (H4:Hp),H3 r=none->Same H3 H4->H4 r=some (.lst [])->∀(p2:Addr) (H5:Hp),H4 p2=none->Same H4 H5->H5 p2=some (.tup [.bl false,.ref r])->Q (.ref p2) H5:=λc p H1 hp g1 h1=>by
  refine⟨gs,g1 _ _ k2,by omega,λH3 m3 r H4 hr4 g4 h4 p2 H5 hp2 g5 h5=>?_⟩
  have nq:∀c u,c≠gg->H c=some u->H3 c=some u:=λc u nc hc=>m3.old (g1 _ _ hc) nc
  have npq:p≠gg:=(ne_of_none k2 hp).symm
  have nrp:r≠gg:=(ne_of_none m3.at_ hr4).symm
  have hr0:H r=none:=g1.free (by rw [<-m3.else_ r nrp];exact hr4)
  refine q H5 p2 r [] false [] ⟨ss.level,ss.most,ss.gets++[(h,n)],ss.puts⟩ (λc u _ n2 _ hc=>g5 _ _ (g4 _ _ (nq c u n2 hc))) hr0 h5 (g5 _ _ h4) .nil (StO.same (g4.trans g5) ⟨dx',gs++[.ref p],ps,nq _ _ (Ne.symm nag) k1,m3.at_,(k3.mono λc xs hc=>nq c _ (tl.ne c xs hc).2.1 hc).snoc (m3.old h1 npq),nq _ _ (Ne.symm k6) k4,k5.mono λc xs hc=>nq c _ (tl.ne c xs hc).2.1 hc,k6,?_,k8⟩) ?_
  ·show(ss.gets++[(h,n)]).length<=200
   rw [List.length_append,List.length_singleton];omega
  ·unfold GetR
   rw [if_pos c]
   exact⟨rfl,rfl,rfl⟩
 refine⟨!gs.isEmpty,tru_lst k2,?_⟩
 cases hq:gs with
 | cons v0 qs'=>
  have nq:ss.gets≠[]:=λz=>by rw [z] at lq;rw [hq] at lq;cases lq
  exact iteT (wait (.inl nq))
 | nil=>
  have nq:ss.gets= []:=by
   rw [hq] at lq
   exact List.eq_nil_of_length_eq_zero lq.symm
  refine iteF (ite2 (λc=>?_) λc=>?_)
  ·exact wait (.inr c)
  ·intro H1 m1
   have kt:∀c xs,H c=some (.tup xs)->H1 c=some (.tup xs):=λc xs hc=>m1.old hc (tl.ne c xs hc).1
   have t1:StO CS H1 a gg pp ⟨ss.level-n,ss.most,ss.gets,ss.puts⟩:=⟨dx',gs,ps,m1.at_,m1.old k2 nag,k3.mono kt,m1.old k4 nap,k5.mono kt,k6,k7,k8⟩
   refine⟨a,gg,pp,⟨ss.level-n,ss.most,ss.gets,ss.puts⟩,rfl,t1,λr H2 sv its s' hr2 f2 h2 sd t2 sb=>?_⟩
   intro p H3 hp g3 h3
   have nra:r≠a:=(ne_of_none m1.at_ hr2).symm
   have hr0:H r=none:=by rw [<-m1.else_ r nra];exact hr2
   refine q H3 p r sv true its s' (λc u n1 n2 n3 hc=>g3 _ _ (f2 c u n1 n2 n3 (m1.old hc n1))) hr0 h3 (g3 _ _ h2) (sd.mono λc xs hc=>g3 _ _ hc) (t2.same g3) ?_
   unfold GetR
   rw [if_neg (λz=>z.elim (λz=>z nq) c)]
   exact⟨rfl,sb⟩
end
end K21
namespace K21
open PySem L2
inductive TlL (H0 H:Hp):List Addr->List V->List TS->Prop
 | nil:TlL H0 H [] [] []
 | cons {ph pq:Addr} {v:V} {t:TS} {hd:List (Int×Int)} {C:List Addr} {vs:List V} {ts:List TS}:Told H0 H ph pq v t hd->PmO hd t->TlL H0 H C vs ts->TlL H0 H (ph::pq::C) (v::vs) (t::ts)
inductive SlL (H0 H:Hp):List Addr->List V->List SS->Prop
 | nil:SlL H0 H [] [] []
 | cons {ph pq:Addr} {v:V} {s:SS} {C:List Addr} {vs:List V} {ts:List SS}:ToldS H0 H ph pq v s->SlL H0 H C vs ts->SlL H0 H (ph::pq::C) (v::vs) (s::ts)
theorem Told.mono{H0 H H':Hp}{ph pq:Addr}{v:V}{t:TS}{hd:List (Int×Int)}(g:Same H H')(h:Told H0 H ph pq v t hd):Told H0 H' ph pq v t hd:=by
 obtain⟨p,hs,qs,e,h1,h2,h3,h4,h5⟩:=h
 exact⟨p,hs,qs,e,g _ _ h1,g _ _ h2,h3.mono λ_ _ hc=>g _ _ hc,g _ _ h4,h5.1.mono λ_ _ hc=>g _ _ hc,h5.2⟩
theorem ToldS.mono{H0 H H':Hp}{ph pq:Addr}{v:V}{s:SS}(g:Same H H')(h:ToldS H0 H ph pq v s):ToldS H0 H' ph pq v s:=by
 obtain⟨p,hs,qs,e,h1,h2,h3,h4,h5⟩:=h
 exact⟨p,hs,qs,e,g _ _ h1,g _ _ h2,h3.mono λ_ _ hc=>g _ _ hc,g _ _ h4,h5.1.mono λ_ _ hc=>g _ _ hc,h5.2⟩
theorem Told.hid{H0 H1 H:Hp}{ph pq:Addr}{v:V}{t:TS}{hd:List (Int×Int)}{D:Addr}{xs:List V}(h:Told H1 H ph pq v t hd)(hD1:H1 D=some (.lst xs))(hD:H D=some (.lst xs))(k:∀c,H1 c=none->H0 c=none):Told H0 (hide D H) ph pq v t hd:=by
 obtain⟨p,hs,qs,e,h1,h2,h3,h4,h5,h6,h7⟩:=h
 have nt:∀c ys,H c=some (.tup ys)->hide D H c=some (.tup ys):=λc ys hc=>hide_of (λz=>by rw [z,hD] at hc;cases hc) hc
 exact⟨p,hs,qs,e,nt _ _ h1,hide_of (ne_of_none hD1 h6).symm h2,h3.mono nt,hide_of (ne_of_none hD1 h7).symm h4,h5.mono nt,k _ h6,k _ h7⟩
theorem ToldS.hid{H0 H1 H:Hp}{ph pq:Addr}{v:V}{t:SS}{D:Addr}{xs:List V}(h:ToldS H1 H ph pq v t)(hD1:H1 D=some (.lst xs))(hD:H D=some (.lst xs))(k:∀c,H1 c=none->H0 c=none):ToldS H0 (hide D H) ph pq v t:=by
 obtain⟨p,hs,qs,e,h1,h2,h3,h4,h5,h6,h7⟩:=h
 have nt:∀c ys,H c=some (.tup ys)->hide D H c=some (.tup ys):=λc ys hc=>hide_of (λz=>by rw [z,hD] at hc;cases hc) hc
 exact⟨p,hs,qs,e,nt _ _ h1,hide_of (ne_of_none hD1 h6).symm h2,h3.mono nt,hide_of (ne_of_none hD1 h7).symm h4,h5.mono nt,k _ h6,k _ h7⟩
theorem TlL.mono{H0 H H':Hp}(g:Same H H'){C:List Addr}{vs:List V}{ts:List TS}(t:TlL H0 H C vs ts):TlL H0 H' C vs ts:=by
 induction t with
 | nil=>exact .nil
 | cons h p _ ih=>exact .cons (h.mono g) p ih
theorem TlL.snoc{H0 H:Hp}{ph pq:Addr}{v:V}{t:TS}{hd:List (Int×Int)}(h:Told H0 H ph pq v t hd)(pm:PmO hd t){C:List Addr}{vs:List V}{ts:List TS}(l:TlL H0 H C vs ts):TlL H0 H (C++[ph,pq]) (vs++[v]) (ts++[t]):=by
 induction l with
 | nil=>exact .cons h pm .nil
 | cons h' p' _ ih=>exact .cons h' p' ih
theorem TlL.has{H0 H:Hp}{C:List Addr}{vs:List V}{ts:List TS}(l:TlL H0 H C vs ts):∀c∈C,∃xs,H c=some (.lst xs):=by
 induction l with
 | nil=>exact λc hc=>absurd hc List.not_mem_nil
 | cons h _ _ ih=>
  obtain⟨p,hs,qs,e,h1,h2,h3,h4,h5⟩:=h
  intro c hc
  rcases List.mem_cons.mp hc with rfl | hc
  ·exact⟨_,h2⟩
  rcases List.mem_cons.mp hc with rfl | hc
  ·exact⟨_,h4⟩
  ·exact ih c hc
theorem SlL.mono{H0 H H':Hp}(g:Same H H'){C:List Addr}{vs:List V}{ts:List SS}(t:SlL H0 H C vs ts):SlL H0 H' C vs ts:=by
 induction t with
 | nil=>exact .nil
 | cons h _ ih=>exact .cons (h.mono g) ih
theorem SlL.snoc{H0 H:Hp}{ph pq:Addr}{v:V}{t:SS}(h:ToldS H0 H ph pq v t){C:List Addr}{vs:List V}{ts:List SS}(l:SlL H0 H C vs ts):SlL H0 H (C++[ph,pq]) (vs++[v]) (ts++[t]):=by
 induction l with
 | nil=>exact .cons h .nil
 | cons h' _ ih=>exact .cons h' ih
theorem SlL.has{H0 H:Hp}{C:List Addr}{vs:List V}{ts:List SS}(l:SlL H0 H C vs ts):∀c∈C,∃xs,H c=some (.lst xs):=by
 induction l with
 | nil=>exact λc hc=>absurd hc List.not_mem_nil
 | cons h _ ih=>
  obtain⟨p,hs,qs,e,h1,h2,h3,h4,h5⟩:=h
  intro c hc
  rcases List.mem_cons.mp hc with rfl | hc
  ·exact⟨_,h2⟩
  rcases List.mem_cons.mp hc with rfl | hc
  ·exact⟨_,h4⟩
  ·exact ih c hc
theorem nd_two{C:List Addr}{H:Hp}{a b:Addr}(n:C.Nodup)(has:∀c∈C,∃xs,H c=some (.lst xs))(ha:H a=none)(hb:H b=none)(ne:a≠b):(C++[a,b]).Nodup:=by
 refine List.nodup_append.mpr ⟨n,by simp [ne],λc hc d hd e=>?_⟩
 obtain⟨xs,h⟩:=has c hc
 rw [e] at h
 simp only [List.mem_cons,List.not_mem_nil,or_false] at hd
 rcases hd with rfl | rfl
 ·rw [ha] at h;cases h
 ·rw [hb] at h;cases h
theorem Told.mono2{H0 H H':Hp}{ph pq:Addr}{v:V}{t:TS}{hd:List (Int×Int)}(g:∀c u,(∃xs,u=HO.tup xs\/u=HO.lst xs)->H c=some u->H' c=some u)(h:Told H0 H ph pq v t hd):Told H0 H' ph pq v t hd:=by
 obtain⟨p,hs,qs,e,h1,h2,h3,h4,h5⟩:=h
 exact⟨p,hs,qs,e,g _ _ ⟨_,.inl rfl⟩ h1,g _ _ ⟨_,.inr rfl⟩ h2,h3.mono λ_ xs hc=>g _ _ ⟨xs,.inl rfl⟩ hc,g _ _ ⟨_,.inr rfl⟩ h4,h5.1.mono λ_ xs hc=>g _ _ ⟨xs,.inl rfl⟩ hc,h5.2⟩
theorem ToldS.mono2{H0 H H':Hp}{ph pq:Addr}{v:V}{t:SS}(g:∀c u,(∃xs,u=HO.tup xs\/u=HO.lst xs)->H c=some u->H' c=some u)(h:ToldS H0 H ph pq v t):ToldS H0 H' ph pq v t:=by
 obtain⟨p,hs,qs,e,h1,h2,h3,h4,h5⟩:=h
 exact⟨p,hs,qs,e,g _ _ ⟨_,.inl rfl⟩ h1,g _ _ ⟨_,.inr rfl⟩ h2,h3.mono λ_ xs hc=>g _ _ ⟨xs,.inl rfl⟩ hc,g _ _ ⟨_,.inr rfl⟩ h4,h5.1.mono λ_ xs hc=>g _ _ ⟨xs,.inl rfl⟩ hc,h5.2⟩
theorem TlL.mono2{H0 H H':Hp}(g:∀c u,(∃xs,u=HO.tup xs\/u=HO.lst xs)->H c=some u->H' c=some u){C:List Addr}{vs:List V}{ts:List TS}(t:TlL H0 H C vs ts):TlL H0 H' C vs ts:=by
 induction t with
 | nil=>exact .nil
 | cons h p _ ih=>exact .cons (h.mono2 g) p ih
theorem SlL.mono2{H0 H H':Hp}(g:∀c u,(∃xs,u=HO.tup xs\/u=HO.lst xs)->H c=some u->H' c=some u){C:List Addr}{vs:List V}{ts:List SS}(t:SlL H0 H C vs ts):SlL H0 H' C vs ts:=by
 induction t with
 | nil=>exact .nil
 | cons h _ ih=>exact .cons (h.mono2 g) ih
theorem kv_int{held:List (Int×Int)}{i:Nat}{nm:Str}{v:V}:(hk held)[i]?≠some (Sum.inr nm,v):=λh=>by
 obtain⟨a,n,e,_⟩:=hk_at h
 cases e
theorem unfz{H H1:Hp}{d:Addr}{o:Obj}{kv:List (Key×V)}(hd:H d=some (.dK kv))(g1:Same (upd H d (.frz o (.dK kv))) H1):Same H (upd H1 d (.dK kv)):=λc u hc=>by
 by_cases z:c=d
 ·rw [z,upd_same];rw [z,hd] at hc;exact hc
 ·rw [upd_ne z]
  exact g1 _ _ (by rw [upd_ne z];exact hc)
section
variable{P:Program}{w:World}{K:PySem.W.Frag}{mg:Str->Option Value}{base:Heap}
def GoA(CG CT CS:Addr)(H:Hp)(g dt ds:Addr)(es:List Ent)(ss:List EntS):Prop:=(∃dx,H g=some (.ins CG dx [("by_tool",.ref dt),("by_store",.ref ds)]))/\H dt=some (.dK (kvE es))/\H ds=some (.dK (kvS ss))/\(∀e∈es,TlO CT H e.a e.d e.q e.t)/\(∀e∈ss,StO CS H e.a e.g e.p e.s)/\(g::dt::ds::(adE es++adS ss)).Nodup/\(es.map (·.name)).Nodup/\(ss.map (·.name)).Nodup
def spGoodsI(CG CT CS:Addr):Sp:=λvs H Q _=>∃(g dx pp p0 p1:Addr) (x2 x3:V) (ys0 ys1:List V) (pr0:List (Str×Int)) (pr1:List (Str×Int×Int)),vs= [.ref g,.ref pp]/\H g=some (.ins CG dx [])/\H pp=some (.tup [.ref p0,.ref p1,x2,x3])/\H p0=some (.lst ys0)/\PrN H ys0 pr0/\(pr0.length<=10/\(pr0.map (·.1)).Nodup)/\H p1=some (.lst ys1)/\PrM H ys1 pr1/\(pr1.length<=10/\(pr1.map (·.1)).Nodup)/\
 ∀(H':Hp) (dt ds:Addr) (es:List Ent) (ss:List EntS),(∀c u,c≠g->H c=some u->H' c=some u)->GoA CG CT CS H' g dt ds es ss->
  es.map (λe=>(e.name,e.c,e.t))=pr0.map (λp=>(p.1,p.2,⟨p.2,[],[]⟩))->ss.map (λe=>(e.name,e.s))=pr1.map (λp=>(p.1,⟨p.2.1,p.2.2,[],[]⟩))->(∀c∈dt::ds::(adE es++adS ss),H c=none)->Q .non H'
theorem PrN.mono{H H':Hp}(g:Same H H'):∀{vs:List V} {ps:List (Str×Int)},PrN H vs ps->PrN H' vs ps
 | _,_,.nil=>.nil
 | _,_,.cons h r=>.cons (g _ _ h) (r.mono g)
theorem PrM.keep{H H':Hp}(g:∀c xs,H c=some (.tup xs)->H' c=some (.tup xs)):∀{vs:List V} {ps:List (Str×Int×Int)},PrM H vs ps->PrM H' vs ps
 | _,_,.nil=>.nil
 | _,_,.cons h r=>.cons (g _ _ h) (r.keep g)
theorem ok_Goods{CG CT CS:Addr}(D:MakeAt K mg "Goods" CG "Goods.__init__" s_Goods___init__ ["self","program"])(CL_Goods:Cls K CG)(N_Goods_by_tool:NoAttr K CG "by_tool")(N_Goods_by_store:NoAttr K CG "by_store")(G_tools_of:OkD P w K mg base 3 "tools_of" ["program"] (spToolsOf CT))(G_stores_of:OkD P w K mg base 3 "stores_of" ["program"] (spStoresOf CS)):OkC P w K mg base 4 "Goods" CG ["self","program"] (spGoodsI CG CT CS):=by
 refine D.ok sc_Goods___init__ (λvs H Q E h=>?_) (λf cdv A outer s H vs Q E hr h=>?_)
 ·obtain⟨_,_,_,_,_,_,_,_,_,_,_,rfl,_⟩:=h;rfl
 obtain⟨g,dx,pp,p0,p1,x2,x3,ys0,ys1,pr0,pr1,rfl,hg,h1,h2,h3,h4,h5,h6,h7,q⟩:=h
 refine⟨_,(pss_cons (ps_fldG CL_Goods N_Goods_by_tool (pv 0) (pe_def G_tools_of hr rfl (pa_c (pv 1) pa_nil)))
 (pss_one (ps_fldG CL_Goods N_Goods_by_store (pv 0) (pe_def G_stores_of hr rfl (pa_c (pv 1) pa_nil))))),?_⟩
 walk_at "rd"
 refine⟨pp,p0,_,_,_,ys0,pr0,rfl,h1,h2,h3,h4.1,h4.2,λdt H1 es hdt g1 e1 t1 m1 n1 f1=>?_⟩
 have hg1:=g1 _ _ hg
 have npp:pp≠g:=λz=>by rw [z,hg] at h1;cases h1
 have np1:p1≠g:=λz=>by rw [z,hg] at h5;cases h5
 have hgs:=hg
 clear hg
 walk_at "rd"
 intro H2 mu2
 have hg2:=mu2.at_
 refine⟨pp,p1,_,_,_,ys1,pr1,rfl,mu2.old (g1 _ _ h1) npp,mu2.old (g1 _ _ h5) np1,h6.keep (λc xs hc=>mu2.old (g1 _ _ hc) (λz=>by rw [z,hgs] at hc;cases hc)),h7.1,h7.2,λds H3 ss hds g3 e3 t3 m3 n3 f3=>?_⟩
 have hg3:=g3 _ _ hg2
 clear hg1 hg2
 walk_at "rd"
 intro H4 mu4
 have ndt:dt≠g:=(ne_of_none hgs hdt).symm
 have nds:ds≠g:=(ne_of_none mu2.at_ hds).symm
 have k24:∀c u,c≠g->H1 c=some u->H4 c=some u:=λc u nc hc=>mu4.old (g3 _ _ (mu2.old hc nc)) nc
 have ne1:∀c∈adE es,c≠g:=λc hc=>(ne_of_none hgs (f1 c hc)).symm
 have ne3:∀c∈adS ss,c≠g:=λc hc=>(ne_of_none mu2.at_ (f3 c hc)).symm
 have back:∀c,H2 c=none->c≠g->H c=none:=λc hc nc=>g1.free (by rw [<-mu2.else_ c nc];exact hc)
 have in1:∀c∈dt::adE es,∃u,H2 c=some u:=λc hc=>by
  rcases List.mem_cons.mp hc with rfl | hc
  ·exact⟨_,mu2.old e1 ndt⟩
  ·obtain⟨u,hu⟩:=adE_has t1 c hc
   exact⟨u,mu2.old hu (ne1 c hc)⟩
 have out3:∀c∈ds::adS ss,H2 c=none:=λc hc=>by
  rcases List.mem_cons.mp hc with rfl | hc
  ·exact hds
  ·exact f3 c hc
 have dj:∀c∈dt::adE es,∀c'∈ds::adS ss,c≠c':=λc hc c' hc' z=>by
  obtain⟨u,hu⟩:=in1 c hc
  rw [z,out3 c' hc'] at hu;cases hu
 have mE:∀{c},c∈adE es->c∈dt::adE es:=λh=>List.mem_cons_of_mem _ h
 have mS:∀{c},c∈adS ss->c∈ds::adS ss:=λh=>List.mem_cons_of_mem _ h
 rw [List.nodup_cons] at n1 n3
 refine q H4 dt ds es ss (λc u nc hc=>k24 c u nc (g1 _ _ hc)) ⟨⟨_,mu4.at_⟩,k24 _ _ ndt e1,mu4.old e3 nds,λe he=>(t1 e he).grow λc u hc hu=>k24 c u (λz=>?_) hu,λe he=>(t3 e he).grow λc u hc hu=>mu4.old hu (λz=>?_),?_,?_,?_⟩ m1 m3 (λc hc=>?_)
 ·rcases hc with rfl | rfl | rfl | ⟨xs,rfl⟩
  ·exact ne1 e.a (List.mem_flatMap.mpr ⟨e,he,by simp⟩) z
  ·exact ne1 e.d (List.mem_flatMap.mpr ⟨e,he,by simp⟩) z
  ·exact ne1 e.q (List.mem_flatMap.mpr ⟨e,he,by simp⟩) z
  ·rw [z,g1 _ _ hgs] at hu;cases hu
 ·rcases hc with rfl | rfl | rfl | ⟨xs,rfl⟩
  ·exact ne3 e.a (List.mem_flatMap.mpr ⟨e,he,by simp⟩) z
  ·exact ne3 e.g (List.mem_flatMap.mpr ⟨e,he,by simp⟩) z
  ·exact ne3 e.p (List.mem_flatMap.mpr ⟨e,he,by simp⟩) z
  ·rw [z,hg3] at hu;cases hu
 ·refine List.nodup_cons.mpr ⟨λz=>?_,List.nodup_cons.mpr ⟨λz=>?_,List.nodup_cons.mpr ⟨λz=>?_,List.nodup_append.mpr ⟨n1.2,n3.2,λc hc c' hc'=>dj c (mE hc) c' (mS hc')⟩⟩⟩⟩
  ·rcases List.mem_cons.mp z with z | z
   ·exact ndt z.symm
   ·rcases List.mem_cons.mp z with z | z
    ·exact nds z.symm
    ·rcases List.mem_append.mp z with z | z
     ·exact ne1 _ z rfl
     ·exact ne3 _ z rfl
  ·rcases List.mem_cons.mp z with z | z
   ·exact dj dt List.mem_cons_self ds List.mem_cons_self z
   ·rcases List.mem_append.mp z with z | z
    ·exact n1.1 z
    ·exact dj dt List.mem_cons_self dt (mS z) rfl
  ·rcases List.mem_append.mp z with z | z
   ·exact dj ds (mE z) ds List.mem_cons_self rfl
   ·exact n3.1 z
 ·have e:=congrArg (List.map (λx:Str×Int×TS=>x.1)) m1
  rw [List.map_map,List.map_map] at e
  have e:es.map (·.name)=pr0.map (·.1):=e
  rw [e];exact h4.2
 ·have e:=congrArg (List.map (λx:Str×SS=>x.1)) m3
  rw [List.map_map,List.map_map] at e
  have e:ss.map (·.name)=pr1.map (·.1):=e
  rw [e];exact h7.2
 ·rcases List.mem_cons.mp hc with rfl | hc
  ·exact hdt
  ·rcases List.mem_cons.mp hc with rfl | hc
   ·exact back _ hds nds
   ·rcases List.mem_append.mp hc with hc | hc
    ·exact f1 _ hc
    ·exact back _ (f3 _ hc) (ne3 _ hc)
def TsP(H:Hp)(es:List Ent)(D:Addr)(i:Nat)(ys:List V)(σ1:St)(H':Hp):Prop:=∃C,TlL H (hide D H') C ys ((es.take i).map (·.t))/\C.Nodup/\∃v0,σ1= [v0]
def spTools(CG CT:Addr):Sp:=λvs H Q _=>∃(g dx dt:Addr) (x:V) (es:List Ent),vs= [.ref g]/\H g=some (.ins CG dx [("by_tool",.ref dt),("by_store",x)])/\H dt=some (.dK (kvE es))/\(∀e∈es,TlO CT H e.a e.d e.q e.t)/\es.length<=200/\
 ∀(r:Addr) (H':Hp) (vs:List V) (C:List Addr),H r=none->Same H H'->H' r=some (.lst vs)->TlL H (hide r H') C vs (es.map (·.t))->C.Nodup->Q (.ref r) H'
theorem ok_tools{CG CT:Addr}(D:MethAt K CG "tools" "Goods.tools" s_Goods_tools ["self"])(CL_Goods:Cls K CG)(N_Goods_by_tool:NoAttr K CG "by_tool")(G_told_tool:OkD P w K mg base 1 "told_tool" ["tool"] (spTold CT)):OkM P w K mg base 2 CG "tools" ["self"] (spTools CG CT):=by
 refine D.ok CL_Goods sc_Goods_tools (λvs H Q E h=>?_) (λf cdv A outer s H vs Q E hr h=>?_)
 ·obtain⟨_,_,_,_,_,rfl,_⟩:=h;rfl
 obtain⟨g,dx,dt,x,es,rfl,e1,e2,e3,b1,q⟩:=h
 have big:100000<=sizeLine:=by unfold sizeLine;decide
 have le:(kvE es).length=es.length:=by unfold kvE;rw [List.length_map]
 refine⟨_,(pss_one (ps_ret (pe_unf (pe_compN (comp_scopeN 1 (N:=["tool"]) (cap:=[]) rfl rfl rfl rfl (by decide +kernel) rfl rfl rfl) rfl (pi_vals (pe_fldG CL_Goods N_Goods_by_tool (pv 0))) (λ_ _ _ _=>(pg_name (i:=0) (show List.Nodup (α:=Str) ["tool"] by decide +kernel) rfl (Or.inl (lookup_relabel_local rfl)) (Or.inr (lookup_relabel_local rfl)))) (λ_ _ _ _=>pts_nil) (λ_ _ _ _=>(pe_def G_told_tool hr rfl (pa_c (pv 0) pa_nil))))))),?_⟩
 walk_at "r2"
 refine tcomp_in ?_
 simp only [iVals]
 walk_at "r2"
 intro o nf
 refine compJD over_vals (λH g=>g _ _ upd_same) (by rw [List.length_map];omega) (TsP H es) (λD H' _ _ _=>by unfold TsP;exact⟨[],.nil,List.nodup_nil,_,rfl⟩) ?_ ?_
 ·rintro D i x ys σ1 H1 hx at1 pv
  unfold TsP at pv
  obtain⟨C,tl,nC,v0,rfl⟩:=pv
  obtain⟨e,he,rfl⟩:∃e,es[i]? =some e/\V.ref e.a=x:=by
   unfold kvE at hx
   rw [List.map_map,List.getElem?_map] at hx
   cases z:es[i]? with
   | none=>rw [z] at hx;cases hx
   | some e=>rw [z] at hx;cases hx;exact⟨e,rfl,rfl⟩
  walk_at "rd"
  have t0:=e3 e (List.mem_of_getElem? he)
  have t1:TlO CT H1 e.a e.d e.q e.t:=t0.grow λc u hc hu=>at1.same _ _ (by
   rw [upd_ne (λz=>?_)]
   ·exact hu
   ·obtain⟨dx1,qs1,j1,j2,j3,_⟩:=t0
    rcases hc with rfl | rfl | rfl | ⟨xs,rfl⟩
    ·rw [z,e2] at j1;cases j1
    ·rw [z,e2] at j2
     have j4:kvE es=hk e.t.held:=HO.dK.inj (Option.some.inj j2)
     refine kv_int (held:=e.t.held) (i:=i) (nm:=e.name) (v:=.ref e.a) ?_
     rw [<-j4]
     unfold kvE
     rw [List.getElem?_map,he];rfl
    ·rw [z,e2] at j3;cases j3
    ·rw [z,e2] at hu;cases hu)
  refine⟨e.a,e.d,e.q,e.t,rfl,t1,λv H2 hd ph pq g2 td ne pm=>at1.put g2 λH3 mu=>?_⟩
  unfold TsP
  rw [take_snoc he,List.map_append]
  have fre:∀c,H1 c=none->H c=none:=λc hc=>by
   have:=at1.same.free hc
   by_cases z:c=dt
   ·rw [z,upd_same] at this;cases this
   ·rw [upd_ne z] at this;exact this
  refine⟨_,(tl.mono ((hide_same g2).trans (hide_mu mu))).snoc ((td.hid at1.lst (g2 _ _ at1.lst) fre).mono (hide_mu mu)) pm,?_,_,rfl⟩
  obtain⟨_,_,_,_,_,_,_,_,_,f1,f2⟩:=td
  exact nd_two nC (λc hc=>let ⟨xs,h⟩:=tl.has c hc;⟨xs,hide_le _ _ h⟩) f1 f2 ne
 ·rintro D ys σ1 H1 hD g1 hy hle pv
  unfold TsP at pv
  obtain⟨C,tl,nC,_⟩:=pv
  rw [List.length_map,le,List.take_of_length_le (Nat.le_refl _)] at tl
  have d1:H1 dt=some (.frz o (.dK (kvE es))):=g1 _ _ upd_same
  have nDd:D≠dt:=λz=>by rw [z,upd_same] at hD;cases hD
  have hD0:H D=none:=by rw [upd_ne nDd] at hD;exact hD
  refine⟨dt,nf,o,_,d1,?_⟩
  refine q D _ ys C hD0 (unfz e2 g1) (by rw [upd_ne nDd];exact hy) (tl.mono2 λc u ⟨xs,hx⟩ hc=>?_) nC
  have nD:=(hide_inv hc).1
  have hc:=hide_le _ _ hc
  refine hide_of nD ?_
  have nc:c≠dt:=λz=>by
   rw [z,d1] at hc
   rcases hx with rfl | rfl<;>cases hc
  rw [upd_ne nc]
  exact hc
def SsP(H:Hp)(es:List EntS)(D:Addr)(i:Nat)(ys:List V)(σ1:St)(H':Hp):Prop:=∃C,SlL H (hide D H') C ys ((es.take i).map (·.s))/\C.Nodup/\∃v0,σ1= [v0]
def spStores(CG CS:Addr):Sp:=λvs H Q _=>∃(g dx dt:Addr) (x:V) (es:List EntS),vs= [.ref g]/\H g=some (.ins CG dx [("by_tool",x),("by_store",.ref dt)])/\H dt=some (.dK (kvS es))/\(∀e∈es,StO CS H e.a e.g e.p e.s)/\es.length<=200/\
 ∀(r:Addr) (H':Hp) (vs:List V) (C:List Addr),H r=none->Same H H'->H' r=some (.lst vs)->SlL H (hide r H') C vs (es.map (·.s))->C.Nodup->Q (.ref r) H'
theorem ok_stores{CG CS:Addr}(D:MethAt K CG "stores" "Goods.stores" s_Goods_stores ["self"])(CL_Goods:Cls K CG)(N_Goods_by_store:NoAttr K CG "by_store")(G_told_store:OkD P w K mg base 1 "told_store" ["store"] (spToldS CS)):OkM P w K mg base 2 CG "stores" ["self"] (spStores CG CS):=by
 refine D.ok CL_Goods sc_Goods_stores (λvs H Q E h=>?_) (λf cdv A outer s H vs Q E hr h=>?_)
 ·obtain⟨_,_,_,_,_,rfl,_⟩:=h;rfl
 obtain⟨g,dx,dt,x,es,rfl,e1,e2,e3,b1,q⟩:=h
 have big:100000<=sizeLine:=by unfold sizeLine;decide
 have le:(kvS es).length=es.length:=by unfold kvS;rw [List.length_map]
 refine⟨_,(pss_one (ps_ret (pe_unf (pe_compN (comp_scopeN 1 (N:=["store"]) (cap:=[]) rfl rfl rfl rfl (by decide +kernel) rfl rfl rfl) rfl (pi_vals (pe_fldG CL_Goods N_Goods_by_store (pv 0))) (λ_ _ _ _=>(pg_name (i:=0) (show List.Nodup (α:=Str) ["store"] by decide +kernel) rfl (Or.inl (lookup_relabel_local rfl)) (Or.inr (lookup_relabel_local rfl)))) (λ_ _ _ _=>pts_nil) (λ_ _ _ _=>(pe_def G_told_store hr rfl (pa_c (pv 0) pa_nil))))))),?_⟩
 walk_at "r2"
 refine tcomp_in ?_
 simp only [iVals]
 walk_at "r2"
 intro o nf
 refine compJD over_vals (λH g=>g _ _ upd_same) (by rw [List.length_map];omega) (SsP H es) (λD H' _ _ _=>by unfold SsP;exact⟨[],.nil,List.nodup_nil,_,rfl⟩) ?_ ?_
 ·rintro D i x ys σ1 H1 hx at1 pv
  unfold SsP at pv
  obtain⟨C,tl,nC,v0,rfl⟩:=pv
  obtain⟨e,he,rfl⟩:∃e,es[i]? =some e/\V.ref e.a=x:=by
   unfold kvS at hx
   rw [List.map_map,List.getElem?_map] at hx
   cases z:es[i]? with
   | none=>rw [z] at hx;cases hx
   | some e=>rw [z] at hx;cases hx;exact⟨e,rfl,rfl⟩
  walk_at "rd"
  have t0:=e3 e (List.mem_of_getElem? he)
  have t1:StO CS H1 e.a e.g e.p e.s:=t0.grow λc u hc hu=>at1.same _ _ (by
   rw [upd_ne (λz=>?_)]
   ·exact hu
   ·obtain⟨dx1,gs1,ps1,j1,j2,_,j3,_⟩:=t0
    rcases hc with rfl | rfl | rfl | ⟨xs,rfl⟩
    ·rw [z,e2] at j1;cases j1
    ·rw [z,e2] at j2;cases j2
    ·rw [z,e2] at j3;cases j3
    ·rw [z,e2] at hu;cases hu)
  refine⟨e.a,e.g,e.p,e.s,rfl,t1,λv H2 ph pq g2 td ne=>at1.put g2 λH3 mu=>?_⟩
  unfold SsP
  rw [take_snoc he,List.map_append]
  have fre:∀c,H1 c=none->H c=none:=λc hc=>by
   have:=at1.same.free hc
   by_cases z:c=dt
   ·rw [z,upd_same] at this;cases this
   ·rw [upd_ne z] at this;exact this
  refine⟨_,(tl.mono ((hide_same g2).trans (hide_mu mu))).snoc ((td.hid at1.lst (g2 _ _ at1.lst) fre).mono (hide_mu mu)),?_,_,rfl⟩
  obtain⟨_,_,_,_,_,_,_,_,_,f1,f2⟩:=td
  exact nd_two nC (λc hc=>let ⟨xs,h⟩:=tl.has c hc;⟨xs,hide_le _ _ h⟩) f1 f2 ne
 ·rintro D ys σ1 H1 hD g1 hy hle pv
  unfold SsP at pv
  obtain⟨C,tl,nC,_⟩:=pv
  rw [List.length_map,le,List.take_of_length_le (Nat.le_refl _)] at tl
  have d1:H1 dt=some (.frz o (.dK (kvS es))):=g1 _ _ upd_same
  have nDd:D≠dt:=λz=>by rw [z,upd_same] at hD;cases hD
  have hD0:H D=none:=by rw [upd_ne nDd] at hD;exact hD
  refine⟨dt,nf,o,_,d1,?_⟩
  refine q D _ ys C hD0 (unfz e2 g1) (by rw [upd_ne nDd];exact hy) (tl.mono2 λc u ⟨xs,hx⟩ hc=>?_) nC
  have nD:=(hide_inv hc).1
  have hc:=hide_le _ _ hc
  refine hide_of nD ?_
  have nc:c≠dt:=λz=>by
   rw [z,d1] at hc
   rcases hx with rfl | rfl<;>cases hc
  rw [upd_ne nc]
  exact hc
end
end K21
namespace K21
open PySem L2
theorem nd_mid{α:Type}{A B C:List α}(nd:(A++(B++C)).Nodup):∀x,x∈A++C->x∉B:=λx hx hb=>by
 rw [List.nodup_append] at nd
 obtain⟨_,n2,n3⟩:=nd
 rcases List.mem_append.mp hx with hx | hx
 ·exact n3 x hx x (List.mem_append_left _ hb) rfl
 ·rw [List.nodup_append] at n2
  exact n2.2.2 x hb x hx rfl
def FrG(cs:List Addr)(H H':Hp):Prop:=∀c u,c∉cs->H c=some u->H' c=some u
theorem FrG.refl{cs:List Addr}{H:Hp}:FrG cs H H:=λ_ _ _ h=>h
theorem FrG.trans{cs:List Addr}{H H' H'':Hp}(f:FrG cs H H')(f':FrG cs H' H''):FrG cs H H'':=λc u n h=>f' c u n (f c u n h)
theorem FrG.same{cs:List Addr}{H H' H'':Hp}(f:FrG cs H H')(f':Same H' H''):FrG cs H H'':=λc u n h=>f' c u (f c u n h)
theorem Fr3.g{cs:List Addr}{a d q:Addr}{H H':Hp}(f:Fr3 a d q H H')(h1:a∈cs)(h2:d∈cs)(h3:q∈cs):FrG cs H H':=λc u n h=>f c u (λz=>n (z▸h1)) (λz=>n (z▸h2)) (λz=>n (z▸h3)) h
theorem GoA.same{CG CT CS:Addr}{H H':Hp}{g dt ds:Addr}{es:List Ent}{ss:List EntS}(k:Same H H')(G:GoA CG CT CS H g dt ds es ss):GoA CG CT CS H' g dt ds es ss:=by
 obtain⟨⟨dx,h1⟩,h2,h3,h4,h5,h6⟩:=G
 exact⟨⟨dx,k _ _ h1⟩,k _ _ h2,k _ _ h3,λe he=>(h4 e he).same k,λe he=>(h5 e he).same k,h6⟩
theorem adE_mid{l1 l2:List Ent}{e:Ent}:adE (l1++e::l2)=adE l1++([e.a,e.d,e.q]++adE l2):=by
 unfold adE
 rw [List.flatMap_append,List.flatMap_cons]
theorem adS_mid{l1 l2:List EntS}{e:EntS}:adS (l1++e::l2)=adS l1++([e.a,e.g,e.p]++adS l2):=by
 unfold adS
 rw [List.flatMap_append,List.flatMap_cons]
theorem in_adE{es:List Ent}{e:Ent}(h:e∈es):e.a∈adE es/\e.d∈adE es/\e.q∈adE es:=⟨List.mem_flatMap.mpr ⟨e,h,by simp⟩,List.mem_flatMap.mpr ⟨e,h,by simp⟩,List.mem_flatMap.mpr ⟨e,h,by simp⟩⟩
theorem in_adS{es:List EntS}{e:EntS}(h:e∈es):e.a∈adS es/\e.g∈adS es/\e.p∈adS es:=⟨List.mem_flatMap.mpr ⟨e,h,by simp⟩,List.mem_flatMap.mpr ⟨e,h,by simp⟩,List.mem_flatMap.mpr ⟨e,h,by simp⟩⟩
theorem GoA.tool{CG CT CS:Addr}{H H':Hp}{g dt ds:Addr}{l1 l2:List Ent}{e:Ent}{ss:List EntS}{t:TS}(G:GoA CG CT CS H g dt ds (l1++e::l2) ss)(f:Fr3 e.a e.d e.q H H')(h:TlO CT H' e.a e.d e.q t):GoA CG CT CS H' g dt ds (l1++{e with t:=t}::l2) ss:=by
 obtain⟨⟨dx,h1⟩,h2,h3,h4,h5,nd,n1,n2⟩:=G
 have tl:=h4 e (List.mem_append_right _ List.mem_cons_self)
 have nd0:=nd
 rw [adE_mid] at nd
 have nd':((g::dt::ds::adE l1)++([e.a,e.d,e.q]++(adE l2++adS ss))).Nodup:=by
  have e1:(g::dt::ds::adE l1)++([e.a,e.d,e.q]++(adE l2++adS ss))=g::dt::ds::((adE l1++([e.a,e.d,e.q]++adE l2))++adS ss):=by simp [List.append_assoc]
  rw [e1];exact nd
 have keep:∀c u,c∈(g::dt::ds::adE l1)++(adE l2++adS ss)->H c=some u->H' c=some u:=λc u hc hu=>by
  have n:=nd_mid nd' c hc
  exact f c u (λz=>n (by rw [z];simp)) (λz=>n (by rw [z];simp)) (λz=>n (by rw [z];simp)) hu
 have kt:=tl.kt f
 have mE:∀c,c∈adE l1\/c∈adE l2\/c∈adS ss->c∈(g::dt::ds::adE l1)++(adE l2++adS ss):=λc hc=>by
  rcases hc with hc | hc | hc
  ·exact List.mem_append_left _ (List.mem_cons_of_mem _ (List.mem_cons_of_mem _ (List.mem_cons_of_mem _ hc)))
  ·exact List.mem_append_right _ (List.mem_append_left _ hc)
  ·exact List.mem_append_right _ (List.mem_append_right _ hc)
 have other:∀e':Ent,(∀c,c=e'.a\/c=e'.d\/c=e'.q->c∈(g::dt::ds::adE l1)++(adE l2++adS ss))->TlO CT H e'.a e'.d e'.q e'.t->TlO CT H' e'.a e'.d e'.q e'.t:=λe' hm tl'=>tl'.grow λc u hc hu=>by
  rcases hc with hc | hc | hc | ⟨xs,rfl⟩
  ·exact keep c u (hm c (.inl hc)) hu
  ·exact keep c u (hm c (.inr (.inl hc))) hu
  ·exact keep c u (hm c (.inr (.inr hc))) hu
  ·exact kt c xs hu
 have ek:kvE (l1++{e with t:=t}::l2)=kvE (l1++e::l2):=by unfold kvE;rw [List.map_append,List.map_append,List.map_cons,List.map_cons]
 refine⟨⟨dx,keep g _ (by simp) h1⟩,by rw [ek];exact keep dt _ (by simp) h2,keep ds _ (by simp) h3,λe' he'=>?_,λe' he'=>?_,?_,?_,n2⟩
 ·rcases List.mem_append.mp he' with hm | hm
  ·have i1:=in_adE hm
   refine other e' (λc hc=>mE c (.inl ?_)) (h4 e' (List.mem_append_left _ hm))
   rcases hc with rfl | rfl | rfl
   ·exact i1.1
   ·exact i1.2.1
   ·exact i1.2.2
  ·rcases List.mem_cons.mp hm with rfl | hm
   ·exact h
   ·have i1:=in_adE hm
    refine other e' (λc hc=>mE c (.inr (.inl ?_))) (h4 e' (List.mem_append_right _ (List.mem_cons_of_mem _ hm)))
    rcases hc with rfl | rfl | rfl
    ·exact i1.1
    ·exact i1.2.1
    ·exact i1.2.2
 ·have i1:=in_adS he'
  refine(h5 e' he').grow λc u hc hu=>?_
  rcases hc with rfl | rfl | rfl | ⟨xs,rfl⟩
  ·exact keep _ u (mE _ (.inr (.inr i1.1))) hu
  ·exact keep _ u (mE _ (.inr (.inr i1.2.1))) hu
  ·exact keep _ u (mE _ (.inr (.inr i1.2.2))) hu
  ·exact kt c xs hu
 ·rw [adE_mid];exact nd
 ·rw [List.map_append,List.map_cons] at n1⊢;exact n1
theorem GoA.store{CG CT CS:Addr}{H H':Hp}{g dt ds:Addr}{es:List Ent}{l1 l2:List EntS}{e:EntS}{s:SS}(G:GoA CG CT CS H g dt ds es (l1++e::l2))(f:Fr3 e.a e.g e.p H H')(h:StO CS H' e.a e.g e.p s):GoA CG CT CS H' g dt ds es (l1++{e with s:=s}::l2):=by
 obtain⟨⟨dx,h1⟩,h2,h3,h4,h5,nd,n1,n2⟩:=G
 have tl:=h5 e (List.mem_append_right _ List.mem_cons_self)
 rw [adS_mid] at nd
 have nd':((g::dt::ds::(adE es++adS l1))++([e.a,e.g,e.p]++adS l2)).Nodup:=by
  have e1:(g::dt::ds::(adE es++adS l1))++([e.a,e.g,e.p]++adS l2)=g::dt::ds::(adE es++(adS l1++([e.a,e.g,e.p]++adS l2))):=by simp [List.append_assoc]
  rw [e1];exact nd
 have keep:∀c u,c∈(g::dt::ds::(adE es++adS l1))++adS l2->H c=some u->H' c=some u:=λc u hc hu=>by
  have n:=nd_mid nd' c hc
  exact f c u (λz=>n (by rw [z];simp)) (λz=>n (by rw [z];simp)) (λz=>n (by rw [z];simp)) hu
 have kt:∀c xs,H c=some (.tup xs)->H' c=some (.tup xs):=λc xs hc=>f c _ (tl.ne c xs hc).1 (tl.ne c xs hc).2.1 (tl.ne c xs hc).2.2 hc
 have mE:∀c,c∈adE es\/c∈adS l1\/c∈adS l2->c∈(g::dt::ds::(adE es++adS l1))++adS l2:=λc hc=>by
  rcases hc with hc | hc | hc
  ·exact List.mem_append_left _ (List.mem_cons_of_mem _ (List.mem_cons_of_mem _ (List.mem_cons_of_mem _ (List.mem_append_left _ hc))))
  ·exact List.mem_append_left _ (List.mem_cons_of_mem _ (List.mem_cons_of_mem _ (List.mem_cons_of_mem _ (List.mem_append_right _ hc))))
  ·exact List.mem_append_right _ hc
 have other:∀e':EntS,(∀c,c=e'.a\/c=e'.g\/c=e'.p->c∈(g::dt::ds::(adE es++adS l1))++adS l2)->StO CS H e'.a e'.g e'.p e'.s->StO CS H' e'.a e'.g e'.p e'.s:=λe' hm tl'=>tl'.grow λc u hc hu=>by
  rcases hc with hc | hc | hc | ⟨xs,rfl⟩
  ·exact keep c u (hm c (.inl hc)) hu
  ·exact keep c u (hm c (.inr (.inl hc))) hu
  ·exact keep c u (hm c (.inr (.inr hc))) hu
  ·exact kt c xs hu
 have ek:kvS (l1++{e with s:=s}::l2)=kvS (l1++e::l2):=by unfold kvS;rw [List.map_append,List.map_append,List.map_cons,List.map_cons]
 refine⟨⟨dx,keep g _ (by simp) h1⟩,keep dt _ (by simp) h2,by rw [ek];exact keep ds _ (by simp) h3,λe' he'=>?_,λe' he'=>?_,?_,n1,?_⟩
 ·have i1:=in_adE he'
  refine(h4 e' he').grow λc u hc hu=>?_
  rcases hc with rfl | rfl | rfl | ⟨xs,rfl⟩
  ·exact keep _ u (mE _ (.inl i1.1)) hu
  ·exact keep _ u (mE _ (.inl i1.2.1)) hu
  ·exact keep _ u (mE _ (.inl i1.2.2)) hu
  ·exact kt c xs hu
 ·rcases List.mem_append.mp he' with hm | hm
  ·have i1:=in_adS hm
   refine other e' (λc hc=>mE c (.inr (.inl ?_))) (h5 e' (List.mem_append_left _ hm))
   rcases hc with rfl | rfl | rfl
   ·exact i1.1
   ·exact i1.2.1
   ·exact i1.2.2
  ·rcases List.mem_cons.mp hm with rfl | hm
   ·exact h
   ·have i1:=in_adS hm
    refine other e' (λc hc=>mE c (.inr (.inr ?_))) (h5 e' (List.mem_append_right _ (List.mem_cons_of_mem _ hm)))
    rcases hc with rfl | rfl | rfl
    ·exact i1.1
    ·exact i1.2.1
    ·exact i1.2.2
 ·rw [adS_mid];exact nd
 ·rw [List.map_append,List.map_cons] at n2⊢;exact n2
theorem val_kvE:∀{l1 l2:List Ent} {e:Ent},((l1++e::l2).map (·.name)).Nodup->valV (kvE (l1++e::l2)) (Sum.inr e.name)=some (.ref e.a)
 | [],l2,e,_=>valV_pos rfl
 | x::l1,l2,e,nd=>by
  rw [List.cons_append,List.map_cons,List.nodup_cons] at nd
  have ne:x.name≠e.name:=λz=>nd.1 (z▸List.mem_map_of_mem (List.mem_append_right _ List.mem_cons_self))
  unfold kvE
  rw [List.cons_append,List.map_cons,valV_neg (λz=>ne (Sum.inr.inj z))]
  exact val_kvE nd.2
theorem val_kvS:∀{l1 l2:List EntS} {e:EntS},((l1++e::l2).map (·.name)).Nodup->valV (kvS (l1++e::l2)) (Sum.inr e.name)=some (.ref e.a)
 | [],l2,e,_=>valV_pos rfl
 | x::l1,l2,e,nd=>by
  rw [List.cons_append,List.map_cons,List.nodup_cons] at nd
  have ne:x.name≠e.name:=λz=>nd.1 (z▸List.mem_map_of_mem (List.mem_append_right _ List.mem_cons_self))
  unfold kvS
  rw [List.cons_append,List.map_cons,valV_neg (λz=>ne (Sum.inr.inj z))]
  exact val_kvS nd.2
theorem go_take{CG CT CS:Addr}{H:Hp}{g dt ds:Addr}{l1 l2:List Ent}{e:Ent}{ss:List EntS}{h n:Int}{Kx:VK}{E:XK}(G:GoA CG CT CS H g dt ds (l1++e::l2) ss)(hh:h∈hs)(hq:e.t.que.length<200)(k:∀H',FrG (adE (l1++e::l2)) H H'->GoA CG CT CS H' g dt ds (l1++{e with t:=(takeS e.t h n).2}::l2) ss->Kx (.bl (takeS e.t h n).1) H'):spTake CG CT [.ref g,.int h,.str e.name,.int n] H Kx E:=by
 obtain⟨⟨dx,h1⟩,h2,h3,h4,h5,nd,n1,n2⟩:=id G
 have me:e∈l1++e::l2:=List.mem_append_right _ List.mem_cons_self
 have i1:=in_adE me
 exact⟨g,dx,dt,e.a,e.d,e.q,_,_,e.name,h,n,e.t,rfl,h1,h2,val_kvE n1,h4 e me,hh,hq,λH' f t'=>k H' (f.g i1.1 i1.2.1 i1.2.2) (G.tool f t')⟩
theorem go_give{CG CT CS:Addr}{H:Hp}{g dt ds:Addr}{l1 l2:List Ent}{e:Ent}{ss:List EntS}{h n:Int}{Kx:VK}{E:XK}(G:GoA CG CT CS H g dt ds (l1++e::l2) ss)(hh:h∈hs)(k:∀H' p r sv,FrG (adE (l1++e::l2)) H H'->H r=none->H' p=some (.tup [.int (giv e.t h n),.ref r])->H' r=some (.lst sv)->Svd "takes" H' sv (giveS e.t h n).1->GoA CG CT CS H' g dt ds (l1++{e with t:=(giveS e.t h n).2}::l2) ss->Kx (.ref p) H'):spGive CG CT [.ref g,.int h,.str e.name,.int n] H Kx E:=by
 obtain⟨⟨dx,h1⟩,h2,h3,h4,h5,nd,n1,n2⟩:=id G
 have me:e∈l1++e::l2:=List.mem_append_right _ List.mem_cons_self
 have i1:=in_adE me
 exact⟨g,dx,dt,e.a,e.d,e.q,_,_,e.name,h,n,e.t,rfl,h1,h2,val_kvE n1,h4 e me,hh,λH' p r sv f hr hp hl sd t'=>k H' p r sv (f.g i1.1 i1.2.1 i1.2.2) hr hp hl sd (G.tool f t')⟩
theorem go_put{CG CT CS:Addr}{H:Hp}{g dt ds:Addr}{es:List Ent}{l1 l2:List EntS}{e:EntS}{h n:Int}{Kx:VK}{E:XK}(G:GoA CG CT CS H g dt ds es (l1++e::l2))(hg:e.s.gets.length<200)(hp:e.s.puts.length<200)(k:∀H' p r sv b its s',FrG (adS (l1++e::l2)) H H'->H r=none->H' p=some (.tup [.bl b,.ref r])->H' r=some (.lst sv)->Sv3 H' sv its->GoA CG CT CS H' g dt ds es (l1++{e with s:=s'}::l2)->PutR e.s h n b its s'->Kx (.ref p) H'):spPut CG CS [.ref g,.int h,.str e.name,.int n] H Kx E:=by
 obtain⟨⟨dx,h1⟩,h2,h3,h4,h5,nd,n1,n2⟩:=id G
 have me:e∈l1++e::l2:=List.mem_append_right _ List.mem_cons_self
 have i1:=in_adS me
 exact⟨g,dx,ds,e.a,e.g,e.p,_,_,e.name,h,n,e.s,rfl,h1,h3,val_kvS n2,h5 e me,hg,hp,λH' p r sv b its s' f hr hp hl sd t' pr=>k H' p r sv b its s' (f.g i1.1 i1.2.1 i1.2.2) hr hp hl sd (G.store f t') pr⟩
theorem go_get{CG CT CS:Addr}{H:Hp}{g dt ds:Addr}{es:List Ent}{l1 l2:List EntS}{e:EntS}{h n:Int}{Kx:VK}{E:XK}(G:GoA CG CT CS H g dt ds es (l1++e::l2))(hg:e.s.gets.length<200)(hp:e.s.puts.length<200)(k:∀H' p r sv b its s',FrG (adS (l1++e::l2)) H H'->H r=none->H' p=some (.tup [.bl b,.ref r])->H' r=some (.lst sv)->Sv3 H' sv its->GoA CG CT CS H' g dt ds es (l1++{e with s:=s'}::l2)->GetR e.s h n b its s'->Kx (.ref p) H'):spGet CG CS [.ref g,.int h,.str e.name,.int n] H Kx E:=by
 obtain⟨⟨dx,h1⟩,h2,h3,h4,h5,nd,n1,n2⟩:=id G
 have me:e∈l1++e::l2:=List.mem_append_right _ List.mem_cons_self
 have i1:=in_adS me
 exact⟨g,dx,ds,e.a,e.g,e.p,_,_,e.name,h,n,e.s,rfl,h1,h3,val_kvS n2,h5 e me,hg,hp,λH' p r sv b its s' f hr hp hl sd t' pr=>k H' p r sv b its s' (f.g i1.1 i1.2.1 i1.2.2) hr hp hl sd (G.store f t') pr⟩
section
variable{P:Program}{w:World}{K:PySem.W.Frag}{mg:Str->Option Value}{base:Heap}
def brg(s:SS)(n:Int):Int:=if (if s.most-s.level<n then s.most-s.level else n)>0 then (if s.most-s.level<n then s.most-s.level else n) else 0
def spBring(CG CS:Addr):Sp:=λvs H Q _=>∃(g dx ds a gg pp:Addr) (x:V) (kv:List (Key×V)) (nm:Str) (n:Int) (s:SS),vs= [.ref g,.str nm,.int n]/\H g=some (.ins CG dx [("by_tool",x),("by_store",.ref ds)])/\H ds=some (.dK kv)/\valV kv (Sum.inr nm)=some (.ref a)/\StO CS H a gg pp s/\
 ∀(H':Hp) (p r:Addr) (sv:List V) (b:Int) (its:List (Int×Bool×Int)) (s':SS),Fr3 a gg pp H H'->H r=none->H' p=some (.tup [.int b,.ref r])->H' r=some (.lst sv)->Sv3 H' sv its->StO CS H' a gg pp s'->b=brg s n->0<=b->(b<=n\/b=0)->(b<=s.most-s.level\/b=0)->Sbt ⟨s.level+b,s.most,s.gets,s.puts⟩ its s'->Q (.ref p) H'
theorem ok_bring{CG CS:Addr}(D:MethAt K CG "bring" "Goods.bring" s_Goods_bring ["self","name","n"])(CL_Goods:Cls K CG)(N_Goods_by_store:NoAttr K CG "by_store")(CL_Store:Cls K CS)(N_Store_level:NoAttr K CS "level")(N_Store_most:NoAttr K CS "most")(G_serve_by_turns:OkD P w K mg base 1 "serve_by_turns" ["store"] (spTurns CS))(hmin:mg "min" =none)(hmax:mg "max" =none):OkM P w K mg base 2 CG "bring" ["self","name","n"] (spBring CG CS):=by
 refine D.ok CL_Goods sc_Goods_bring (λvs H Q E h=>?_) (λf cdv A outer s H vs Q E hr h=>?_)
 ·obtain⟨_,_,_,_,_,_,_,_,_,_,_,rfl,_⟩:=h;rfl
 obtain⟨g,dx,ds,a,gg,pp,x,kv,nm,n,ss,rfl,e1,e2,e3,tl,q⟩:=h
 have hu:=hu_of hr
 obtain⟨dx',gs,ps,k1,k2,k3,k4,k5,k6,k7,k8⟩:=id tl
 have nag:gg≠a:=λz=>by rw [z,k1] at k2;cases k2
 have nap:pp≠a:=λz=>by rw [z,k1] at k4;cases k4
 refine⟨_,(pss_cons (ps_set (i:=3) sc_Goods_bring.nd rfl (Or.inl rfl) (pe_dgetG hu (pe_fldG CL_Goods N_Goods_by_store (pv 0)) (pv 1) (λ_ _=>rfl)))
 (pss_cons (ps_set (i:=4) sc_Goods_bring.nd rfl (Or.inl rfl) (pe_cB (call_max2 rfl) rfl hmax (by decide +kernel) (pa_c pe_int (pa_c (pe_cB (call_min2 rfl) rfl hmin (by decide +kernel) (pa_c (pv 2) (pa_c (pe_op op_sub (pe_fldG CL_Store N_Store_most (pv 3)) (pe_fldG CL_Store N_Store_level (pv 3))) pa_nil))) pa_nil))))
 (pss_cons (ps_fldG CL_Store N_Store_level (pv 3) (pe_op op_add (pe_fldG CL_Store N_Store_level (pv 3)) (pv 4)))
 (pss_one (ps_ret (pe_tupG (pa_c (pv 4) (pa_c (pe_def G_serve_by_turns hr rfl (pa_c (pv 3) pa_nil)) pa_nil)))))))),?_⟩
 walk_at "rd"
 have hb:∃b:Int,(if (if ss.most-ss.level<n then ss.most-ss.level else n)>0 then (if ss.most-ss.level<n then ss.most-ss.level else n) else 0)=b/\0<=b/\(b<=n\/b=0)/\(b<=ss.most-ss.level\/b=0):=by
  refine⟨_,rfl,?_,?_,?_⟩<;>split<;>(try split)<;>omega
 obtain⟨b,eb,b0,b1,b2⟩:=hb
 rw [eb]
 intro H1 m1
 have kt:∀c xs,H c=some (.tup xs)->H1 c=some (.tup xs):=λc xs hc=>m1.old hc (tl.ne c xs hc).1
 have t1:StO CS H1 a gg pp ⟨ss.level+b,ss.most,ss.gets,ss.puts⟩:=⟨dx',gs,ps,m1.at_,m1.old k2 nag,k3.mono kt,m1.old k4 nap,k5.mono kt,k6,k7,k8⟩
 refine⟨a,gg,pp,⟨ss.level+b,ss.most,ss.gets,ss.puts⟩,rfl,t1,λr H2 sv its s' hr2 f2 h2 sd t2 sb=>?_⟩
 intro p H3 hp g3 h3
 have nra:r≠a:=(ne_of_none m1.at_ hr2).symm
 have hr0:H r=none:=by rw [<-m1.else_ r nra];exact hr2
 exact q H3 p r sv b its s' (λc u n1 n2 n3 hc=>g3 _ _ (f2 c u n1 n2 n3 (m1.old hc n1))) hr0 h3 (g3 _ _ h2) (sd.mono λc xs hc=>g3 _ _ hc) (t2.same g3) (by unfold brg;exact eb.symm) b0 b1 b2 sb
theorem go_bring{CG CT CS:Addr}{H:Hp}{g dt ds:Addr}{es:List Ent}{l1 l2:List EntS}{e:EntS}{n:Int}{Kx:VK}{E:XK}(G:GoA CG CT CS H g dt ds es (l1++e::l2))(k:∀H' p r sv b its s',FrG (adS (l1++e::l2)) H H'->H r=none->H' p=some (.tup [.int b,.ref r])->H' r=some (.lst sv)->Sv3 H' sv its->GoA CG CT CS H' g dt ds es (l1++{e with s:=s'}::l2)->b=brg e.s n->0<=b->(b<=n\/b=0)->(b<=e.s.most-e.s.level\/b=0)->Sbt ⟨e.s.level+b,e.s.most,e.s.gets,e.s.puts⟩ its s'->Kx (.ref p) H'):spBring CG CS [.ref g,.str e.name,.int n] H Kx E:=by
 obtain⟨⟨dx,h1⟩,h2,h3,h4,h5,nd,n1,n2⟩:=id G
 have me:e∈l1++e::l2:=List.mem_append_right _ List.mem_cons_self
 have i1:=in_adS me
 exact⟨g,dx,ds,e.a,e.g,e.p,_,_,e.name,n,e.s,rfl,h1,h3,val_kvS n2,h5 e me,λH' p r sv b its s' f hr hp hl sd t' eb b0 b1 b2 pr=>k H' p r sv b its s' (f.g i1.1 i1.2.1 i1.2.2) hr hp hl sd (G.store f t') eb b0 b1 b2 pr⟩
end
end K21
namespace K21
open PySem L2
def lv1(h:Int)(e:Ent):Ent:=if 0<getI e.t.held h then {e with t:=(giveS e.t h (getI e.t.held h)).2} else e
def lvI(h:Int)(e:Ent):Option (Str×Int×List (Int×Int)):=if 0<getI e.t.held h then some (e.name,getI e.t.held h,(giveS e.t h (getI e.t.held h)).1) else none
theorem lv1_name{h:Int}{e:Ent}:(lv1 h e).name=e.name/\(lv1 h e).a=e.a/\(lv1 h e).d=e.d/\(lv1 h e).q=e.q/\(lv1 h e).c=e.c:=by
 unfold lv1
 split<;>exact⟨rfl,rfl,rfl,rfl,rfl⟩
theorem giv_self{t:TS}{h:Int}:giv t h (getI t.held h)=getI t.held h:=by unfold giv;split<;>rfl
inductive LvL (bad:List Addr) (H0 H:Hp):List Addr->List V->List (Str×Int×List (Int×Int))->Prop
 | nil:LvL bad H0 H [] [] []
 | cons {p r:Addr} {nm:Str} {b:Int} {C:List Addr} {sv vs:List V} {its:List (Int×Int)} {l:List (Str×Int×List (Int×Int))}:H p=some (.tup [.str nm,.int b,.ref r])->H r=some (.lst sv)->r∉bad->H0 r=none->Svd "takes" H sv its->LvL bad H0 H C vs l->LvL bad H0 H (r::C) (.ref p::vs) ((nm,b,its)::l)
theorem LvL.mono{bad:List Addr}{H0 H H':Hp}(g:∀c xs,H c=some (.tup xs)->H' c=some (.tup xs))(g2:∀c xs,c∉bad->H c=some (.lst xs)->H' c=some (.lst xs)){C:List Addr}{vs:List V}{l:List (Str×Int×List (Int×Int))}(t:LvL bad H0 H C vs l):LvL bad H0 H' C vs l:=by
 induction t with
 | nil=>exact .nil
 | cons h1 h2 h3 h0 h4 _ ih=>exact .cons (g _ _ h1) (g2 _ _ h3 h2) h3 h0 (h4.mono g) ih
theorem LvL.snoc{bad:List Addr}{H0 H:Hp}{p r:Addr}{nm:Str}{b:Int}{sv:List V}{its:List (Int×Int)}(h1:H p=some (.tup [.str nm,.int b,.ref r]))(h2:H r=some (.lst sv))(h3:r∉bad)(h0:H0 r=none)(h4:Svd "takes" H sv its){C:List Addr}{vs:List V}{l:List (Str×Int×List (Int×Int))}(t:LvL bad H0 H C vs l):LvL bad H0 H (C++[r]) (vs++[.ref p]) (l++[(nm,b,its)]):=by
 induction t with
 | nil=>exact .cons h1 h2 h3 h0 h4 .nil
 | cons k1 k2 k3 k0 k4 _ ih=>exact .cons k1 k2 k3 k0 k4 ih
theorem LvL.has{bad:List Addr}{H0 H:Hp}{C:List Addr}{vs:List V}{l:List (Str×Int×List (Int×Int))}(t:LvL bad H0 H C vs l):∀c∈C,(∃xs,H c=some (.lst xs))/\H0 c=none/\c∉bad:=by
 induction t with
 | nil=>exact λc hc=>absurd hc List.not_mem_nil
 | cons _ h2 h3 h0 _ _ ih=>
  intro c hc
  rcases List.mem_cons.mp hc with rfl | hc
  ·exact⟨⟨_,h2⟩,h0,h3⟩
  ·exact ih c hc
theorem LvL.length{bad:List Addr}{H0 H:Hp}{C:List Addr}{vs:List V}{l:List (Str×Int×List (Int×Int))}(t:LvL bad H0 H C vs l):vs.length=l.length:=by
 induction t with
 | nil=>rfl
 | cons _ _ _ _ _ _ ih=>rw [List.length_cons,List.length_cons,ih]
theorem GoA.kt{CG CT CS:Addr}{H H':Hp}{g dt ds:Addr}{es:List Ent}{ss:List EntS}(G:GoA CG CT CS H g dt ds es ss)(f:FrG (adE es) H H'):∀c xs,H c=some (.tup xs)->H' c=some (.tup xs):=λc xs hc=>f c _ (λz=>by
 obtain⟨_,_,_,h4,_⟩:=G
 obtain⟨e,he,z⟩:=adE_mem z
 have:=(h4 e he).ne c xs hc
 rcases z with rfl | rfl | rfl
 ·exact this.1 rfl
 ·exact this.2.1 rfl
 ·exact this.2.2 rfl) hc
theorem GoA.has{CG CT CS:Addr}{H:Hp}{g dt ds:Addr}{es:List Ent}{ss:List EntS}(G:GoA CG CT CS H g dt ds es ss):∀c∈g::dt::ds::(adE es++adS ss),∃u,H c=some u:=λc hc=>by
 obtain⟨⟨dx,h1⟩,h2,h3,h4,h5,_⟩:=G
 rcases List.mem_cons.mp hc with rfl | hc
 ·exact⟨_,h1⟩
 rcases List.mem_cons.mp hc with rfl | hc
 ·exact⟨_,h2⟩
 rcases List.mem_cons.mp hc with rfl | hc
 ·exact⟨_,h3⟩
 rcases List.mem_append.mp hc with hc | hc
 ·exact adE_has h4 c hc
 ·exact adS_has h5 c hc
theorem GoA.grow{CG CT CS:Addr}{H H':Hp}{g dt ds:Addr}{es:List Ent}{ss:List EntS}(G:GoA CG CT CS H g dt ds es ss)(k:∀c u,(c∈g::dt::ds::(adE es++adS ss)\/∃xs,u=HO.tup xs)->H c=some u->H' c=some u):GoA CG CT CS H' g dt ds es ss:=by
 obtain⟨⟨dx,h1⟩,h2,h3,h4,h5,h6⟩:=G
 have mE:∀{c},c∈adE es->c∈g::dt::ds::(adE es++adS ss):=λh=>List.mem_cons_of_mem _ (List.mem_cons_of_mem _ (List.mem_cons_of_mem _ (List.mem_append_left _ h)))
 have mS:∀{c},c∈adS ss->c∈g::dt::ds::(adE es++adS ss):=λh=>List.mem_cons_of_mem _ (List.mem_cons_of_mem _ (List.mem_cons_of_mem _ (List.mem_append_right _ h)))
 refine⟨⟨dx,k _ _ (.inl (by simp)) h1⟩,k _ _ (.inl (by simp)) h2,k _ _ (.inl (by simp)) h3,λe he=>(h4 e he).grow λc u hc hu=>k c u ?_ hu,λe he=>(h5 e he).grow λc u hc hu=>k c u ?_ hu,h6⟩
 ·have i1:=in_adE he
  rcases hc with rfl | rfl | rfl | hc
  ·exact .inl (mE i1.1)
  ·exact .inl (mE i1.2.1)
  ·exact .inl (mE i1.2.2)
  ·exact .inr hc
 ·have i1:=in_adS he
  rcases hc with rfl | rfl | rfl | hc
  ·exact .inl (mS i1.1)
  ·exact .inl (mS i1.2.1)
  ·exact .inl (mS i1.2.2)
  ·exact .inr hc
theorem adE_map{h:Int}:∀es:List Ent,adE (es.map (lv1 h))=adE es
 | []=>rfl
 | e::es=>by
  obtain⟨_,h1,h2,h3,_⟩:=lv1_name (h:=h) (e:=e)
  have:=adE_map (h:=h) es
  unfold adE at this⊢
  rw [List.map_cons,List.flatMap_cons,List.flatMap_cons,this,h1,h2,h3]
theorem adE_app{l1 l2:List Ent}:adE (l1++l2)=adE l1++adE l2:=by unfold adE;rw [List.flatMap_append]
section
variable{P:Program}{w:World}{K:PySem.W.Frag}{mg:Str->Option Value}{base:Heap}
def LeI(CG CT CS g dt ds lf:Addr)(h:Int)(es:List Ent)(ss:List EntS)(H:Hp)(i:Nat)(σ:St)(H':Hp):Prop:=∃(vs:List V) (C:List Addr) (v3 v4 v5 v6:Option V),σ= [some (.ref g),some (.int h),some (.ref lf),v3,v4,v5,v6]/\FrG (adE es) H H'/\GoA CG CT CS H' g dt ds ((es.take i).map (lv1 h)++es.drop i) ss/\H' lf=some (.lst vs)/\LvL (lf::adE es) H H' C vs ((es.take i).filterMap (lvI h))/\C.Nodup
def spLeave(CG CT CS:Addr):Sp:=λvs H Q _=>∃(g dt ds:Addr) (es:List Ent) (ss:List EntS) (h:Int),vs= [.ref g,.int h]/\GoA CG CT CS H g dt ds es ss/\h∈hs/\es.length<=10/\
 ∀(H':Hp) (lf:Addr) (vs:List V) (C:List Addr),FrG (adE es) H H'->H lf=none->GoA CG CT CS H' g dt ds (es.map (lv1 h)) ss->H' lf=some (.lst vs)->LvL (lf::adE es) H H' C vs (es.filterMap (lvI h))->C.Nodup->Q (.ref lf) H'
theorem ok_leave{CG CT CS:Addr}(D:MethAt K CG "leave" "Goods.leave" s_Goods_leave ["self","hand"])(CL_Goods:Cls K CG)(N_Goods_by_tool:NoAttr K CG "by_tool")(CL_Tool:Cls K CT)(N_Tool_held:NoAttr K CT "held")(G_Goods_give:OkM P w K mg base 3 CG "give" ["self","hand","name","n"] (spGive CG CT))(hlist:mg "list" =none):OkM P w K mg base 4 CG "leave" ["self","hand"] (spLeave CG CT CS):=by
 refine D.ok CL_Goods sc_Goods_leave (λvs H Q E h=>?_) (λf cdv A outer s H vs Q E hr h=>?_)
 ·obtain⟨_,_,_,_,_,_,rfl,_⟩:=h;rfl
 obtain⟨g,dt,ds,es,ss,h,rfl,G,hh,le,q⟩:=h
 have hu:=hu_of hr
 have big:100000<=sizeLine:=by unfold sizeLine;decide
 refine⟨_,(pss_cons (ps_set (i:=2) sc_Goods_leave.nd rfl (Or.inl rfl) (pe_lstG pa_nil))
 (pss_cons (ps_for PassesOwn.never rfl (pi_list (pe_cTy call_listK rfl hlist (by decide +kernel) (pa_c (pe_fldG CL_Goods N_Goods_by_tool (pv 0)) pa_nil))) (pg_name (i:=3) sc_Goods_leave.nd rfl (Or.inl rfl))
 (pss_cons (ps_set (i:=4) sc_Goods_leave.nd rfl (Or.inl rfl) (pe_dgetDG hu (pe_fldG CL_Tool N_Tool_held (pe_dgetG hu (pe_fldG CL_Goods N_Goods_by_tool (pv 0)) (pv 3) (λ_ _=>rfl))) (pv 1) pe_int ⟨rfl,rfl,rfl,rfl⟩))
 (pss_one (ps_if (pt_cmpR op_gt (pv 4) pe_int (nomark _))
 (pss_cons (ps_asg (pe_methG G_Goods_give hr (pv 0) (pa_c (pv 1) (pa_c (pv 3) (pa_c (pv 4) pa_nil)))) (pg_tupG 2 rfl (pgs_cons (pg_name (i:=5) sc_Goods_leave.nd rfl (Or.inl rfl)) (pgs_cons (pg_name (i:=6) sc_Goods_leave.nd rfl (Or.inl rfl)) pgs_nil))))
 (pss_one (ps_expr (pe_appG (pv 2) (pe_tupG (pa_c (pv 3) (pa_c (pv 5) (pa_c (pv 6) pa_nil))))))))
 pss_nil))))
 (pss_one (ps_ret (pv 2))))),?_⟩
 walk_at "rd"
 intro lf H1 hlf g1 h1
 have G1:=G.same g1
 obtain⟨⟨dx,e1⟩,e2,_⟩:=id G1
 refine tfor_in ?_
 simp only [iList]
 walk_at "rd"
 have lk:(kvE es).length=es.length:=by unfold kvE;rw [List.length_map]
 refine⟨by omega,λl H2 hl g2 h2=>?_⟩
 have ek:(kvE es).map (λkv=>kV kv.1)=es.map (λe=>V.str e.name):=by
  unfold kvE
  rw [List.map_map]
  rfl
 rw [ek] at h2
 clear e1 e2
 refine⟨⟨_,SqL.of h2⟩,?_⟩
 have G2:=G1.same g2
 have nlE:∀{c:Addr},H1 c=none->c∉adE es:=λ{c} hc z=>by
  obtain⟨_,_,_,h4,_⟩:=G1
  obtain⟨u,hu⟩:=adE_has h4 c z
  rw [hc] at hu;cases hu
 have nlfE:lf∉adE es:=λz=>by
  obtain⟨_,_,_,h4,_⟩:=G
  obtain⟨u,hu⟩:=adE_has h4 lf z
  rw [hlf] at hu;cases hu
 have nll:l≠lf:=(ne_of_none h1 hl).symm
 refine for_list (xs:=es.map (λe=>V.str e.name)) (λi σ H'=>LeI CG CT CS g dt ds lf h es ss H i σ H'/\H' l=some (.lst (es.map λe=>V.str e.name))) ?_ ?_ ?_ ?_
 ·refine⟨?_,h2⟩
  unfold LeI
  exact⟨[],[],_,_,_,_,rfl,λc u _ hc=>g2 _ _ (g1 _ _ hc),G2,g2 _ _ h1,.nil,List.nodup_nil⟩
 ·rintro i σ H3 hi ⟨_,h3⟩
  exact SqL.of h3
 ·rintro i x σ H3 hx ⟨z,h3⟩
  unfold LeI at z
  obtain⟨vs,C,v3,v4,v5,v6,rfl,f3,G3,hv3,lv3,nC⟩:=z
  obtain⟨e,he,rfl⟩:∃e,es[i]? =some e/\V.str e.name=x:=by
   rw [List.getElem?_map] at hx
   cases z:es[i]? with
   | none=>rw [z] at hx;cases hx
   | some e=>rw [z] at hx;cases hx;exact⟨e,rfl,rfl⟩
  have hi:i<es.length:=(List.getElem?_eq_some_iff.mp he).1
  have ed:es.drop i=e::es.drop (i+1):=by
   obtain⟨l,e'⟩:=List.getElem?_eq_some_iff.mp he
   rw [<-e']
   exact List.drop_eq_getElem_cons l
  rw [ed] at G3
  obtain⟨⟨dx,e1⟩,e2,_,e4,_,_,n1,_⟩:=id G3
  have me:e∈(es.take i).map (lv1 h)++e::es.drop (i+1):=List.mem_append_right _ List.mem_cons_self
  have vE:=val_kvE n1
  obtain⟨dx',qs',k1,k2,k3,k4,k5,k6,k7⟩:=id (e4 e me)
  clear h1 h2
  walk_at "rd"
  rw [hk_get]
  have ea:adE ((es.take i).map (lv1 h)++e::es.drop (i+1))=adE es:=by
   rw [adE_app,adE_map,<-ed,<-adE_app,List.take_append_drop]
  have et:(es.take (i+1)).map (lv1 h)++es.drop (i+1)=(es.take i).map (lv1 h)++lv1 h e::es.drop (i+1):=by
   rw [take_snoc he,List.map_append,List.append_assoc];rfl
  have ef:(es.take (i+1)).filterMap (lvI h)=(es.take i).filterMap (lvI h)++(lvI h e).toList:=by
   rw [take_snoc he,List.filterMap_append]
   congr 1
  refine⟨⟨_,rfl⟩,_,rfl,ite2 (λc=>?_) λc=>?_⟩
  ·refine go_give G3 hh λH4 pr r sv f4 hr4 h4 hl4 sd4 G4=>?_
   have kt4:=G3.kt f4
   rw [ea] at f4
   rw [giv_self] at h4
   have hv4:=f4 lf _ nlfE hv3
   have lv:=lv3.length
   have lf2:=List.length_filterMap_le (lvI h) (es.take i)
   rw [List.length_take] at lf2
   refine⟨pr,rfl,_,h4,rfl,_,_,rfl,_,_,rfl,rfl,vs,hv4,λp5 H5 hp5 g5 h5=>⟨vs,g5 _ _ hv4,by omega,λH6 mu=>⟨?_,?_⟩⟩⟩
   ·unfold LeI
    have nr:r∉lf::adE es:=λz=>by
     rcases List.mem_cons.mp z with z | z
     ·rw [z,hv3] at hr4;cases hr4
     ·rw [<-ea] at z
      obtain⟨u,hu⟩:=adE_has e4 r z
      rw [hr4] at hu;cases hu
    have nr0:H r=none:=by
     cases z:H r with
     | none=>rfl
     | some u=>rw [f3 r u (λy=>nr (List.mem_cons_of_mem _ y)) z] at hr4;cases hr4
    have np5:p5≠lf:=(ne_of_none hv4 hp5).symm
    have S35:∀c xs,H3 c=some (.tup xs)->H5 c=some (.tup xs):=λc xs hc=>g5 _ _ (kt4 c xs hc)
    refine⟨vs++[.ref p5],C++[r],_,_,_,_,rfl,λc u nc hc=>mu.old (g5 _ _ (f4 c u nc (f3 c u nc hc))) (ne_of_none hc hlf),?_,mu.at_,?_,List.nodup_append.mpr ⟨nC,by simp,λc hc d hd z=>by
     obtain⟨⟨xs,h⟩,_⟩:=lv3.has c hc
     rw [z,List.mem_singleton.mp hd,hr4] at h;cases h⟩⟩
    ·rw [et]
     have e1:lv1 h e={e with t:=(giveS e.t h (getI e.t.held h)).2}:=by unfold lv1;rw [if_pos c]
     rw [e1]
     refine(G4.same g5).grow λc u hc hu=>mu.old hu (λz=>?_)
     rcases hc with hc | ⟨xs,rfl⟩
     ·have ad:adE ((es.take i).map (lv1 h)++{e with t:=(giveS e.t h (getI e.t.held h)).2}::es.drop (i+1))=adE es:=by rw [adE_mid,<-ea,adE_mid]
      rw [ad] at hc
      obtain⟨u0,hu0⟩:=G.has c hc
      rw [z,hlf] at hu0;cases hu0
     ·rw [z,g5 _ _ hv4] at hu;cases hu
    ·rw [ef]
     have e2:lvI h e=some (e.name,getI e.t.held h,(giveS e.t h (getI e.t.held h)).1):=by unfold lvI;rw [if_pos c]
     rw [e2]
     refine LvL.mono (λc xs hc=>mu.old hc (λz=>by rw [z,g5 _ _ hv4] at hc;cases hc)) (λc xs nc hc=>mu.old hc (λz=>nc (by rw [z];exact List.mem_cons_self))) (LvL.snoc h5 (g5 _ _ hl4) nr nr0 (sd4.mono λc xs hc=>g5 _ _ hc) (lv3.mono S35 λc xs nc hc=>g5 _ _ (f4 c _ (λz=>nc (List.mem_cons_of_mem _ z)) hc)))
   ·exact mu.old (g5 _ _ (f4 l _ (nlE hl) h3)) nll
  ·unfold LeI
   refine⟨vs,C,_,_,_,_,rfl,f3,?_,hv3,?_,nC⟩
   ·rw [et]
    have e1:lv1 h e=e:=by unfold lv1;rw [if_neg c]
    rw [e1]
    exact G3
   ·rw [ef]
    have e2:lvI h e=none:=by unfold lvI;rw [if_neg c]
    rw [e2]
    show LvL _ _ _ _ _ (_++[])
    rw [List.append_nil]
    exact lv3
 ·rintro σ H3 ⟨z,h3⟩
  unfold LeI at z
  obtain⟨vs,C,v3,v4,v5,v6,rfl,f3,G3,hv3,lv3,nC⟩:=z
  rw [List.length_map,List.take_of_length_le (Nat.le_refl _),List.drop_of_length_le (Nat.le_refl _),List.append_nil] at G3
  rw [List.length_map,List.take_of_length_le (Nat.le_refl _)] at lv3
  clear h1 h2
  walk_at "rd"
  try exact q H3 lf vs C f3 hlf G3 hv3 lv3 nC
end
end K21
namespace K21
open PySem L2
theorem FrG.old{cs:List Addr}{H H':Hp}(f:FrG cs H H'){c:Addr}{u:HO}(h:H c=some u)(n:c∉cs):H' c=some u:=f c u n h
def Dk(H:Hp)(dk sp:Addr)(k:Int):Prop:=∃(ns:List Int) (at_:Int),H dk=some (.lst [.ref sp,.int at_])/\H sp=some (.lst (ns.map V.int))/\(0<=at_/\at_<=k)/\ns.length<=63
theorem Dk.mono{H:Hp}{dk sp:Addr}{k k':Int}(h:Dk H dk sp k)(l:k<=k'):Dk H dk sp k':=by
 obtain⟨ns,a,h1,h2,⟨h3,h4⟩,h5⟩:=h
 exact⟨ns,a,h1,h2,⟨h3,by omega⟩,h5⟩
theorem Dk.same{H H':Hp}{dk sp:Addr}{k:Int}(g:Same H H')(h:Dk H dk sp k):Dk H' dk sp k:=by
 obtain⟨ns,a,h1,h2,h3⟩:=h
 exact⟨ns,a,g _ _ h1,g _ _ h2,h3⟩
theorem shaped_ints(ns:List Int):SeqAt.shaped (.list (ns.map PyData.int))=true:=by
 unfold SeqAt.shaped
 have e:∀ns:List Int,PyData.canLayAll0 (ns.map PyData.int)=true:=λns=>by
  induction ns with
  | nil=>rfl
  | cons n ns ih=>rw [List.map_cons,PyData.canLayAll0,ih];rfl
 have d:∀ns:List Int,PyData.depthAll (ns.map PyData.int)<=1:=λns=>by
  induction ns with
  | nil=>simp [PyData.depthAll]
  | cons n ns ih=>simp only [List.map_cons,PyData.depthAll,PyData.depth] at ih⊢;omega
 have e1:PyData.canLay0 (.list (ns.map PyData.int))=true:=by
  simp only [PyData.canLay0]
  exact e ns
 have d1:=d ns
 rw [e1,Bool.true_and,decide_eq_true_eq]
 simp only [PyData.depth]
 omega
theorem rp_ints{K:PySem.W.Frag}{H:Hp}:∀ns:List Int,RpL K H (ns.map V.int) (ns.map PyData.int)
 | []=>.nil
 | n::ns=>.cons (.int n) (rp_ints ns)
theorem eqv_nil{ds:List PyData}:PyData.eqv (.list ds) (.list [])=ds.isEmpty:=by
 cases ds with
 | nil=>decide
 | cons d ds=>simp [PyData.eqv,PyData.eqvAll]
theorem ne_nil{K:PySem.W.Frag}{H:Hp}{a p:Addr}{xs:List V}{ds:List PyData}{Kx:VK}(ha:H a=some (.lst xs))(r:RpL K H xs ds)(sh:SeqAt.shaped (.list ds)=true)(hp:H p=some (.lst []))(k:Kx (.bl (!xs.isEmpty)) H):rNeD K (.ref a) (.ref p) H Kx:=by
 refine⟨.list ds,.list [],.lst ha r,.lst hp .nil,sh,by decide,?_⟩
 rw [eqv_nil]
 have:ds.isEmpty=xs.isEmpty:=by cases r<;>rfl
 rw [this]
 exact k
theorem bnd{y b:Int}(h0:0<=y)(h1:y<b)(hb:b<=18446744073709551616): -18446744073709551616<y/\y<18446744073709551616:=⟨by omega,by omega⟩
theorem bnd5{y k:Int}(h0:0<=y)(h1:y<=k)(hk:k<=1000000): -18446744073709551616<51437*(y+1)/\51437*(y+1)<18446744073709551616:=⟨by omega,by omega⟩
section
variable{P:Program}{w:World}{K:PySem.W.Frag}{mg:Str->Option Value}{base:Heap}
def spNx:Sp:=λvs H Q _=>∃(dk sp:Addr) (k:Int),vs= [.ref dk]/\Dk H dk sp k/\k<=1000000/\∀(m:Int) (H':Hp),0<=m->FrG [dk] H H'->Dk H' dk sp (k+1)->Q (.int m) H'
theorem ok_nx(D:DefAt K mg "_law_next" s__law_next ["deck"])(hlen:mg "len" =none)(hmax:mg "max" =none)(hmin:mg "min" =none)(hrange:mg "range" =none):OkD P w K mg base 1 "_law_next" ["deck"] spNx:=by
 refine D.ok sc__law_next (λvs H Q E h=>?_) (λf cdv A outer s H vs Q E hr h=>?_)
 ·obtain⟨_,_,_,rfl,_⟩:=h;rfl
 obtain⟨dk,sp,k,rfl,⟨ns,at_,h1,h2,⟨h0,h01⟩,h63⟩,hk,q⟩:=h
 have hu:=hu_of hr
 have hu64:=hr.units
 have big:100000<=sizeLine:=by unfold sizeLine;decide
 have nsd:sp≠dk:=λz=>by
  rw [z,h1] at h2
  have h3:=HO.lst.inj (Option.some.inj h2)
  cases ns with
  | nil=>cases h3
  | cons n ns=>rw [List.map_cons] at h3;cases h3
 refine⟨_,(pss_cons (ps_set (i:=1) sc__law_next.nd rfl (Or.inl rfl) (pe_ix ix_g (pv 0) pe_int (λ_ _=>rfl)))
 (pss_cons (ps_asg (pe_op op_add (pv 1) pe_int) (pg_sub (pv 0) pe_int set_listG))
 (pss_cons (ps_set (i:=2) sc__law_next.nd rfl (Or.inl rfl) (pe_cB (call_max2 rfl) rfl hmax (by decide +kernel) (pa_c pe_int (pa_c (pe_cB call_len_seq rfl hlen PySem.boot_len (pa_c (pe_ix ix_g (pv 0) pe_int (λ_ _=>rfl)) pa_nil)) pa_nil))))
 (pss_cons (ps_set (i:=3) sc__law_next.nd rfl (Or.inl rfl) pe_int)
 (pss_cons (ps_if (pt_cmpR (op_neD hu64) (pe_ix ix_g (pv 0) pe_int (λ_ _=>rfl)) (pe_lstG pa_nil) (nomark _))
 (pss_one (ps_set (i:=3) sc__law_next.nd rfl (Or.inl rfl) (pe_ix ix_g (pe_ix ix_g (pv 0) pe_int (λ_ _=>rfl)) (pe_op op_mod (pv 1) (pv 2)) (λ_ _=>rfl))))
 pss_nil)
 (pss_cons (ps_if (pt_cmpR op_ge (pv 3) (pe_op op_pow pe_int pe_int) (nomark _))
 (pss_cons (ps_for PassesOwn.never rfl (pi_range1 rfl hrange (pa_c (pe_cB (call_min2 rfl) rfl hmin (by decide +kernel) (pa_c pe_int (pa_c (pe_op op_fdiv (pv 1) (pv 2)) pa_nil))) pa_nil)) (pg_name (i:=4) sc__law_next.nd rfl (Or.inl rfl))
 (pss_one (ps_set (i:=3) sc__law_next.nd rfl (Or.inl rfl) (pe_op op_fdiv (pv 3) pe_int))))
 (pss_one (ps_ret (pe_op op_mod (pv 3) pe_int))))
 pss_nil)
 (pss_cons (ps_set (i:=5) sc__law_next.nd rfl (Or.inl rfl) (pe_op op_mod (pe_op op_add (pe_op op_add (pe_op op_mod (pv 3) pe_int) (pe_op op_mul (pe_op op_mul pe_int (pe_op op_add (pv 1) pe_int)) (pe_op op_add (pv 1) pe_int))) pe_int) pe_int))
 (pss_cons (ps_set (i:=5) sc__law_next.nd rfl (Or.inl rfl) (pe_op op_mod (pe_op op_mul (pv 5) (pv 5)) pe_int))
 (pss_cons (ps_set (i:=5) sc__law_next.nd rfl (Or.inl rfl) (pe_op op_mod (pe_op op_add (pe_op op_add (pe_op op_mul (pv 5) pe_int) (pe_op op_mul pe_int (pv 1))) pe_int) pe_int))
 (pss_one (ps_ret (pe_op op_fdiv (pe_op op_mod (pe_op op_mul (pv 5) (pv 5)) pe_int) pe_int)))))))))))),?_⟩
 walk_at "rz"
 refine⟨1,rfl,λH1 m1=>?_⟩
 have d1:H1 dk=some (.lst [.ref sp,.int (at_+1)]):=m1.at_
 have s1:=m1.old h2 nsd
 have fin:∀(m:Int) (H':Hp),0<=m->Same H1 H'->Q (.int m) H':=λm H' hm g=>q m H' hm (λc u nc hc=>g _ _ (m1.old hc (λz=>nc (by rw [z];exact List.mem_singleton_self _)))) ⟨ns,at_+1,g _ _ d1,g _ _ s1,⟨by omega,by omega⟩,h63⟩
 clear h1 h2
 walk_at "rz"
 refine⟨_,.inl (SqL.of s1),?_⟩
 walk_at "rz"
 intro p2 H2 hp2 g2 h2
 refine ne_nil (g2 _ _ s1) (rp_ints ns) (shaped_ints ns) h2 ?_
 have d2:=g2 _ _ d1
 have s2:=g2 _ _ s1
 clear d1 s1
 walk_at "rz"
 have num:∀i:Int,∃y:Int,(((i%2147483629+51437*(at_+1)*(at_+3)+1409)%2147483629)=y)/\0<=y/\y<2147483629:=λi=>⟨_,rfl,Int.emod_nonneg _ (by decide),Int.emod_lt_of_pos _ (by decide)⟩
 have num2:∀z:Int,∃y:Int,z%2147483579=y/\0<=y/\y<2147483579:=λi=>⟨_,rfl,Int.emod_nonneg _ (by decide),Int.emod_lt_of_pos _ (by decide)⟩
 refine ite2 (λc=>?_) λc=>?_
 ·walk_at "rz"
  have c0:0<ns.length:=by
   cases ns with
   | nil=>simp at c
   | cons n ns=>simp
  have lm:(ns.map V.int).length=ns.length:=List.length_map _
  rw [lm]
  generalize hm:(if (ns.length:Int)>1 then (ns.length:Int) else 1)=many
  have m0:0<many/\many<=ns.length:=by rw [<-hm];split<;>omega
  have r0:=Int.emod_nonneg at_ (show many≠0 by omega)
  have r1:=Int.emod_lt_of_pos at_ m0.1
  obtain⟨v,ev,vm,_⟩:=atI_in (xs:=ns.map V.int) r0 (by rw [lm];omega)
  obtain⟨i,_,rfl⟩:=List.mem_map.mp vm
  refine⟨m0.1,?_⟩
  walk_at "rz"
  refine ite2 (λc2=>?_) λc2=>?_
  ·walk_at "rz"
   refine tfor_in ?_
   simp only [iRng1]
   walk_at "rd"
   have q0:0<=at_/many:=Int.ediv_nonneg h0 (by omega)
   refine⟨by omega,by split<;>omega,by split<;>omega,for_range (λ_ σ H'=>H'=H2/\∃(c':Int) (v4:Option V),σ= [some (.ref dk),some (.int at_),some (.int many),some (.int c'),v4,none]) ⟨rfl,i,_,rfl⟩ ?_ ?_⟩
   ·rintro i σ H' hi ⟨rfl,c',v4,rfl⟩
    walk_at "rd"
    try exact⟨_,rfl⟩
   ·rintro σ H' ⟨rfl,c',v4,rfl⟩
    walk_at "rd"
    exact fin _ _ (Int.emod_nonneg _ (by decide)) g2
  ·walk_at "rd"
   refine⟨.inl (bnd5 h0 h01 hk),?_⟩
   obtain⟨y,ey,y0,y1⟩:=num i
   rw [ey]
   refine⟨.inl (bnd y0 y1 (by decide)),?_⟩
   obtain⟨y2,ey2,y20,y21⟩:=num2 (y*y%2147483587*69621+401*at_+7)
   rw [ey2]
   refine⟨.inl (bnd y20 y21 (by decide)),fin _ _ ?_ g2⟩
   have:=Int.emod_nonneg (y2*y2) (show(2147483563:Int)≠0 by decide)
   omega
 ·walk_at "rd"
  refine⟨.inl (bnd5 h0 h01 hk),?_⟩
  obtain⟨y,ey,y0,y1⟩:=num 0
  rw [ey]
  refine⟨.inl (bnd y0 y1 (by decide)),?_⟩
  obtain⟨y2,ey2,y20,y21⟩:=num2 (y*y%2147483587*69621+401*at_+7)
  rw [ey2]
  refine⟨.inl (bnd y20 y21 (by decide)),fin _ _ ?_ g2⟩
  have:=Int.emod_nonneg (y2*y2) (show(2147483563:Int)≠0 by decide)
  omega
end
end K21
namespace K21
open PySem L2
def nmT:List Str:=["saw","jig","a","hammer","pin","zz"]
def nmS:List Str:=["tank","bin","vat","silo","b","urn"]
def nth(l:List Str)(spin k:Nat):Str:=l.getD ((k+spin)%6) ""
theorem nd_T:∀sp<6,((List.range 6).map (nth nmT sp)).Nodup:=by with_unfolding_all decide
theorem nd_S:∀sp<6,((List.range 6).map (nth nmS sp)).Nodup:=by with_unfolding_all decide
theorem ok_T:∀x∈nmT,PyData.strOk x=true:=by with_unfolding_all decide
theorem ok_S:∀x∈nmS,PyData.strOk x=true:=by with_unfolding_all decide
theorem nm_ne:∀x∈nmT,∀y∈nmS,x≠y:=by with_unfolding_all decide
theorem nth_at{l:List Str}{sp k:Nat}(h:l.length=6):atI (l.map V.str) ((((k:Nat):Int)+(sp:Int))%6)=some (.str (nth l sp k)):=by
 have e:((k:Nat):Int)+(sp:Int)=((k+sp:Nat):Int):=by omega
 have e2:(((k+sp:Nat):Int))%6=(((k+sp)%6:Nat):Int):=by omega
 rw [e,e2]
 refine atI_nat ?_
 have lt:(k+sp)%6<l.length:=by omega
 unfold nth
 rw [List.getElem?_map,List.getD_eq_getElem?_getD,List.getElem?_eq_getElem lt];rfl
theorem nth_mem{l:List Str}{sp k:Nat}(h:l.length=6):nth l sp k∈l:=by
 have lt:(k+sp)%6<l.length:=by omega
 unfold nth
 rw [List.getD_eq_getElem?_getD,List.getElem?_eq_getElem lt]
 exact List.getElem_mem lt
theorem PrN.snoc{H:Hp}{p:Addr}{s:Str}{n:Int}(h:H p=some (.tup [.str s,.int n])):∀{vs:List V} {ps:List (Str×Int)},PrN H vs ps->PrN H (vs++[.ref p]) (ps++[(s,n)])
 | _,_,.nil=>.cons h .nil
 | _,_,.cons k r=>.cons k (r.snoc h)
theorem PrN.keep{H H':Hp}(g:∀c xs,H c=some (.tup xs)->H' c=some (.tup xs)):∀{vs:List V} {ps:List (Str×Int)},PrN H vs ps->PrN H' vs ps
 | _,_,.nil=>.nil
 | _,_,.cons h r=>.cons (g _ _ h) (r.keep g)
theorem PrM.snoc{H:Hp}{p:Addr}{s:Str}{n m:Int}(h:H p=some (.tup [.str s,.int n,.int m])):∀{vs:List V} {ps:List (Str×Int×Int)},PrM H vs ps->PrM H (vs++[.ref p]) (ps++[(s,n,m)])
 | _,_,.nil=>.cons h .nil
 | _,_,.cons k r=>.cons k (r.snoc h)
structure Prg(H:Hp)(pp p0 p1:Addr)(ys0 ys1:List V)(pr0:List (Str×Int))(pr1:List (Str×Int×Int)):Prop where
 tu:∃x2 x3,H pp=some (.tup [.ref p0,.ref p1,x2,x3])
 l0:H p0=some (.lst ys0)
 l1:H p1=some (.lst ys1)
 n0:PrN H ys0 pr0
 n1:PrM H ys1 pr1
def P2(H:Hp)(pp p0 p1:Addr):Prop:=∃c2 c3 t u1 u2:Addr,H pp=some (.tup [.ref p0,.ref p1,.ref c2,.ref c3])/\H c2=some (.lst [])/\H c3=some (.lst [.ref t])/\H t=some (.tup [.str "h",.ref u1,.ref u2])/\H u1=some (.lst [])/\H u2=some (.lst [])
def Pr0(pr:List (Str×Int)):Prop:=pr.length<=6/\(pr.map (·.1)).Nodup/\∀p∈pr,1<=p.2/\p.2<=9/\p.1∈nmT
def Pr1(pr:List (Str×Int×Int)):Prop:=pr.length<=6/\(pr.map (·.1)).Nodup/\∀p∈pr,0<=p.2.1/\p.2.1<=p.2.2/\1<=p.2.2/\p.2.2<=999/\p.1∈nmS
theorem Dk.tup{H:Hp}{dk s0:Addr}{k:Int}(h:Dk H dk s0 k){c:Addr}{xs:List V}(hc:H c=some (.tup xs)):c∉[dk]:=λz=>by
 obtain⟨_,_,h1,_⟩:=h
 rw [List.mem_singleton.mp z,h1] at hc;cases hc
theorem Dk.off{H:Hp}{dk s0:Addr}{k:Int}(h:Dk H dk s0 k){c:Addr}(hc:H c=none):c∉[dk]:=λz=>by
 obtain⟨_,_,h1,_⟩:=h
 rw [List.mem_singleton.mp z,h1] at hc;cases hc
theorem Dk.kt{H H':Hp}{dk s0:Addr}{k:Int}(h:Dk H dk s0 k)(f:FrG [dk] H H'):∀c xs,H c=some (.tup xs)->H' c=some (.tup xs):=λc xs hc=>f c _ (h.tup hc) hc
theorem Dk.mu{H H':Hp}{dk s0 D:Addr}{k:Int}{o:HO}(h:Dk H dk s0 k)(m:Mu H D o H')(n1:D≠dk)(n2:D≠s0):Dk H' dk s0 k:=by
 obtain⟨ns,a,h1,h2,h3⟩:=h
 exact⟨ns,a,m.old h1 (Ne.symm n1),m.old h2 (Ne.symm n2),h3⟩
theorem pick{xs:List V}{i:Int}(n:Int)(hn:n=xs.length)(h:0<n):∃v,atI xs (i%n)=some v/\v∈xs:=by
 obtain⟨v,e,m,_⟩:=atI_in (xs:=xs) (Int.emod_nonneg i (show n≠0 by omega)) (by rw [<-hn];exact Int.emod_lt_of_pos i h)
 exact⟨v,e,m⟩
section
variable{P:Program}{w:World}{K:PySem.W.Frag}{mg:Str->Option Value}{base:Heap}
def PtI(dk s0 tl:Addr)(k:Int)(sp:Nat)(H:Hp)(i:Nat)(σ:St)(H':Hp):Prop:=∃(ys:List V) (pr:List (Str×Int)) (v3 v4:Option V),σ= [some (.ref dk),some (.ref tl),some (.int sp),v3,v4,none,none]/\FrG [dk] H H'/\Dk H' dk s0 (k+3+2*i)/\H' tl=some (.lst ys)/\PrN H' ys pr/\pr.map (·.1)=(List.range i).map (nth nmT sp)/\∀p∈pr,1<=p.2/\p.2<=9
def PsI(dk s0 tl sl:Addr)(k:Int)(sp:Nat)(ys0:List V)(pr0:List (Str×Int))(H:Hp)(i:Nat)(σ:St)(H':Hp):Prop:=∃(ys:List V) (pr:List (Str×Int×Int)) (v3 v4 v6:Option V),σ= [some (.ref dk),some (.ref tl),some (.int sp),v3,v4,some (.ref sl),v6]/\FrG [dk] H H'/\Dk H' dk s0 (k+20+3*i)/\H' tl=some (.lst ys0)/\PrN H' ys0 pr0/\H' sl=some (.lst ys)/\PrM H' ys pr/\pr.map (·.1)=(List.range i).map (nth nmS sp)/\∀p∈pr,0<=p.2.1/\p.2.1<=p.2.2/\1<=p.2.2/\p.2.2<=999
theorem nd_take{l:List Str}{n sp:Nat}(h:((List.range 6).map (nth l sp)).Nodup)(hn:n<=6):((List.range n).map (nth l sp)).Nodup:=by
 have e:(List.range n).map (nth l sp)=((List.range 6).map (nth l sp)).take n:=by
  rw [<-List.map_take,List.take_range,Nat.min_eq_left hn]
 rw [e]
 exact(List.take_sublist _ _).nodup h
def spPrg:Sp:=λvs H Q _=>∃(dk s0:Addr) (k:Int),vs= [.ref dk]/\Dk H dk s0 k/\k<=1000/\∀(H':Hp) (pp p0 p1:Addr) (ys0 ys1:List V) (pr0:List (Str×Int)) (pr1:List (Str×Int×Int)),FrG [dk] H H'->Dk H' dk s0 (k+100)->Prg H' pp p0 p1 ys0 ys1 pr0 pr1->Pr0 pr0->Pr1 pr1->H p0=none->H p1=none->P2 H' pp p0 p1->Q (.ref pp) H'
theorem ok_prg(D:DefAt K mg "_law_program" s__law_program ["deck"])(G__law_next:OkD P w K mg base 1 "_law_next" ["deck"] spNx)(hrange:mg "range" =none):OkD P w K mg base 2 "_law_program" ["deck"] spPrg:=by
 refine D.ok sc__law_program (λvs H Q E h=>?_) (λf cdv A outer s H vs Q E hr h=>?_)
 ·obtain⟨_,_,_,rfl,_⟩:=h;rfl
 obtain⟨dk,s0,k,rfl,D0,hk,q⟩:=h
 have hu:=hu_of hr
 have big:100000<=sizeLine:=by unfold sizeLine;decide
 refine⟨_,(pss_cons (ps_set (i:=1) sc__law_program.nd rfl (Or.inl rfl) (pe_lstG pa_nil))
 (pss_cons (ps_set (i:=2) sc__law_program.nd rfl (Or.inl rfl) (pe_op op_mod (pe_def G__law_next hr rfl (pa_c (pv 0) pa_nil)) pe_int))
 (pss_cons (ps_for PassesOwn.never rfl (pi_range1 rfl hrange (pa_c (pe_op op_mod (pe_def G__law_next hr rfl (pa_c (pv 0) pa_nil)) (pe_ix ix_g (pe_lstG (pa_c pe_int (pa_c pe_int (pa_c pe_int (pa_c pe_int pa_nil))))) (pe_op op_mod (pe_def G__law_next hr rfl (pa_c (pv 0) pa_nil)) pe_int) (λ_ _=>rfl))) pa_nil)) (pg_name (i:=3) sc__law_program.nd rfl (Or.inl rfl))
 (pss_cons (ps_set (i:=4) sc__law_program.nd rfl (Or.inl rfl) (pe_ix ix_g (pe_lstG (pa_c pe_str (pa_c pe_str (pa_c pe_str (pa_c pe_str (pa_c pe_str (pa_c pe_str pa_nil))))))) (pe_op op_mod (pe_op op_add (pv 3) (pv 2)) pe_int) (λ_ _=>rfl)))
 (pss_one (ps_expr (pe_appG (pv 1) (pe_tupG (pa_c (pv 4) (pa_c (pe_op op_add pe_int (pe_op op_mod (pe_def G__law_next hr rfl (pa_c (pv 0) pa_nil)) (pe_ix ix_g (pe_lstG (pa_c pe_int (pa_c pe_int pa_nil))) (pe_op op_mod (pe_def G__law_next hr rfl (pa_c (pv 0) pa_nil)) pe_int) (λ_ _=>rfl)))) pa_nil))))))))
 (pss_cons (ps_set (i:=5) sc__law_program.nd rfl (Or.inl rfl) (pe_lstG pa_nil))
 (pss_cons (ps_for PassesOwn.never rfl (pi_range1 rfl hrange (pa_c (pe_op op_mod (pe_def G__law_next hr rfl (pa_c (pv 0) pa_nil)) (pe_ix ix_g (pe_lstG (pa_c pe_int (pa_c pe_int (pa_c pe_int (pa_c pe_int pa_nil))))) (pe_op op_mod (pe_def G__law_next hr rfl (pa_c (pv 0) pa_nil)) pe_int) (λ_ _=>rfl))) pa_nil)) (pg_name (i:=3) sc__law_program.nd rfl (Or.inl rfl))
 (pss_cons (ps_set (i:=4) sc__law_program.nd rfl (Or.inl rfl) (pe_ix ix_g (pe_lstG (pa_c pe_str (pa_c pe_str (pa_c pe_str (pa_c pe_str (pa_c pe_str (pa_c pe_str pa_nil))))))) (pe_op op_mod (pe_op op_add (pv 3) (pv 2)) pe_int) (λ_ _=>rfl)))
 (pss_cons (ps_set (i:=6) sc__law_program.nd rfl (Or.inl rfl) (pe_op op_add pe_int (pe_op op_mod (pe_def G__law_next hr rfl (pa_c (pv 0) pa_nil)) (pe_ix ix_g (pe_lstG (pa_c pe_int (pa_c pe_int pa_nil))) (pe_op op_mod (pe_def G__law_next hr rfl (pa_c (pv 0) pa_nil)) pe_int) (λ_ _=>rfl)))))
 (pss_one (ps_expr (pe_appG (pv 5) (pe_tupG (pa_c (pv 4) (pa_c (pe_op op_mod (pe_def G__law_next hr rfl (pa_c (pv 0) pa_nil)) (pe_op op_add (pv 6) pe_int)) (pa_c (pv 6) pa_nil))))))))))
 (pss_one (ps_ret (pe_tupG (pa_c (pv 1) (pa_c (pv 5) (pa_c (pe_lstG pa_nil) (pa_c (pe_lstG (pa_c (pe_tupG (pa_c pe_str (pa_c (pe_lstG pa_nil) (pa_c (pe_lstG pa_nil) pa_nil)))) pa_nil)) pa_nil)))))))))))),?_⟩
 walk_at "rz"
 intro tl H1 htl g1 h1
 walk_at "rz"
 refine⟨dk,s0,k,rfl,D0.same g1,by omega,λm1 H2 m10 f2 D2=>?_⟩
 walk_at "rz"
 have ntl:tl∉[dk]:=D0.off htl
 have nts:tl≠s0:=λz=>by
  obtain⟨_,_,_,z1,_⟩:=D0
  rw [z,z1] at htl;cases htl
 have h2:=f2.old h1 ntl
 obtain⟨sp,esp,sp6⟩:∃sp:Nat,m1%6=(sp:Int)/\sp<6:=⟨(m1%6).toNat,by omega,by omega⟩
 rw [esp]
 refine tfor_in ?_
 simp only [iRng1]
 walk_at "rd"
 refine⟨dk,s0,k+1,rfl,D2,by omega,λm2 H3 m20 f3 D3 p3 H4 hp3 g4 h4=>?_⟩
 refine⟨dk,s0,k+1+1,rfl,D3.same g4,by omega,λm3 H5 m30 f5 D5=>⟨m3,rfl,_,.inr (f5.old h4 (D3.off hp3)),?_⟩⟩
 obtain⟨v,ev,hv⟩:=pick (xs:=[V.int 4,V.int 4,V.int 4,V.int 7]) (i:=m3) 4 rfl (by decide)
 obtain⟨c,rfl,c0,c1⟩:∃c,v= .int c/\0<c/\c<=7:=by
  simp at hv
  rcases hv with rfl | rfl<;>exact⟨_,rfl,by decide,by decide⟩
 have e0:=Int.emod_nonneg m2 (show c≠0 by omega)
 have e1:=Int.emod_lt_of_pos m2 c0
 refine⟨_,ev,m2,rfl,c,rfl,c0,by omega,by omega,?_⟩
 obtain⟨n0,en0,n06⟩:∃n0:Nat,(m2%c).toNat=n0/\n0<=6:=⟨_,rfl,by omega⟩
 rw [en0]
 have h5:=f5.old (g4 _ _ (f3.old h2 ntl)) ntl
 have F5:FrG [dk] H H5:=λc u nc hc=>f5 c u nc (g4 _ _ (f3 c u nc (f2 c u nc (g1 _ _ hc))))
 have D5:=D5.mono (show k+1+1+1<=k+3+2*((0:Nat):Int) by omega)
 clear h1 h2 h4
 refine for_range (PtI dk s0 tl k sp H) ?_ ?_ ?_
 ·unfold PtI
  exact⟨[],[],_,_,rfl,F5,D5,h5,.nil,rfl,λp hp=>absurd hp List.not_mem_nil⟩
 ·intro i σ H6 hi z
  unfold PtI at z
  obtain⟨ys,pr,v3,v4,rfl,F6,D6,h6,pn,em,bd⟩:=z
  clear h5
  walk_at "rd"
  intro p7 H7 hp7 g7 h7
  have lp:=pn.length
  have li:pr.length=i:=by have:=congrArg List.length em;rw [List.length_map,List.length_map,List.length_range] at this;exact this
  refine⟨_,.inr h7,_,(by rw [Int.zero_add];exact nth_at (l:=nmT) rfl),ys,g7 _ _ h6,dk,s0,k+3+2*i,rfl,D6.same g7,by omega,λm4 H8 m40 f8 D8 p9 H9 hp9 g9 h9=>?_⟩
  refine⟨dk,s0,k+3+2*i+1,rfl,D8.same g9,by omega,λm5 H10 m50 f10 D10=>⟨m5,rfl,_,.inr (f10.old h9 (D8.off hp9)),?_⟩⟩
  obtain⟨v,ev,hv⟩:=pick (xs:=[V.int 3,V.int 9]) (i:=m5) 2 rfl (by decide)
  obtain⟨c,rfl,c0,c1⟩:∃c,v= .int c/\0<c/\c<=9:=by
   simp at hv
   rcases hv with rfl | rfl<;>exact⟨_,rfl,by decide,by decide⟩
  have e0:=Int.emod_nonneg m4 (show c≠0 by omega)
  have e1:=Int.emod_lt_of_pos m4 c0
  have t11:=f10.old (g9 _ _ (f8.old (g7 _ _ h6) ntl)) ntl
  refine⟨_,ev,m4,rfl,c,rfl,c0,λp11 H11 hp11 g11 h11=>⟨ys,g11 _ _ t11,by omega,λH12 mu=>?_⟩⟩
  unfold PtI
  have kt:∀c xs,H6 c=some (.tup xs)->H12 c=some (.tup xs):=λc xs hc=>mu.old (g11 _ _ ((D8.same g9).kt f10 c xs (g9 _ _ ((D6.same g7).kt f8 c xs (g7 _ _ hc))))) (λz=>by rw [z,h6] at hc;cases hc)
  have np:p11≠tl:=(ne_of_none t11 hp11).symm
  refine⟨ys++[.ref p11],pr++[(nth nmT sp i,1+m4%c)],_,_,rfl,λc u nc hc=>mu.old (g11 _ _ (f10 c u nc (g9 _ _ (f8 c u nc (g7 _ _ (F6 c u nc hc)))))) (ne_of_none hc htl),((D10.same g11).mu mu (λz=>ntl (by rw [z];exact List.mem_singleton_self _)) nts).mono (by omega),mu.at_,(pn.keep kt).snoc (mu.old h11 np),by rw [List.map_append,em,List.range_succ,List.map_append];rfl,λp hp=>?_⟩
  rcases List.mem_append.mp hp with hp | hp
  ·exact bd p hp
  ·rw [List.mem_singleton.mp hp]
   exact⟨by show 1<=1+m4%c;omega,by show 1+m4%c<=9;omega⟩
 ·intro σ H6 z
  unfold PtI at z
  obtain⟨ys,pr,v3,v4,rfl,F6,D6,h6,pn,em,bd⟩:=z
  clear h5
  walk_at "rz"
  intro sl H7 hsl g7 h7
  walk_at "rz"
  have lp0:=pn.length
  have li0:pr.length=n0:=by have:=congrArg List.length em;rw [List.length_map,List.length_map,List.length_range] at this;exact this
  have nsl:sl∉[dk]:=D6.off hsl
  have nss:sl≠s0:=λz=>by
   obtain⟨_,_,_,z1,_⟩:=D6
   rw [z,z1] at hsl;cases hsl
  have ntsl:tl≠sl:=ne_of_none h6 hsl
  have hsl0:H sl=none:=by
   cases z:H sl with
   | none=>rfl
   | some u=>rw [F6 sl u nsl z] at hsl;cases hsl
  refine tfor_in ?_
  simp only [iRng1]
  walk_at "rd"
  refine⟨dk,s0,_,rfl,D6.same g7,by omega,λm2 H8 m20 f8 D8 p9 H9 hp9 g9 h9=>?_⟩
  refine⟨dk,s0,_,rfl,D8.same g9,by omega,λm3 H10 m30 f10 D10=>⟨m3,rfl,_,.inr (f10.old h9 (D8.off hp9)),?_⟩⟩
  obtain⟨v,ev,hv⟩:=pick (xs:=[V.int 3,V.int 3,V.int 3,V.int 7]) (i:=m3) 4 rfl (by decide)
  obtain⟨c,rfl,c0,c1⟩:∃c,v= .int c/\0<c/\c<=7:=by
   simp at hv
   rcases hv with rfl | rfl<;>exact⟨_,rfl,by decide,by decide⟩
  have e0:=Int.emod_nonneg m2 (show c≠0 by omega)
  have e1:=Int.emod_lt_of_pos m2 c0
  refine⟨_,ev,m2,rfl,c,rfl,c0,by omega,by omega,?_⟩
  obtain⟨n1,en1,n16⟩:∃n1:Nat,(m2%c).toNat=n1/\n1<=6:=⟨_,rfl,by omega⟩
  rw [en1]
  have t10:=f10.old (g9 _ _ (f8.old (g7 _ _ h6) ntl)) ntl
  have s10:=f10.old (g9 _ _ (f8.old h7 nsl)) nsl
  have kt10:∀c xs,H6 c=some (.tup xs)->H10 c=some (.tup xs):=λc xs hc=>(D8.same g9).kt f10 c xs (g9 _ _ ((D6.same g7).kt f8 c xs (g7 _ _ hc)))
  have F10:FrG [dk] H H10:=λc u nc hc=>f10 c u nc (g9 _ _ (f8 c u nc (g7 _ _ (F6 c u nc hc))))
  have D10':=D10.mono (show k+3+2*(n0:Int)+1+1<=k+20+3*((0:Nat):Int) by omega)
  clear h6 h7 h9
  refine for_range (PsI dk s0 tl sl k sp ys pr H) ?_ ?_ ?_
  ·unfold PsI
   exact⟨[],[],_,_,_,rfl,F10,D10',t10,pn.keep kt10,s10,.nil,rfl,λp hp=>absurd hp List.not_mem_nil⟩
  ·intro i σ H11 hi z
   unfold PsI at z
   obtain⟨ys1,pr1,w3,w4,w6,rfl,F11,D11,t11,pn11,s11,pm11,em1,bd1⟩:=z
   clear t10 s10
   walk_at "rd"
   intro p12 H12 hp12 g12 h12
   have lp1:=pm11.length
   have li1:pr1.length=i:=by have:=congrArg List.length em1;rw [List.length_map,List.length_map,List.length_range] at this;exact this
   refine⟨_,.inr h12,_,(by rw [Int.zero_add];exact nth_at (l:=nmS) rfl),dk,s0,_,rfl,D11.same g12,by omega,λm4 H13 m40 f13 D13 p14 H14 hp14 g14 h14=>?_⟩
   refine⟨dk,s0,_,rfl,D13.same g14,by omega,λm5 H15 m50 f15 D15=>⟨m5,rfl,_,.inr (f15.old h14 (D13.off hp14)),?_⟩⟩
   obtain⟨v,ev,hv⟩:=pick (xs:=[V.int 6,V.int 999]) (i:=m5) 2 rfl (by decide)
   obtain⟨c2,rfl,c20,c21⟩:∃c,v= .int c/\0<c/\c<=999:=by
    simp at hv
    rcases hv with rfl | rfl<;>exact⟨_,rfl,by decide,by decide⟩
   have u0:=Int.emod_nonneg m4 (show c2≠0 by omega)
   have u1:=Int.emod_lt_of_pos m4 c20
   generalize hms:1+m4%c2=ms
   have t15:=f15.old (g14 _ _ (f13.old (g12 _ _ t11) ntl)) ntl
   have s15:=f15.old (g14 _ _ (f13.old (g12 _ _ s11) nsl)) nsl
   refine⟨_,ev,m4,rfl,c2,rfl,c20,?_⟩
   rw [hms]
   refine⟨ys1,s15,dk,s0,_,rfl,D15,by omega,λm6 H16 m60 f16 D16=>⟨m6,rfl,by omega,λp17 H17 hp17 g17 h17=>?_⟩⟩
   have s16:=f16.old s15 nsl
   have w0:=Int.emod_nonneg m6 (show ms+1≠0 by omega)
   have w1:=Int.emod_lt_of_pos m6 (show 0<ms+1 by omega)
   refine⟨ys1,g17 _ _ s16,by omega,λH18 mu=>?_⟩
   unfold PsI
   have kt:∀c xs,H11 c=some (.tup xs)->H18 c=some (.tup xs):=λc xs hc=>mu.old (g17 _ _ (D15.kt f16 c xs ((D13.same g14).kt f15 c xs (g14 _ _ ((D11.same g12).kt f13 c xs (g12 _ _ hc)))))) (λz=>by rw [z,s11] at hc;cases hc)
   have np:p17≠sl:=(ne_of_none s16 hp17).symm
   refine⟨ys1++[.ref p17],pr1++[(nth nmS sp i,m6%(ms+1),ms)],_,_,_,rfl,λc u nc hc=>mu.old (g17 _ _ (f16 c u nc (f15 c u nc (g14 _ _ (f13 c u nc (g12 _ _ (F11 c u nc hc))))))) (ne_of_none hc hsl0),((D16.same g17).mu mu (λz=>nsl (by rw [z];exact List.mem_singleton_self _)) nss).mono (by omega),mu.old (g17 _ _ (f16.old t15 ntl)) ntsl,pn11.keep kt,mu.at_,(pm11.keep kt).snoc (mu.old h17 np),by rw [List.map_append,em1,List.range_succ,List.map_append];rfl,λp hp=>?_⟩
   rcases List.mem_append.mp hp with hp | hp
   ·exact bd1 p hp
   ·rw [List.mem_singleton.mp hp]
    exact⟨w0,by show m6%(ms+1)<=ms;omega,by show 1<=ms;omega,by show ms<=999;omega⟩
  ·intro σ H11 z
   unfold PsI at z
   obtain⟨ys1,pr1,w3,w4,w6,rfl,F11,D11,t11,pn11,s11,pm11,em1,bd1⟩:=z
   clear t10 s10
   walk_at "rd"
   intro p12 H12 hp12 g12 h12 p13 H13 hp13 g13 h13 p14 H14 hp14 g14 h14 p15 H15 hp15 g15 h15 p16 H16 hp16 g16 h16 p17 H17 hp17 g17 h17
   have S17:Same H11 H17:=((((g12.trans g13).trans g14).trans g15).trans g16).trans g17
   have li1:pr1.length=n1:=by have:=congrArg List.length em1;rw [List.length_map,List.length_map,List.length_range] at this;exact this
   refine q H17 p17 tl sl ys ys1 pr pr1 (F11.same S17) ((D11.same S17).mono (by omega)) ⟨⟨_,_,h17⟩,S17 _ _ t11,S17 _ _ s11,pn11.mono S17,pm11.keep λc xs hc=>S17 _ _ hc⟩ ⟨by omega,?_,λp hp=>?_⟩ ⟨by omega,?_,λp hp=>?_⟩ htl hsl0 ⟨p12,p16,p15,p13,p14,h17,g17 _ _ (g16 _ _ (g15 _ _ (g14 _ _ (g13 _ _ h12)))),g17 _ _ h16,g17 _ _ (g16 _ _ h15),g17 _ _ (g16 _ _ (g15 _ _ (g14 _ _ h13))),g17 _ _ (g16 _ _ (g15 _ _ h14))⟩
   ·rw [em];exact nd_take (nd_T sp sp6) n06
   ·have:=bd p hp
    refine⟨this.1,this.2,?_⟩
    have hm:p.1∈pr.map (·.1):=List.mem_map_of_mem hp
    rw [em] at hm
    obtain⟨j,_,ej⟩:=List.mem_map.mp hm
    rw [<-ej]
    exact nth_mem rfl
   ·rw [em1];exact nd_take (nd_S sp sp6) n16
   ·have:=bd1 p hp
    refine⟨this.1,this.2.1,this.2.2.1,this.2.2.2,?_⟩
    have hm:p.1∈pr1.map (·.1):=List.mem_map_of_mem hp
    rw [em1] at hm
    obtain⟨j,_,ej⟩:=List.mem_map.mp hm
    rw [<-ej]
    exact nth_mem rfl
end
end K21
namespace K21
open PySem L2
def nD(pr:List (Str×Int)):List PyData:=pr.map λp=>.tuple [.str p.1,.int p.2]
def mD(pr:List (Str×Int×Int)):List PyData:=pr.map λp=>.tuple [.str p.1,.int p.2.1,.int p.2.2]
theorem PrN.rp{K:PySem.W.Frag}{H:Hp}:∀{vs:List V} {pr:List (Str×Int)},PrN H vs pr->RpL K H vs (nD pr)
 | _,_,.nil=>.nil
 | _,_,.cons h r=>.cons (.tup h (.cons (.str _) (.cons (.int _) .nil))) r.rp
theorem PrM.rp{K:PySem.W.Frag}{H:Hp}:∀{vs:List V} {pr:List (Str×Int×Int)},PrM H vs pr->RpL K H vs (mD pr)
 | _,_,.nil=>.nil
 | _,_,.cons h r=>.cons (.tup h (.cons (.str _) (.cons (.int _) (.cons (.int _) .nil)))) r.rp
theorem sh_of{ds:List PyData}(c:PyData.canLayAll0 ds=true)(d:PyData.depthAll ds<=3):SeqAt.shaped (.list ds)=true:=by
 unfold SeqAt.shaped
 have e:PyData.canLay0 (.list ds)=true:=by
  simp only [PyData.canLay0]
  exact c
 rw [e,Bool.true_and,decide_eq_true_eq]
 simp only [PyData.depth]
 omega
theorem sh_nD{pr:List (Str×Int)}(h:∀p∈pr,PyData.strOk p.1=true):SeqAt.shaped (.list (nD pr))=true:=by
 refine sh_of ?_ ?_
 ·induction pr with
  | nil=>rfl
  | cons p pr ih=>
   have:=ih λp hp=>h p (List.mem_cons_of_mem _ hp)
   have h0:=h p List.mem_cons_self
   unfold nD at this⊢
   simp only [List.map_cons,PyData.canLayAll0,PyData.canLay0,h0,Bool.and_true,Bool.true_and]
   exact this
 ·clear h
  induction pr with
  | nil=>simp [nD,PyData.depthAll]
  | cons p pr ih=>
   unfold nD at ih⊢
   simp only [List.map_cons,PyData.depthAll,PyData.depth] at ih⊢
   omega
theorem sh_mD{pr:List (Str×Int×Int)}(h:∀p∈pr,PyData.strOk p.1=true):SeqAt.shaped (.list (mD pr))=true:=by
 refine sh_of ?_ ?_
 ·induction pr with
  | nil=>rfl
  | cons p pr ih=>
   have:=ih λp hp=>h p (List.mem_cons_of_mem _ hp)
   have h0:=h p List.mem_cons_self
   unfold mD at this⊢
   simp only [List.map_cons,PyData.canLayAll0,PyData.canLay0,h0,Bool.and_true,Bool.true_and]
   exact this
 ·clear h
  induction pr with
  | nil=>simp [mD,PyData.depthAll]
  | cons p pr ih=>
   unfold mD at ih⊢
   simp only [List.map_cons,PyData.depthAll,PyData.depth] at ih⊢
   omega
theorem Prg.fr{H H':Hp}{dk s0 pp p0 p1:Addr}{k:Int}{ys0 ys1:List V}{pr0:List (Str×Int)}{pr1:List (Str×Int×Int)}(D:Dk H dk s0 k)(f:FrG [dk] H H')(n0:p0∉[dk])(n1:p1∉[dk])(h:Prg H pp p0 p1 ys0 ys1 pr0 pr1):Prg H' pp p0 p1 ys0 ys1 pr0 pr1:=by
 obtain⟨⟨x2,x3,t⟩,a,b,c,d⟩:=h
 exact⟨⟨x2,x3,f _ _ (D.tup t) t⟩,f _ _ n0 a,f _ _ n1 b,c.keep (D.kt f),d.keep (D.kt f)⟩
theorem Prg.same{H H':Hp}{pp p0 p1:Addr}{ys0 ys1:List V}{pr0:List (Str×Int)}{pr1:List (Str×Int×Int)}(g:Same H H')(h:Prg H pp p0 p1 ys0 ys1 pr0 pr1):Prg H' pp p0 p1 ys0 ys1 pr0 pr1:=by
 obtain⟨⟨x2,x3,t⟩,a,b,c,d⟩:=h
 exact⟨⟨x2,x3,g _ _ t⟩,g _ _ a,g _ _ b,c.mono g,d.keep λ_ _ hc=>g _ _ hc⟩
theorem rep1(b:Bool)(xs:List V):(List.replicate (if b=true then (1:Int) else 0).toNat xs).flatten=if b=true then xs else []:=by cases b<;>simp
def Deed(pr0:List (Str×Int))(pr1:List (Str×Int×Int))(word:Str)(h:Int)(nm:Str)(n:Int):Prop:=(h∈hs/\h∈hs7)/\0<n/\(word= "leave"\/((word= "take"\/word= "give")/\nm∈pr0.map (·.1))\/((word= "put"\/word= "get"\/word= "bring")/\nm∈pr1.map (·.1)))
section
variable{P:Program}{w:World}{K:PySem.W.Frag}{mg:Str->Option Value}{base:Heap}
def spDeed:Sp:=λvs H Q _=>∃(dk s0 pp p0 p1:Addr) (k:Int) (ys0 ys1:List V) (pr0:List (Str×Int)) (pr1:List (Str×Int×Int)),vs= [.ref dk,.ref pp]/\Dk H dk s0 k/\k<=10000/\Prg H pp p0 p1 ys0 ys1 pr0 pr1/\Pr0 pr0/\Pr1 pr1/\p0∉[dk]/\p1∉[dk]/\
 ∀(H':Hp) (dp:Addr) (word nm:Str) (h n:Int),FrG [dk] H H'->Dk H' dk s0 (k+10)->H' dp=some (.tup [.str word,.int h,.str nm,.int n])->Deed pr0 pr1 word h nm n->Q (.ref dp) H'
theorem ok_deed(D:DefAt K mg "_law_deed" s__law_deed ["deck","program"])(G__law_next:OkD P w K mg base 1 "_law_next" ["deck"] spNx)(hlen:mg "len" =none)(hmax:mg "max" =none)(hint:mg "int" =none):OkD P w K mg base 2 "_law_deed" ["deck","program"] spDeed:=by
 refine D.ok sc__law_deed (λvs H Q E h=>?_) (λf cdv A outer s H vs Q E hr h=>?_)
 ·obtain⟨_,_,_,_,_,_,_,_,_,_,rfl,_⟩:=h;rfl
 obtain⟨dk,s0,pp,p0,p1,k,ys0,ys1,pr0,pr1,rfl,D0,hk,G0,b0,b1,n0,n1,q⟩:=h
 have hu:=hu_of hr
 have hu64:=hr.units
 have big:100000<=sizeLine:=by unfold sizeLine;decide
 obtain⟨⟨x2,x3,t0⟩,l0,l1,pn,pm⟩:=id G0
 have z0:=pn.length
 have z1:=pm.length
 refine⟨_,(pss_cons (ps_set (i:=2) sc__law_deed.nd rfl (Or.inl rfl) (pe_op op_repG (pe_lstG (pa_c pe_str (pa_c pe_str (pa_c pe_str (pa_c pe_str pa_nil))))) (pe_cTy call_intB rfl hint (by decide +kernel) (pa_c (pe_cmpR (op_neD hu64) (pe_ix ix_g (pv 1) pe_int (λ_ _=>rfl)) (pe_lstG pa_nil) (nomark _)) pa_nil))))
 (pss_cons (ps_set (i:=2) sc__law_deed.nd rfl (Or.inl rfl) (pe_op op_catG (pv 2) (pe_op op_repG (pe_lstG (pa_c pe_str (pa_c pe_str (pa_c pe_str (pa_c pe_str pa_nil))))) (pe_cTy call_intB rfl hint (by decide +kernel) (pa_c (pe_cmpR (op_neD hu64) (pe_ix ix_g (pv 1) pe_int (λ_ _=>rfl)) (pe_lstG pa_nil) (nomark _)) pa_nil)))))
 (pss_cons (ps_set (i:=3) sc__law_deed.nd rfl (Or.inl rfl) (pe_ix ix_g (pe_op op_catG (pv 2) (pe_lstG (pa_c pe_str pa_nil))) (pe_op op_mod (pe_def G__law_next hr rfl (pa_c (pv 0) pa_nil)) (pe_cB (call_max2 rfl) rfl hmax (by decide +kernel) (pa_c pe_int (pa_c (pe_cB call_len_seq rfl hlen PySem.boot_len (pa_c (pv 2) pa_nil)) pa_nil)))) (λ_ _=>rfl)))
 (pss_cons (ps_set (i:=4) sc__law_deed.nd rfl (Or.inl rfl) (pe_ix ix_g (pv 1) (pe_cTy call_intB rfl hint (by decide +kernel) (pa_c (pe_cmpR op_inG (pv 3) (pe_tupG (pa_c pe_str (pa_c pe_str (pa_c pe_str pa_nil)))) (by with_unfolding_all rfl)) pa_nil)) (λ_ _=>rfl)))
 (pss_cons (ps_set (i:=5) sc__law_deed.nd rfl (Or.inl rfl) pe_str)
 (pss_cons (ps_set (i:=6) sc__law_deed.nd rfl (Or.inl rfl) pe_int)
 (pss_cons (ps_if (pt_cmpR (op_neD hu64) (pv 4) (pe_lstG pa_nil) (nomark _))
 (pss_cons (ps_set (i:=7) sc__law_deed.nd rfl (Or.inl rfl) (pe_ix ix_g (pv 4) (pe_op op_mod (pe_def G__law_next hr rfl (pa_c (pv 0) pa_nil)) (pe_cB call_len_seq rfl hlen PySem.boot_len (pa_c (pv 4) pa_nil))) (λ_ _=>rfl)))
 (pss_cons (ps_set (i:=5) sc__law_deed.nd rfl (Or.inl rfl) (pe_ix ix_g (pv 7) pe_int (λ_ _=>rfl)))
 (pss_one (ps_set (i:=6) sc__law_deed.nd rfl (Or.inl rfl) (pe_op op_add pe_int (pe_op op_mod (pe_def G__law_next hr rfl (pa_c (pv 0) pa_nil)) (pe_ix ix_g (pe_lstG (pa_c (pe_op op_add (pe_ix ix_g (pv 7) (pe_un un_neg pe_int) (λ_ _=>rfl)) pe_int) (pa_c pe_int (pa_c (pe_op op_pow pe_int pe_int) pa_nil)))) (pe_ix ix_g (pe_lstG (pa_c pe_int (pa_c pe_int (pa_c pe_int (pa_c pe_int (pa_c pe_int (pa_c pe_int pa_nil))))))) (pe_op op_mod (pe_def G__law_next hr rfl (pa_c (pv 0) pa_nil)) pe_int) (λ_ _=>rfl)) (λ_ _=>rfl))))))))
 pss_nil)
 (pss_cons (ps_if (pt_cmpR op_eq (pv 3) pe_str (nomark _))
 (pss_one (ps_set (i:=6) sc__law_deed.nd rfl (Or.inl rfl) (pe_op op_add pe_int (pe_op op_mod (pv 6) pe_int))))
 pss_nil)
 (pss_one (ps_ret (pe_tupG (pa_c (pv 3) (pa_c (pe_ix ix_g (pe_lstG (pa_c pe_int (pa_c pe_int (pa_c pe_int (pa_c pe_int (pa_c pe_int (pa_c pe_int (pa_c pe_int pa_nil)))))))) (pe_op op_mod (pe_def G__law_next hr rfl (pa_c (pv 0) pa_nil)) pe_int) (λ_ _=>rfl)) (pa_c (pv 5) (pa_c (pv 6) pa_nil))))))))))))))),?_⟩
 walk_at "rz"
 intro q1 H1 hq1 g1 h1
 have sh0:=sh_nD (pr:=pr0) λp hp=>ok_T _ (b0.2.2 p hp).2.2
 have sh1:=sh_mD (pr:=pr1) λp hp=>ok_S _ (b1.2.2 p hp).2.2.2.2
 have t1:=g1 _ _ t0
 walk_at "rz"
 intro q2 H2 hq2 g2 h2
 refine ne_nil (g2 _ _ (g1 _ _ l0)) ((pn.mono (g1.trans g2)).rp) sh0 h2 ?_
 generalize hB0:(!ys0.isEmpty)=B0
 have h12:=g2 _ _ h1
 walk_at "rz"
 refine⟨by split<;>omega,by split<;>omega,by cases B0<;>simp<;>omega,λq3 H3 hq3 g3 h3=>?_⟩
 rw [rep1] at h3
 clear h12 t1 h1 h2
 walk_at "rz"
 intro q4 H4 hq4 g4 h4
 have S4:Same H H4:=((g1.trans g2).trans g3).trans g4
 have t4:=S4 _ _ t0
 walk_at "rz"
 intro q5 H5 hq5 g5 h5
 refine ne_nil (g5 _ _ (S4 _ _ l1)) ((pm.keep λc xs hc=>g5 _ _ (S4 _ _ hc)).rp) sh1 h5 ?_
 generalize hB1:(!ys1.isEmpty)=B1
 have h45:=g5 _ _ h4
 walk_at "rz"
 refine⟨by split<;>omega,by split<;>omega,by cases B1<;>simp<;>omega,λq6 H6 hq6 g6 h6=>?_⟩
 rw [rep1] at h6
 have h36:=g6 _ _ (g5 _ _ (g4 _ _ h3))
 have S6:Same H H6:=(S4.trans g5).trans g6
 have hW:∃W:List Str,(if B0=true then [V.str "take",V.str "take",V.str "give",V.str "leave"] else [])++(if B1=true then [V.str "put",V.str "get",V.str "bring",V.str "get"] else [])=W.map V.str/\W.length<=8/\∀x∈W,((x= "take"\/x= "give"\/x= "leave")/\B0=true)\/((x= "put"\/x= "get"\/x= "bring")/\B1=true):=by
  cases B0<;>cases B1
  ·exact⟨[],rfl,by simp,λx hx=>absurd hx List.not_mem_nil⟩
  ·exact⟨["put","get","bring","get"],rfl,by simp,λx hx=>.inr ⟨by simp at hx;rcases hx with h | h | h | h<;>simp [h],rfl⟩⟩
  ·exact⟨["take","take","give","leave"],rfl,by simp,λx hx=>.inl ⟨by simp at hx;rcases hx with h | h | h<;>simp [h],rfl⟩⟩
  ·exact⟨["take","take","give","leave","put","get","bring","get"],rfl,by simp,λx hx=>by simp at hx;rcases hx with h | h | h | h | h | h | h<;>simp [h]⟩
 obtain⟨W,eW,lW,mW⟩:=hW
 clear h3 h4 h45 h5 t0 t4 l0 l1
 walk_at "rz"
 have off:∀{H':Hp} {c:Addr},Same H H'->H' c=none->c∉[dk]:=λg hc=>(D0.same g).off hc
 refine⟨by cases B0<;>cases B1<;>simp<;>omega,λq7 H7 hq7 g7 h7=>?_⟩
 rw [eW] at h7
 clear h36 h6 eW
 walk_at "rz"
 intro q8 H8 hq8 g8 h8
 have h78:=g8 _ _ h7
 walk_at "rz"
 refine⟨by rw [List.length_map];omega,λq9 H9 hq9 g9 h9=>?_⟩
 have S9:Same H H9:=((S6.trans g7).trans g8).trans g9
 clear h78
 walk_at "rz"
 refine⟨dk,s0,k,rfl,D0.same S9,by omega,λm1 H10 m10 f10 D10=>?_⟩
 have h7':=f10.old (g9 _ _ (g8 _ _ h7)) (off S6 hq7)
 have h10:=f10.old h9 (off ((S6.trans g7).trans g8) hq9)
 walk_at "rz"
 refine⟨W.map V.str,.inl (SqL.of h7'),?_⟩
 walk_at "rz"
 rw [List.length_map]
 generalize hmx:(if (W.length:Int)>1 then (W.length:Int) else 1)=mx
 have mx0:0<mx/\mx<=W.length+1:=by rw [<-hmx];split<;>omega
 obtain⟨word,ev,hw⟩:∃word,atI (W.map V.str++[V.str "leave"]) (m1%mx)=some (.str word)/\(word= "leave"\/((word= "take"\/word= "give")/\B0=true)\/((word= "put"\/word= "get"\/word= "bring")/\B1=true)):=by
  obtain⟨v,e,m,_⟩:=atI_in (xs:=W.map V.str++[V.str "leave"]) (Int.emod_nonneg m1 (show mx≠0 by omega)) (by have:=Int.emod_lt_of_pos m1 mx0.1;rw [List.length_append,List.length_map,List.length_singleton];omega)
  rcases List.mem_append.mp m with m | m
  ·obtain⟨x,hx,rfl⟩:=List.mem_map.mp m
   refine⟨x,e,?_⟩
   rcases mW x hx with ⟨h | h | h,hb⟩ | ⟨h,hb⟩
   ·exact .inr (.inl ⟨.inl h,hb⟩)
   ·exact .inr (.inl ⟨.inr h,hb⟩)
   ·exact .inl h
   ·exact .inr (.inr ⟨h,hb⟩)
  ·rw [List.mem_singleton.mp m] at e
   exact⟨_,e,.inl rfl⟩
 refine⟨mx0.1,?_⟩
 walk_at "rz"
 intro q11 H11 hq11 g11 h11
 have F11:FrG [dk] H H11:=λc u nc hc=>g11 _ _ (f10 c u nc (S9 _ _ hc))
 have G11:=((G0.same S9).fr (D0.same S9) f10 n0 n1).same g11
 have D11:=D10.same g11
 clear h7 h7' h8 h9 h10 f10 ev
 walk_at "rz"
 obtain⟨⟨y2,y3,t11⟩,l011,l111,pn11,pm11⟩:=id G11
 have tail:∀(H':Hp) (nm:Str) (n k':Int),FrG [dk] H H'->Dk H' dk s0 k'->k'<=k+9->0<n->(∀h,h∈hs/\h∈hs7->Deed pr0 pr1 word h nm n)->(7<=sizeLine/\∀(p:Addr) (H1:Hp),H' p=none->Same H' H1->H1 p=some (.lst [.int 1,.int 2,.int 3,.int 9,.int 10,.int 11,.int 100])->spNx [.ref dk] H1 (λx H2=>∃i,x=V.int i/\∃x,(H2 p=some (.tup x)\/H2 p=some (.lst x))/\∃x_2,atI x (i%7)=some x_2/\∀(p:Addr) (H3:Hp),H2 p=none->Same H2 H3->H3 p=some (.tup [.str word,x_2,.str nm,.int n])->Q (.ref p) H3) E0):=λH' nm n k' F' D' hk' hn hd=>by
  refine⟨by omega,λp H1 hp g1 h1=>⟨dk,s0,k',rfl,D'.same g1,by omega,λm2 H2 m20 f2 D2=>⟨m2,rfl,_,.inr (f2.old h1 (D'.off hp)),?_⟩⟩⟩
  obtain⟨v,ev,hv⟩:=pick (xs:=[V.int 1,V.int 2,V.int 3,V.int 9,V.int 10,V.int 11,V.int 100]) (i:=m2) 7 rfl (by decide)
  obtain⟨h,rfl,hh⟩:∃h,v= .int h/\h∈hs/\h∈hs7:=by
   simp at hv
   rcases hv with rfl | rfl | rfl | rfl | rfl | rfl | rfl<;>exact⟨_,rfl,by decide⟩
  exact⟨_,ev,λp3 H3 hp3 g3 h3=>q H3 p3 word nm h n (λc u nc hc=>g3 _ _ (f2 c u nc (g1 _ _ (F' c u nc hc)))) ((D2.same g3).mono (by omega)) h3 (hd h hh)⟩
 obtain⟨ps,ys,ds,nms,ea,nps,hps,rps,shp,hys,lnk⟩:∃(ps:Addr) (ys:List V) (ds:List PyData) (nms:List Str),atI [V.ref p0,V.ref p1,y2,y3] (if inV (V.str word) [V.str (Str.ofString "put"),V.str (Str.ofString "get"),V.str (Str.ofString "bring")]=true then 1 else 0)=some (.ref ps)/\ps∉[dk]/\H11 ps=some (.lst ys)/\RpL K H11 ys ds/\SeqAt.shaped (.list ds)=true/\(∀v∈ys,∃p nm xs c,v= .ref p/\H11 p=some (.tup xs)/\atI xs 0=some (.str nm)/\atI xs (-1)=some (.int c)/\nm∈nms/\0<=c)/\(word= "leave"\/(ys≠[]/\(((word= "take"\/word= "give")/\nms=pr0.map (·.1))\/((word= "put"\/word= "get"\/word= "bring")/\nms=pr1.map (·.1))))):=by
  have i0:∀v∈ys0,∃p nm xs c,v=V.ref p/\H11 p=some (.tup xs)/\atI xs 0=some (.str nm)/\atI xs (-1)=some (.int c)/\nm∈pr0.map (·.1)/\0<=c:=λv hv=>by
   obtain⟨i,hi⟩:=List.mem_iff_getElem?.mp hv
   obtain⟨p,nm,c,rfl,e,hp⟩:=pn11.get hi
   have:=b0.2.2 _ (List.mem_of_getElem? e)
   exact⟨p,nm,_,c,rfl,hp,atI_0,atI_last [V.str nm] _,List.mem_map_of_mem (f:=(·.1)) (List.mem_of_getElem? e),by have:=this.1;simp only at this;omega⟩
  have i1:∀v∈ys1,∃p nm xs c,v=V.ref p/\H11 p=some (.tup xs)/\atI xs 0=some (.str nm)/\atI xs (-1)=some (.int c)/\nm∈pr1.map (·.1)/\0<=c:=λv hv=>by
   obtain⟨i,hi⟩:=List.mem_iff_getElem?.mp hv
   obtain⟨p,nm,n,c,rfl,e,hp⟩:=pm11.get hi
   have:=b1.2.2 _ (List.mem_of_getElem? e)
   exact⟨p,nm,_,c,rfl,hp,atI_0,atI_last [V.str nm,V.int n] _,List.mem_map_of_mem (f:=(·.1)) (List.mem_of_getElem? e),by have:=this.2.2.1;simp only at this;omega⟩
  have ne0:B0=true->ys0≠[]:=λhb z=>by rw [<-hB0,z] at hb;cases hb
  have ne1:B1=true->ys1≠[]:=λhb z=>by rw [<-hB1,z] at hb;cases hb
  have c0:inV (V.str word) [V.str (Str.ofString "put"),V.str (Str.ofString "get"),V.str (Str.ofString "bring")]=false->atI [V.ref p0,V.ref p1,y2,y3] (if inV (V.str word) [V.str (Str.ofString "put"),V.str (Str.ofString "get"),V.str (Str.ofString "bring")]=true then 1 else 0)=some (.ref p0):=λz=>by rw [z];exact atI_0
  have c1:inV (V.str word) [V.str (Str.ofString "put"),V.str (Str.ofString "get"),V.str (Str.ofString "bring")]=true->atI [V.ref p0,V.ref p1,y2,y3] (if inV (V.str word) [V.str (Str.ofString "put"),V.str (Str.ofString "get"),V.str (Str.ofString "bring")]=true then 1 else 0)=some (.ref p1):=λz=>by rw [z];exact atI_1
  have iv:∀x:Str,inV (V.str x) [V.str (Str.ofString "put"),V.str (Str.ofString "get"),V.str (Str.ofString "bring")]=(decide (Str.ofString "put" =x) || (decide (Str.ofString "get" =x) || decide (Str.ofString "bring" =x))):=λx=>by
   simp only [inV_cons,inV_nil,eqV_ss,Bool.or_false]
  rcases hw with rfl | ⟨hw,hb⟩ | ⟨hw,hb⟩
  ·exact⟨p0,ys0,_,_,c0 (by rw [iv];simp only [ofString_inj,String.reduceEq,decide_false,Bool.or_self]),n0,l011,pn11.rp,sh0,i0,.inl rfl⟩
  ·refine⟨p0,ys0,_,_,c0 ?_,n0,l011,pn11.rp,sh0,i0,.inr ⟨ne0 hb,.inl ⟨hw,rfl⟩⟩⟩
   rw [iv]
   rcases hw with rfl | rfl<;>simp only [ofString_inj,String.reduceEq,decide_false,Bool.or_self]
  ·refine⟨p1,ys1,_,_,c1 ?_,n1,l111,pm11.rp,sh1,i1,.inr ⟨ne1 hb,.inr ⟨hw,rfl⟩⟩⟩
   rw [iv]
   rcases hw with rfl | rfl | rfl<;>simp only [ofString_inj,String.reduceEq,decide_false,decide_true,Bool.or_self,Bool.or_true,Bool.true_or,Bool.or_false,Bool.false_or]
 simp only [inV_cons,inV_nil,eqV_ss,Bool.or_false] at ea
 refine⟨_,.inl t11,_,ea,?_⟩
 clear t11 h11
 walk_at "rz"
 intro q12 H12 hq12 g12 h12
 refine ne_nil (g12 _ _ hps) (rps.mono g12) shp h12 ?_
 walk_at "rd"
 have F12:FrG [dk] H H12:=F11.same g12
 have D12:=D11.same g12
 cases hy:ys with
 | nil=>
  refine iteF ?_
  have wl:word= "leave":=lnk.elim id λz=>absurd hy z.1
  have dd:∀n:Int,0<n->∀h,h∈hs/\h∈hs7->Deed pr0 pr1 word h (Str.ofString "") n:=λn hn h hh=>⟨hh,hn,.inl wl⟩
  refine ite2 (λ_=>?_) λ_=>?_
  ·exact tail H12 (Str.ofString "") (1+1%999) _ F12 D12 (by omega) (by decide) (dd _ (by decide))
  ·exact tail H12 (Str.ofString "") 1 _ F12 D12 (by omega) (by decide) (dd _ (by decide))
 | cons v0 ys'=>
  refine iteT ?_
  have hne:0<ys.length:=by rw [hy];simp
  clear h12
  refine⟨dk,s0,_,rfl,D12,by omega,λm2 H13 m20 f13 D13=>?_⟩
  have hps13:=f13.old (g12 _ _ hps) nps
  obtain⟨v,ev2,hvm,_⟩:=atI_in (xs:=ys) (Int.emod_nonneg m2 (show(ys.length:Int)≠0 by omega)) (Int.emod_lt_of_pos m2 (by omega))
  obtain⟨p,nm,xs,c,rfl,hp,a0,a1,hnm,hc⟩:=hys v hvm
  have hp13:=f13.old (g12 _ _ hp) (D12.tup (g12 _ _ hp))
  refine⟨ys,.inl (SqL.of hps13),m2,rfl,by omega,ys,.inr hps13,_,ev2,p,rfl,xs,.inl hp13,_,a0,dk,s0,_,rfl,D13,by omega,λm3 H14 m30 f14 D14=>⟨p,rfl,xs,.inl (f14.old hp13 (D13.tup hp13)),_,a1,c,rfl,λq15 H15 hq15 g15 h15=>?_⟩⟩
  intro q16 H16 hq16 g16 h16
  have D16:=(D14.same g15).same g16
  refine⟨dk,s0,_,rfl,D16,by omega,λm4 H17 m40 f17 D17=>⟨m4,rfl,_,.inr (f17.old h16 ((D14.same g15).off hq16)),?_⟩⟩
  obtain⟨v,ev3,hv⟩:=pick (xs:=[V.int 0,V.int 0,V.int 1,V.int 1,V.int 1,V.int 2]) (i:=m4) 6 rfl (by decide)
  obtain⟨j,rfl,j0,j2⟩:∃j,v= .int j/\0<=j/\j<=2:=by
   simp at hv
   rcases hv with rfl | rfl | rfl<;>exact⟨_,rfl,by decide,by decide⟩
  obtain⟨v,ev4,hv4,_⟩:=atI_in (xs:=[V.int (c+1),V.int 3,V.int 1000000]) j0 (by simp;omega)
  obtain⟨c4,rfl,c40⟩:∃c4,v= .int c4/\0<c4:=by
   simp at hv4
   rcases hv4 with rfl | rfl | rfl
   ·exact⟨_,rfl,by omega⟩
   ·exact⟨_,rfl,by decide⟩
   ·exact⟨_,rfl,by decide⟩
  have F17:FrG [dk] H H17:=λc u nc hc=>f17 c u nc (g16 _ _ (g15 _ _ (f14 c u nc (f13 c u nc (F12 c u nc hc)))))
  have r0:=Int.emod_nonneg m3 (show c4≠0 by omega)
  have dd:∀n:Int,0<n->∀h,h∈hs/\h∈hs7->Deed pr0 pr1 word h nm n:=λn hn h hh=>⟨hh,hn,lnk.elim (λz=>.inl z) λz=>.inr (z.2.elim (λy=>.inl ⟨y.1,y.2▸hnm⟩) λy=>.inr ⟨y.1,y.2▸hnm⟩)⟩
  refine⟨_,ev3,j,rfl,_,.inr (f17.old (g16 _ _ h15) ((D14).off hq15)),_,ev4,m3,rfl,c4,rfl,c40,ite2 (λ_=>?_) λ_=>?_⟩
  ·have s0':=Int.emod_nonneg (1+m3%c4) (show(999:Int)≠0 by decide)
   exact tail H17 nm (1+(1+m3%c4)%999) _ F17 D17 (by omega) (by omega) (dd _ (by omega))
  ·exact tail H17 nm (1+m3%c4) _ F17 D17 (by omega) (by omega) (dd _ (by omega))
end
end K21
namespace K21
open PySem L2
def NnH(l:List (Int×Int)):Prop:=∀p∈l,0<=p.2
theorem nn_get{h:Int}:∀{l:List (Int×Int)},NnH l->0<=getI l h
 | [],_=>Int.le_refl _
 | (k,y)::r,n=>by
  show 0<=(if k=h then y else getI r h)
  by_cases c:k=h
  ·rw [if_pos c];exact n (k,y) List.mem_cons_self
  ·rw [if_neg c];exact nn_get λp hp=>n p (List.mem_cons_of_mem _ hp)
theorem nn_put{h x:Int}(hx:0<=x):∀{l:List (Int×Int)},NnH l->NnH (putI l h x)
 | [],_,p,hp=>by
  have hp:p∈[(h,x)]:=hp
  rw [List.mem_singleton.mp hp];exact hx
 | (k,y)::r,n,p,hp=>by
  have hp:p∈(if k=h then (k,x)::r else (k,y)::putI r h x):=hp
  by_cases c:k=h
  ·rw [if_pos c] at hp
   rcases List.mem_cons.mp hp with rfl | hp
   ·exact hx
   ·exact n p (List.mem_cons_of_mem _ hp)
  ·rw [if_neg c] at hp
   rcases List.mem_cons.mp hp with rfl | hp
   ·exact n _ List.mem_cons_self
   ·exact nn_put hx (λp hp=>n p (List.mem_cons_of_mem _ hp)) p hp
structure TOk(t:TS):Prop where
 nn:NnH t.held
 ps:∀p∈t.que,0<p.2
theorem take_ok{h n:Int}{t:TS}(T:TOk t)(hn:0<n):TOk (takeS t h n).2/\(takeS t h n).2.que.length<=t.que.length+1:=by
 unfold takeS
 by_cases w:t.que≠[]\/t.free<n
 ·rw [if_pos w]
  refine⟨⟨T.nn,λp hp=>?_⟩,by simp⟩
  have hp:p∈t.que++[(h,n)]:=hp
  rcases List.mem_append.mp hp with hp | hp
  ·exact T.ps p hp
  ·rw [List.mem_singleton.mp hp];exact hn
 ·rw [if_neg w]
  exact⟨⟨nn_put (Int.add_nonneg (nn_get T.nn) (Int.le_of_lt hn)) T.nn,T.ps⟩,Nat.le_succ _⟩
theorem srv_ok:∀(q:List (Int×Int)) (t:TS),t.que=q->NnH t.held->(∀p∈q,0<p.2)->TOk (srv q t).2/\(srv q t).2.que.length<=q.length
 | [],t,e,nn,ps=>⟨⟨nn,λp hp=>ps p (e▸hp)⟩,Nat.le_of_eq (congrArg List.length e)⟩
 | (h,n)::q,t,e,nn,ps=>by
  by_cases w:n<=t.free
  ·rw [srv_cons w]
   obtain⟨i1,i2⟩:=srv_ok q (outS ⟨t.free,t.held,q⟩ h n) rfl (nn_put (Int.add_nonneg (nn_get nn) (Int.le_of_lt (ps (h,n) List.mem_cons_self))) nn) λp hp=>ps p (List.mem_cons_of_mem _ hp)
   exact⟨i1,Nat.le_trans i2 (Nat.le_succ _)⟩
  ·have e2:srv ((h,n)::q) t=([],t):=by show(if n<=t.free then _ else _)=_;rw [if_neg w]
   rw [e2]
   exact⟨⟨nn,λp hp=>ps p (e▸hp)⟩,Nat.le_of_eq (congrArg List.length e)⟩
theorem give_ok{h n:Int}{t:TS}(T:TOk t):TOk (giveS t h n).2/\(giveS t h n).2.que.length<=t.que.length:=by
 have g1:giv t h n<=getI t.held h:=by unfold giv;split<;>omega
 exact srv_ok t.que (outS t h (-(giv t h n))) rfl (nn_put (by omega) T.nn) T.ps
theorem stp_some{s s1:SS}{it:Int×Bool×Int}(h:stp s=some (it,s1)):(it.2.1=true/\s.gets=(it.1,it.2.2)::s1.gets/\s1.puts=s.puts/\s1.most=s.most/\s1.level=s.level-it.2.2/\it.2.2<=s.level)\/(it.2.1=false/\s.puts=(it.1,it.2.2)::s1.puts/\s1.gets=s.gets/\s1.most=s.most/\s1.level=s.level+it.2.2/\s.level+it.2.2<=s.most):=by
 obtain⟨l,m,gs,ps⟩:=s
 have hp:stpP ⟨l,m,gs,ps⟩=some (it,s1)->it.2.1=false/\ps=(it.1,it.2.2)::s1.puts/\s1.gets=gs/\s1.most=m/\s1.level=l+it.2.2/\l+it.2.2<=m:=λz=>by
  cases ps with
  | nil=>cases z
  | cons p q=>
   have z:(if l+p.2<=m then some ((p.1,false,p.2),(⟨l+p.2,m,gs,q⟩:SS)) else none)=some (it,s1):=z
   by_cases c:l+p.2<=m
   ·rw [if_pos c] at z;cases z;exact⟨rfl,rfl,rfl,rfl,rfl,c⟩
   ·rw [if_neg c] at z;cases z
 cases gs with
 | nil=>exact .inr (hp h)
 | cons p0 gs=>
  obtain⟨h0,n0⟩:=p0
  have h:(if n0<=l then some ((h0,true,n0),(⟨l-n0,m,gs,ps⟩:SS)) else stpP ⟨l,m,(h0,n0)::gs,ps⟩)=some (it,s1):=h
  by_cases c:n0<=l
  ·rw [if_pos c] at h;cases h;exact .inl ⟨rfl,rfl,rfl,rfl,rfl,c⟩
  ·rw [if_neg c] at h;exact .inr (hp h)
theorem sbt_ok{s s':SS}{its:List (Int×Bool×Int)}(h:Sbt s its s'):s'.most=s.most/\s'.gets.length<=s.gets.length/\s'.puts.length<=s.puts.length:=by
 induction h with
 | done h=>exact⟨rfl,Nat.le_refl _,Nat.le_refl _⟩
 | @step s s1 s' it its h _ ih=>
  rcases stp_some h with ⟨_,e2,e3,e4,_⟩ | ⟨_,e2,e3,e4,_⟩
  ·exact⟨ih.1.trans e4,Nat.le_trans ih.2.1 (by rw [e2];exact Nat.le_succ _),by rw [<-e3];exact ih.2.2⟩
  ·exact⟨ih.1.trans e4,by rw [<-e3];exact ih.2.1,Nat.le_trans ih.2.2 (by rw [e2];exact Nat.le_succ _)⟩
theorem put_ok{s s':SS}{h n:Int}{b:Bool}{its:List (Int×Bool×Int)}(r:PutR s h n b its s'):s'.most=s.most/\s'.gets.length<=s.gets.length+1/\s'.puts.length<=s.puts.length+1:=by
 unfold PutR at r
 by_cases w:s.puts≠[]\/s.most<s.level+n
 ·rw [if_pos w] at r
  obtain⟨rfl,rfl,rfl⟩:=r
  exact⟨rfl,Nat.le_succ _,by simp⟩
 ·rw [if_neg w] at r
  have i:=sbt_ok r.2
  exact⟨i.1,Nat.le_trans i.2.1 (Nat.le_succ _),Nat.le_trans i.2.2 (Nat.le_succ _)⟩
theorem get_ok{s s':SS}{h n:Int}{b:Bool}{its:List (Int×Bool×Int)}(r:GetR s h n b its s'):s'.most=s.most/\s'.gets.length<=s.gets.length+1/\s'.puts.length<=s.puts.length+1:=by
 unfold GetR at r
 by_cases w:s.gets≠[]\/s.level<n
 ·rw [if_pos w] at r
  obtain⟨rfl,rfl,rfl⟩:=r
  exact⟨rfl,by simp,Nat.le_succ _⟩
 ·rw [if_neg w] at r
  have i:=sbt_ok r.2
  exact⟨i.1,Nat.le_trans i.2.1 (Nat.le_succ _),Nat.le_trans i.2.2 (Nat.le_succ _)⟩
end K21
namespace K21
open PySem L2
structure GOk(es:List Ent)(ss:List EntS)(k:Nat):Prop where
 tk:∀e∈es,TOk e.t/\e.t.que.length<=k
 st:∀e∈ss,e.s.gets.length<=k/\e.s.puts.length<=k
structure Aft(es:List Ent)(ss:List EntS)(k:Nat)(es':List Ent)(ss':List EntS):Prop where
 nE:es'.map (λe=>(e.name,e.c))=es.map (λe=>(e.name,e.c))
 nS:ss'.map (λe=>(e.name,e.s.most))=ss.map (λe=>(e.name,e.s.most))
 aE:adE es'=adE es
 aS:adS ss'=adS ss
 ok:GOk es' ss' (k+1)
theorem GOk.mono{es:List Ent}{ss:List EntS}{k k':Nat}(h:GOk es ss k)(l:k<=k'):GOk es ss k':=
 ⟨λe he=>⟨(h.tk e he).1,Nat.le_trans (h.tk e he).2 l⟩,λe he=>⟨Nat.le_trans (h.st e he).1 l,Nat.le_trans (h.st e he).2 l⟩⟩
theorem aft_tool{l1 l2:List Ent}{e:Ent}{ss:List EntS}{k:Nat}{t:TS}(G:GOk (l1++e::l2) ss k)(T:TOk t)(lq:t.que.length<=e.t.que.length+1):Aft (l1++e::l2) ss k (l1++{e with t:=t}::l2) ss where
 nE:=by rw [List.map_append,List.map_append,List.map_cons,List.map_cons]
 nS:=rfl
 aE:=by rw [adE_mid,adE_mid]
 aS:=rfl
 ok:=by
  have G':=G.mono (Nat.le_succ k)
  refine⟨λe' he'=>?_,G'.st⟩
  rcases List.mem_append.mp he' with h | h
  ·exact G'.tk e' (List.mem_append_left _ h)
  ·rcases List.mem_cons.mp h with rfl | h
   ·exact⟨T,Nat.le_trans lq (Nat.succ_le_succ (G.tk e (List.mem_append_right _ List.mem_cons_self)).2)⟩
   ·exact G'.tk e' (List.mem_append_right _ (List.mem_cons_of_mem _ h))
theorem aft_store{es:List Ent}{l1 l2:List EntS}{e:EntS}{k:Nat}{s:SS}(G:GOk es (l1++e::l2) k)(h:s.most=e.s.most/\s.gets.length<=e.s.gets.length+1/\s.puts.length<=e.s.puts.length+1):Aft es (l1++e::l2) k es (l1++{e with s:=s}::l2) where
 nE:=rfl
 nS:=by rw [List.map_append,List.map_append,List.map_cons,List.map_cons,h.1]
 aE:=rfl
 aS:=by rw [adS_mid,adS_mid]
 ok:=by
  have G':=G.mono (Nat.le_succ k)
  refine⟨G'.tk,λe' he'=>?_⟩
  rcases List.mem_append.mp he' with h' | h'
  ·exact G'.st e' (List.mem_append_left _ h')
  ·rcases List.mem_cons.mp h' with rfl | h'
   ·have g:=G.st e (List.mem_append_right _ List.mem_cons_self)
    exact⟨Nat.le_trans h.2.1 (Nat.succ_le_succ g.1),Nat.le_trans h.2.2 (Nat.succ_le_succ g.2)⟩
   ·exact G'.st e' (List.mem_append_right _ (List.mem_cons_of_mem _ h'))
theorem lv1_ok{h:Int}{e:Ent}(T:TOk e.t):TOk (lv1 h e).t/\(lv1 h e).t.que.length<=e.t.que.length:=by
 unfold lv1
 by_cases c:0<getI e.t.held h
 ·rw [if_pos c]
  exact give_ok T
 ·rw [if_neg c]
  exact⟨T,Nat.le_refl _⟩
theorem aft_leave{h:Int}{es:List Ent}{ss:List EntS}{k:Nat}(G:GOk es ss k):Aft es ss k (es.map (lv1 h)) ss where
 nE:=by
  rw [List.map_map]
  refine List.map_congr_left λe _=>?_
  obtain⟨h1,_,_,_,h5⟩:=lv1_name (h:=h) (e:=e)
  show((lv1 h e).name,(lv1 h e).c)=_
  rw [h1,h5]
 nS:=rfl
 aE:=adE_map es
 aS:=rfl
 ok:=by
  refine⟨λe' he'=>?_,(G.mono (Nat.le_succ k)).st⟩
  obtain⟨e,he,rfl⟩:=List.mem_map.mp he'
  obtain⟨T,l⟩:=G.tk e he
  obtain⟨g1,g2⟩:=lv1_ok (h:=h) T
  exact⟨g1,Nat.le_trans g2 (Nat.le_trans l (Nat.le_succ k))⟩
end K21
namespace K21
open PySem L2
theorem FrG.up{cs cs':List Addr}{H H':Hp}(f:FrG cs H H')(h:∀c∈cs,c∈cs'):FrG cs' H H':=λc u n hc=>f c u (λz=>n (h c z)) hc
def Kt(H H':Hp):Prop:=∀c xs,H c=some (.tup xs)->H' c=some (.tup xs)
theorem Kt.of{H H':Hp}(g:Same H H'):Kt H H':=λ_ _ h=>g _ _ h
mutual
inductive RpC (H:Hp):V->PyData->List Addr->Prop
 | bl (b:Bool):RpC H (.bl b) (.bool b) []
 | int (i:Int):RpC H (.int i) (.int i) []
 | str (s:Str):RpC H (.str s) (.str s) []
 | tup {a:Addr} {xs:List V} {ds:List PyData} {C:List Addr}:H a=some (.tup xs)->RpCL H xs ds C->RpC H (.ref a) (.tuple ds) C
 | lst {a:Addr} {xs:List V} {ds:List PyData} {C:List Addr}:H a=some (.lst xs)->RpCL H xs ds C->RpC H (.ref a) (.list ds) (a::C)
inductive RpCL (H:Hp):List V->List PyData->List Addr->Prop
 | nil:RpCL H [] [] []
 | cons {v:V} {vs:List V} {d:PyData} {ds:List PyData} {C C':List Addr}:RpC H v d C->RpCL H vs ds C'->RpCL H (v::vs) (d::ds) (C++C')
end
mutual
theorem RpC.rp{K:PySem.W.Frag}{H:Hp}{v:V}{d:PyData}{C:List Addr}:RpC H v d C->Rp K H v d
 | .bl b=>.bl b
 | .int i=>.int i
 | .str s=>.str s
 | .tup h r=>.tup h r.rp
 | .lst h r=>.lst h r.rp
theorem RpCL.rp{K:PySem.W.Frag}{H:Hp}{vs:List V}{ds:List PyData}{C:List Addr}:RpCL H vs ds C->RpL K H vs ds
 | .nil=>.nil
 | .cons h r=>.cons h.rp r.rp
end
mutual
theorem RpC.fr{H H':Hp}{cs:List Addr}(f:FrG cs H H')(kt:Kt H H'){v:V}{d:PyData}{C:List Addr}:RpC H v d C->(∀c∈C,c∉cs)->RpC H' v d C
 | .bl b,_=>.bl b
 | .int i,_=>.int i
 | .str s,_=>.str s
 | .tup h r,n=>.tup (kt _ _ h) (r.fr f kt n)
 | .lst h r,n=>.lst (f _ _ (n _ List.mem_cons_self) h) (r.fr f kt λc hc=>n c (List.mem_cons_of_mem _ hc))
theorem RpCL.fr{H H':Hp}{cs:List Addr}(f:FrG cs H H')(kt:Kt H H'){vs:List V}{ds:List PyData}{C:List Addr}:RpCL H vs ds C->(∀c∈C,c∉cs)->RpCL H' vs ds C
 | .nil,_=>.nil
 | .cons h r,n=>.cons (h.fr f kt λc hc=>n c (List.mem_append_left _ hc)) (r.fr f kt λc hc=>n c (List.mem_append_right _ hc))
end
theorem RpC.same{H H':Hp}(g:Same H H'){v:V}{d:PyData}{C:List Addr}(h:RpC H v d C):RpC H' v d C:=h.fr (cs:=[]) (λc u _ hc=>g c u hc) (Kt.of g) λ_ _=>List.not_mem_nil
theorem RpCL.same{H H':Hp}(g:Same H H'){vs:List V}{ds:List PyData}{C:List Addr}(h:RpCL H vs ds C):RpCL H' vs ds C:=h.fr (cs:=[]) (λc u _ hc=>g c u hc) (Kt.of g) λ_ _=>List.not_mem_nil
mutual
theorem RpC.has{H:Hp}{v:V}{d:PyData}{C:List Addr}:RpC H v d C->∀c∈C,∃xs,H c=some (.lst xs)
 | .bl b,_,h=>absurd h List.not_mem_nil
 | .int i,_,h=>absurd h List.not_mem_nil
 | .str s,_,h=>absurd h List.not_mem_nil
 | .tup _ r,c,h=>r.has c h
 | .lst h r,c,hc=>by
  rcases List.mem_cons.mp hc with e | e
  ·rw [e];exact⟨_,h⟩
  ·exact r.has c e
theorem RpCL.has{H:Hp}{vs:List V}{ds:List PyData}{C:List Addr}:RpCL H vs ds C->∀c∈C,∃xs,H c=some (.lst xs)
 | .nil,_,h=>absurd h List.not_mem_nil
 | .cons h r,c,hc=>by
  rcases List.mem_append.mp hc with e | e
  ·exact h.has c e
  ·exact r.has c e
end
def tkD(l:List (Int×Int)):List PyData:=l.map λp=>.tuple [.int p.1,.str "takes",.int p.2]
def stD(l:List (Int×Bool×Int)):List PyData:=l.map λp=>.tuple [.int p.1,.str (wordOf p.2.1),.int p.2.2]
def lvD(l:List (Str×Int×List (Int×Int))):List PyData:=l.map λx=>.tuple [.str x.1,.int x.2.1,.list (tkD x.2.2)]
theorem Svd.rc{H:Hp}{vs:List V}{ps:List (Int×Int)}(t:Svd "takes" H vs ps):RpCL H vs (tkD ps) []:=by
 induction t with
 | nil=>exact .nil
 | cons h _ ih=>exact .cons (.tup h (.cons (.int _) (.cons (.str _) (.cons (.int _) .nil)))) ih
theorem Sv3.rc{H:Hp}{vs:List V}{ps:List (Int×Bool×Int)}(t:Sv3 H vs ps):RpCL H vs (stD ps) []:=by
 induction t with
 | nil=>exact .nil
 | cons h _ ih=>exact .cons (.tup h (.cons (.int _) (.cons (.str _) (.cons (.int _) .nil)))) ih
theorem LvL.rc{bad:List Addr}{H0 H:Hp}{C:List Addr}{vs:List V}{l:List (Str×Int×List (Int×Int))}(t:LvL bad H0 H C vs l):RpCL H vs (lvD l) C:=by
 induction t with
 | nil=>exact .nil
 | cons h1 h2 _ h0 sd _ ih=>exact .cons (.tup h1 (.cons (.str _) (.cons (.int _) (.cons (.lst h2 sd.rc) .nil)))) ih
inductive Dd (es:List Ent) (ss:List EntS) (word nm:Str) (h n:Int):List Ent->List EntS->PyData->Prop
 | take {l1 l2:List Ent} {e:Ent}:word= "take"->es=l1++e::l2->e.name=nm->Dd es ss word nm h n (l1++{e with t:=(takeS e.t h n).2}::l2) ss (.bool (takeS e.t h n).1)
 | give {l1 l2:List Ent} {e:Ent}:word= "give"->es=l1++e::l2->e.name=nm->Dd es ss word nm h n (l1++{e with t:=(giveS e.t h n).2}::l2) ss (.tuple [.int (giv e.t h n),.list (tkD (giveS e.t h n).1)])
 | put {l1 l2:List EntS} {e:EntS} {b:Bool} {its:List (Int×Bool×Int)} {s':SS}:word= "put"->ss=l1++e::l2->e.name=nm->PutR e.s h n b its s'->Dd es ss word nm h n es (l1++{e with s:=s'}::l2) (.tuple [.bool b,.list (stD its)])
 | get {l1 l2:List EntS} {e:EntS} {b:Bool} {its:List (Int×Bool×Int)} {s':SS}:word= "get"->ss=l1++e::l2->e.name=nm->GetR e.s h n b its s'->Dd es ss word nm h n es (l1++{e with s:=s'}::l2) (.tuple [.bool b,.list (stD its)])
 | bring {l1 l2:List EntS} {e:EntS} {its:List (Int×Bool×Int)} {s':SS}:word= "bring"->ss=l1++e::l2->e.name=nm->Sbt ⟨e.s.level+brg e.s n,e.s.most,e.s.gets,e.s.puts⟩ its s'->Dd es ss word nm h n es (l1++{e with s:=s'}::l2) (.tuple [.int (brg e.s n),.list (stD its)])
 | leave:word= "leave"->Dd es ss word nm h n (es.map (lv1 h)) ss (.list (lvD (es.filterMap (lvI h))))
section
variable{P:Program}{w:World}{K:PySem.W.Frag}{mg:Str->Option Value}{base:Heap}
def spAsk(CG CT CS:Addr):Sp:=λvs H Q _=>∃(g dt ds dp:Addr) (es:List Ent) (ss:List EntS) (k:Nat) (word nm:Str) (h n:Int),vs= [.ref g,.ref dp]/\GoA CG CT CS H g dt ds es ss/\GOk es ss k/\k<=110/\es.length<=10/\H dp=some (.tup [.str word,.int h,.str nm,.int n])/\h∈hs/\0<n/\(word= "leave"\/((word= "take"\/word= "give")/\nm∈es.map (·.name))\/((word= "put"\/word= "get"\/word= "bring")/\nm∈ss.map (·.name)))/\
 ∀(H':Hp) (v:V) (es':List Ent) (ss':List EntS),FrG (adE es++adS ss) H H'->GoA CG CT CS H' g dt ds es' ss'->Aft es ss k es' ss'->(∃d C,RpC H' v d C/\C.Nodup/\(∀c∈C,H c=none)/\Dd es ss word nm h n es' ss' d)->Q v H'
theorem ok_ask{CG CT CS:Addr}(D:DefAt K mg "_law_asked" s__law_asked ["goods","deed"])(G_Goods_take:OkM P w K mg base 2 CG "take" ["self","hand","name","n"] (spTake CG CT))(G_Goods_give:OkM P w K mg base 3 CG "give" ["self","hand","name","n"] (spGive CG CT))(G_Goods_put:OkM P w K mg base 2 CG "put" ["self","hand","name","n"] (spPut CG CS))(G_Goods_get:OkM P w K mg base 2 CG "get" ["self","hand","name","n"] (spGet CG CS))(G_Goods_bring:OkM P w K mg base 2 CG "bring" ["self","name","n"] (spBring CG CS))(G_Goods_leave:OkM P w K mg base 4 CG "leave" ["self","hand"] (spLeave CG CT CS)):OkD P w K mg base 5 "_law_asked" ["goods","deed"] (spAsk CG CT CS):=by
 refine D.ok sc__law_asked (λvs H Q E h=>?_) (λf cdv A outer s H vs Q E hr h=>?_)
 ·obtain⟨_,_,_,_,_,_,_,_,_,_,_,rfl,_⟩:=h;rfl
 obtain⟨g,dt,ds,dp,es,ss,k,word,nm,h,n,rfl,G,ok,hk,le,hd,hh,hn,hw,q⟩:=h
 obtain⟨⟨dx,g1⟩,_⟩:=id G
 have uE:∀{H':Hp},FrG (adE es) H H'->FrG (adE es++adS ss) H H':=λf=>f.up λc hc=>List.mem_append_left _ hc
 have uS:∀{H':Hp},FrG (adS ss) H H'->FrG (adE es++adS ss) H H':=λf=>f.up λc hc=>List.mem_append_right _ hc
 have splE:nm∈es.map (·.name)->∃l1 e l2,es=l1++e::l2/\e.name=nm:=λhm=>by
  obtain⟨e,he,z⟩:=List.mem_map.mp hm
  obtain⟨l1,l2,z2⟩:=List.append_of_mem he
  exact⟨l1,e,l2,z2,z⟩
 have splS:nm∈ss.map (·.name)->∃l1 e l2,ss=l1++e::l2/\e.name=nm:=λhm=>by
  obtain⟨e,he,z⟩:=List.mem_map.mp hm
  obtain⟨l1,l2,z2⟩:=List.append_of_mem he
  exact⟨l1,e,l2,z2,z⟩
 refine⟨_,(pss_cons (ps_asg (pv 1) (pg_tupG 4 rfl (pgs_cons (pg_name (i:=2) sc__law_asked.nd rfl (Or.inl rfl)) (pgs_cons (pg_name (i:=3) sc__law_asked.nd rfl (Or.inl rfl)) (pgs_cons (pg_name (i:=4) sc__law_asked.nd rfl (Or.inl rfl)) (pgs_cons (pg_name (i:=5) sc__law_asked.nd rfl (Or.inl rfl)) pgs_nil))))))
 (pss_cons (ps_if (pt_cmpR op_eq (pv 2) pe_str (nomark _))
 (pss_one (ps_ret (pe_methG G_Goods_leave hr (pv 0) (pa_c (pv 3) pa_nil))))
 pss_nil)
 (pss_cons (ps_if (pt_cmpR op_eq (pv 2) pe_str (nomark _))
 (pss_one (ps_ret (pe_methG G_Goods_give hr (pv 0) (pa_c (pv 3) (pa_c (pv 4) (pa_c (pv 5) pa_nil))))))
 pss_nil)
 (pss_cons (ps_if (pt_cmpR op_eq (pv 2) pe_str (nomark _))
 (pss_one (ps_ret (pe_methG G_Goods_take hr (pv 0) (pa_c (pv 3) (pa_c (pv 4) (pa_c (pv 5) pa_nil))))))
 pss_nil)
 (pss_cons (ps_if (pt_cmpR op_eq (pv 2) pe_str (nomark _))
 (pss_one (ps_ret (pe_methG G_Goods_put hr (pv 0) (pa_c (pv 3) (pa_c (pv 4) (pa_c (pv 5) pa_nil))))))
 pss_nil)
 (pss_cons (ps_if (pt_cmpR op_eq (pv 2) pe_str (nomark _))
 (pss_one (ps_ret (pe_methG G_Goods_get hr (pv 0) (pa_c (pv 3) (pa_c (pv 4) (pa_c (pv 5) pa_nil))))))
 pss_nil)
 (pss_one (ps_ret (pe_methG G_Goods_bring hr (pv 0) (pa_c (pv 4) (pa_c (pv 5) pa_nil))))))))))),?_⟩
 rcases hw with rfl | ⟨rfl | rfl,hm⟩ | ⟨rfl | rfl | rfl,hm⟩
 ·walk_at "rd"
  exact⟨g,dt,ds,es,ss,h,rfl,G,hh,le,λH' lf vs C f hlf G' hl lv nC=>q H' (.ref lf) _ ss (uE f) G' (aft_leave ok) ⟨_,lf::C,.lst hl lv.rc,List.nodup_cons.mpr ⟨λz=>(lv.has _ z).2.2 List.mem_cons_self,nC⟩,λc hc=>by
   rcases List.mem_cons.mp hc with e | e
   ·rw [e];exact hlf
   ·exact(lv.has _ e).2.1,.leave rfl⟩⟩
 ·obtain⟨l1,e,l2,rfl,rfl⟩:=splE hm
  have me:=ok.tk e (List.mem_append_right _ List.mem_cons_self)
  have t:=take_ok (h:=h) (n:=n) me.1 hn
  walk_at "rd"
  exact go_take G hh (by omega) λH' f G'=>q H' _ _ ss (uE f) G' (aft_tool ok t.1 t.2) ⟨_,[],.bl _,List.nodup_nil,λc hc=>absurd hc List.not_mem_nil,.take rfl rfl rfl⟩
 ·obtain⟨l1,e,l2,rfl,rfl⟩:=splE hm
  have me:=ok.tk e (List.mem_append_right _ List.mem_cons_self)
  have t:=give_ok (h:=h) (n:=n) me.1
  walk_at "rd"
  exact go_give G hh λH' p r sv f hr hp hl sd G'=>q H' _ _ ss (uE f) G' (aft_tool ok t.1 (Nat.le_succ_of_le t.2)) ⟨_,[r],.tup hp (.cons (.int _) (.cons (.lst hl sd.rc) .nil)),by simp,λc hc=>by rw [List.mem_singleton.mp hc];exact hr,.give rfl rfl rfl⟩
 ·obtain⟨l1,e,l2,rfl,rfl⟩:=splS hm
  have me:=ok.st e (List.mem_append_right _ List.mem_cons_self)
  walk_at "rd"
  exact go_put G (by omega) (by omega) λH' p r sv b its s' f hr hp hl sd G' pr=>q H' _ es _ (uS f) G' (aft_store ok (put_ok pr)) ⟨_,[r],.tup hp (.cons (.bl _) (.cons (.lst hl sd.rc) .nil)),by simp,λc hc=>by rw [List.mem_singleton.mp hc];exact hr,.put rfl rfl rfl pr⟩
 ·obtain⟨l1,e,l2,rfl,rfl⟩:=splS hm
  have me:=ok.st e (List.mem_append_right _ List.mem_cons_self)
  walk_at "rd"
  exact go_get G (by omega) (by omega) λH' p r sv b its s' f hr hp hl sd G' pr=>q H' _ es _ (uS f) G' (aft_store ok (get_ok pr)) ⟨_,[r],.tup hp (.cons (.bl _) (.cons (.lst hl sd.rc) .nil)),by simp,λc hc=>by rw [List.mem_singleton.mp hc];exact hr,.get rfl rfl rfl pr⟩
 ·obtain⟨l1,e,l2,rfl,rfl⟩:=splS hm
  walk_at "rd"
  refine go_bring G λH' p r sv b its s' f hr hp hl sd G' eb b0 b1 b2 pr=>?_
  have t:=sbt_ok pr
  subst eb
  exact q H' _ es _ (uS f) G' (aft_store ok ⟨t.1,Nat.le_succ_of_le t.2.1,Nat.le_succ_of_le t.2.2⟩) ⟨_,[r],.tup hp (.cons (.int _) (.cons (.lst hl sd.rc) .nil)),by simp,λc hc=>by rw [List.mem_singleton.mp hc];exact hr,.bring rfl rfl rfl pr⟩
end
end K21
namespace K21
open PySem L2
def sumH:List (Int×Int)->Int->Int
 | [],_=>0
 | (k,x)::r,h=>if k=h then x+sumH r h else sumH r h
theorem sum_app(l m:List (Int×Int))(h:Int):sumH (l++m) h=sumH l h+sumH m h:=by
 induction l with
 | nil=>show sumH m h=0+sumH m h;omega
 | cons p l ih=>
  obtain⟨k,x⟩:=p
  rw [List.cons_append,sumH,sumH,ih]
  split<;>omega
theorem sum_one(k x h:Int):sumH [(k,x)] h=if k=h then x else 0:=by
 rw [sumH,sumH]
 split<;>omega
def offH(l:List (Int×Int))(h:Int):List (Int×Int):=l.filter λp=>decide (p.1≠h)
theorem sum_off(l:List (Int×Int))(h k:Int):sumH (offH l h) k=if k=h then 0 else sumH l k:=by
 induction l with
 | nil=>rw [show offH [] h= [] from rfl,sumH];split<;>rfl
 | cons p l ih=>
  obtain⟨a,x⟩:=p
  by_cases c:a=h
  ·rw [show offH ((a,x)::l) h=offH l h from List.filter_cons_of_neg (by simp [c]),ih,sumH]
   split
   ·rfl
   ·next e=>rw [if_neg (λz=>e (by omega))]
  ·rw [show offH ((a,x)::l) h=(a,x)::offH l h from List.filter_cons_of_pos (by simp [c]),sumH,ih,sumH]
   split
   ·next e=>rw [if_neg (by omega),if_neg (by omega)]
   ·rfl
theorem sum_pos{l:List (Int×Int)}(h:∀p∈l,0<p.2)(k:Int):0<=sumH l k/\(0<sumH l k↔k∈l.map (·.1)):=by
 induction l with
 | nil=>exact⟨Int.le_refl _,by simp [sumH]⟩
 | cons p l ih=>
  obtain⟨a,x⟩:=p
  have i:=ih λq hq=>h q (List.mem_cons_of_mem _ hq)
  have hx:=h (a,x) List.mem_cons_self
  simp only at hx
  rw [sumH,List.map_cons,List.mem_cons]
  split
  ·next e=>exact⟨by omega,λ_=>.inl e.symm,λ_=>by omega⟩
  ·next e=>exact⟨i.1,λz=>.inr (i.2.mp z),λz=>i.2.mpr (z.elim (λy=>absurd y.symm e) id)⟩
theorem getI_put(held:List (Int×Int))(h x k:Int):getI (putI held h x) k=if h=k then x else getI held k:=by
 induction held with
 | nil=>rfl
 | cons p l ih=>
  obtain⟨a,y⟩:=p
  rw [putI]
  split
  ·next e=>
   rw [getI,getI,e]
   split<;>rfl
  ·next e=>
   rw [getI,getI,ih]
   split
   ·next e2=>rw [if_neg (by omega)]
   ·rfl
structure TA(t:TS)(hv:List (Int×Int)):Prop where
 sm:∀h,getI t.held h=sumH hv h
 ps:∀p∈hv,0<p.2
 hh:∀p∈hv,p.1∈hs7
 qp:∀p∈t.que,0<p.2/\p.1∈hs7
theorem TA.add{t:TS}{hv:List (Int×Int)}(a:TA t hv){h n:Int}(hn:0<n)(hh:h∈hs7):TA (outS t h n) (hv++[(h,n)]):=by
 refine⟨λk=>?_,λp hp=>?_,λp hp=>?_,a.qp⟩
 ·show getI (putI t.held h (getI t.held h+n)) k=_
  rw [getI_put,sum_app,sum_one,a.sm,a.sm]
  split
  ·next e=>rw [e]
  ·omega
 ·rcases List.mem_append.mp hp with z | z
  ·exact a.ps p z
  ·rw [List.mem_singleton.mp z];exact hn
 ·rcases List.mem_append.mp hp with z | z
  ·exact a.hh p z
  ·rw [List.mem_singleton.mp z];exact hh
theorem TA.wait{t:TS}{hv:List (Int×Int)}(a:TA t hv){h n:Int}(hn:0<n)(hh:h∈hs7):TA ⟨t.free,t.held,t.que++[(h,n)]⟩ hv:=⟨a.sm,a.ps,a.hh,λp hp=>by
 rcases List.mem_append.mp hp with z | z
 ·exact a.qp p z
 ·rw [List.mem_singleton.mp z];exact⟨hn,hh⟩⟩
def restH(hv:List (Int×Int))(h r:Int):List (Int×Int):=offH hv h++(if r>0 then [(h,r)] else [])
theorem TA.back{t:TS}{hv:List (Int×Int)}(a:TA t hv){h b:Int}(hb:b<=sumH hv h)(hh:h∈hs7):TA (outS t h (-b)) (restH hv h (sumH hv h-b)):=by
 refine⟨λk=>?_,λp hp=>?_,λp hp=>?_,a.qp⟩
 ·show getI (putI t.held h (getI t.held h+ -b)) k=sumH (offH hv h++(if sumH hv h-b>0 then [(h,sumH hv h-b)] else [])) k
  rw [getI_put,sum_app,sum_off,a.sm,a.sm]
  by_cases e:h=k
  ·rw [if_pos e,if_pos e.symm,<-e]
   split
   ·rw [sum_one,if_pos rfl];omega
   ·show _=0+0;omega
  ·rw [if_neg e,if_neg (λz=>e z.symm)]
   split
   ·rw [sum_one,if_neg e];omega
   ·show _=_+0;omega
 ·rcases List.mem_append.mp hp with z | z
  ·exact a.ps p (List.mem_filter.mp z).1
  ·split at z
   ·next c=>rw [List.mem_singleton.mp z];exact c
   ·cases z
 ·rcases List.mem_append.mp hp with z | z
  ·exact a.hh p (List.mem_filter.mp z).1
  ·split at z
   ·rw [List.mem_singleton.mp z];exact hh
   ·cases z
def lsv:List (Int×Int)->Int->List (Int×Int)->List (Int×Int)×Int×List (Int×Int)×List (Int×Int)
 | [],f,hv=>([],f,hv,[])
 | (h,n)::q,f,hv=>if n<=f then ((h,n)::(lsv q (f-n) (hv++[(h,n)])).1,(lsv q (f-n) (hv++[(h,n)])).2) else ([],f,hv,(h,n)::q)
theorem lsv_srv:∀(q:List (Int×Int)) {t:TS} {hv:List (Int×Int)},t.que=q->TA t hv->(srv q t).1=(lsv q t.free hv).1/\(srv q t).2.free=(lsv q t.free hv).2.1/\(srv q t).2.que=(lsv q t.free hv).2.2.2/\TA (srv q t).2 (lsv q t.free hv).2.2.1:=by
 intro q
 induction q with
 | nil=>intro t hv e a;exact⟨rfl,rfl,e,a⟩
 | cons p q ih=>
  obtain⟨h,n⟩:=p
  intro t hv e a
  by_cases c:n<=t.free
  ·have hq:=a.qp (h,n) (by rw [e];exact List.mem_cons_self)
   have a1:TA (⟨t.free,t.held,q⟩:TS) hv:=⟨a.sm,a.ps,a.hh,λp hp=>a.qp p (by rw [e];exact List.mem_cons_of_mem _ hp)⟩
   obtain⟨i1,i2,i3,i4⟩:=ih (t:=outS ⟨t.free,t.held,q⟩ h n) rfl (a1.add hq.1 hq.2)
   rw [srv_cons c,lsv,if_pos c]
   exact⟨by rw [i1];rfl,i2,i3,i4⟩
  ·rw [show srv ((h,n)::q) t=([],t) from if_neg c,lsv,if_neg c]
   exact⟨rfl,rfl,e,a⟩
theorem rise_eq:∀{l m:List (Int×Int)},l.Pairwise (λp r=>p.1<r.1)->m.Pairwise (λp r=>p.1<r.1)->(∀p,p∈l↔p∈m)->l=m:=by
 intro l
 induction l with
 | nil=>
  intro m _ _ h
  cases m with
  | nil=>rfl
  | cons b m=>exact absurd ((h b).mpr List.mem_cons_self) List.not_mem_nil
 | cons a l ih=>
  intro m hl hm h
  cases m with
  | nil=>exact absurd ((h a).mp List.mem_cons_self) List.not_mem_nil
  | cons b m=>
   rw [List.pairwise_cons] at hl hm
   have ab:a=b:=by
    rcases List.mem_cons.mp ((h a).mp List.mem_cons_self) with e | e
    ·exact e
    ·rcases List.mem_cons.mp ((h b).mpr List.mem_cons_self) with e' | e'
     ·exact e'.symm
     ·have:=hl.1 _ e'
      have:=hm.1 _ e
      omega
   subst ab
   rw [ih hl.2 hm.2 λp=>⟨λhp=>?_,λhp=>?_⟩]
   ·rcases List.mem_cons.mp ((h p).mp (List.mem_cons_of_mem _ hp)) with e | e
    ·have:=hl.1 _ hp;rw [e] at this;omega
    ·exact e
   ·rcases List.mem_cons.mp ((h p).mpr (List.mem_cons_of_mem _ hp)) with e | e
    ·have:=hm.1 _ hp;rw [e] at this;omega
    ·exact e
theorem getI_mem{held:List (Int×Int)}(nd:(held.map (·.1)).Nodup)(p:Int×Int)(h0:0<p.2):p∈held↔getI held p.1=p.2:=by
 induction held with
 | nil=>exact⟨λh=>absurd h List.not_mem_nil,λh=>by rw [getI] at h;omega⟩
 | cons q l ih=>
  obtain⟨a,x⟩:=q
  rw [List.map_cons,List.nodup_cons] at nd
  rw [getI,List.mem_cons]
  split
  ·next e=>
   constructor
   ·rintro(z | z)
    ·rw [z]
    ·exact absurd (show(a,x).1∈_ from e▸List.mem_map_of_mem (f:=(·.1)) z) nd.1
   ·intro z
    exact .inl (by obtain⟨p1,p2⟩:=p;rw [e,z])
  ·next e=>
   rw [ih nd.2]
   exact⟨λz=>z.elim (λy=>absurd (by rw [y]) e) id,.inr⟩
theorem having_eq{t:TS}{hv hd:List (Int×Int)}{ms:List Int}(a:TA t hv)(nd:(t.held.map (·.1)).Nodup)(pm:PmO hd t)(n:ms.Nodup)(me:∀x,x∈ms↔x∈hv.map (·.1))(pw:ms.Pairwise (λx y=>x<=y)):hd=ms.map λh=>(h,sumH hv h):=by
 refine rise_eq pm.2 ?_ λp=>?_
 ·refine List.pairwise_map.mpr ?_
  exact(List.pairwise_and_iff.mpr ⟨pw,n⟩).imp λ⟨h1,h2⟩=>by omega
 ·rw [pm.1.mem_iff,List.mem_filter,decide_eq_true_eq,List.mem_map]
  constructor
  ·rintro⟨h1,h2⟩
   have:=(getI_mem nd p h2).mp h1
   rw [a.sm] at this
   exact⟨p.1,(me _).mpr ((sum_pos a.ps p.1).2.mp (by omega)),by rw [this]⟩
  ·rintro⟨h,hm,rfl⟩
   have h0:=(sum_pos a.ps h).2.mpr ((me h).mp hm)
   exact⟨(getI_mem nd (h,sumH hv h) h0).mpr (a.sm h),h0⟩
end K21
local macro_rules
  | `(tactic| walk_at "rl") => do
    let a ← L2.rdArgs L2.lzPre
    `(tactic| simp (config := { maxSteps := 3000000 }) only [$a,*, L2.tListRev, L2.tListRevT, L2.rExtG, L2.rTupL, L2.rLenG, L2.rEqE, L2.tNotL, L2.rCatU, L2.rMulT, L2.tLenSet, L2.rMaxL, L2.tSetdT, L2.tDGetT, L2.tDNewT, L2.tSortSet, L2.HO.dT.injEq, *])
  | `(tactic| walk_at "ro") => do
    let a ← L2.rdArgs (L2.rdPre)
    `(tactic| simp (config := { maxSteps := 3000000 }) only [and_assoc, $a,*, L2.tListRev, L2.tListRevT, L2.rExtG, L2.rTupL, L2.rLenG, L2.rEqE, L2.tNotL, L2.rCatU, L2.rMulT, L2.tLenSet, L2.rMaxL, L2.tSetdT, L2.tDGetT, L2.tDNewT, L2.tSortSet, L2.HO.dT.injEq, *])
  | `(tactic| walk_at "rz") => do
    let a ← L2.rdArgs (L2.lzPre ++ " lazyAll")
    `(tactic| simp (config := { maxSteps := 3000000 }) only [$a,*, L2.tListRev, L2.tListRevT, L2.rExtG, L2.rTupL, L2.rLenG, L2.rEqE, L2.tNotL, L2.rCatU, L2.rMulT, L2.tLenSet, L2.rMaxL, L2.tSetdT, L2.tDGetT, L2.tDNewT, L2.tSortSet, L2.HO.dT.injEq, *])
  | `(tactic| walk_at "rd") => `(tactic| first | (walk_at "rl"; try walk_at "ro") | walk_at "ro")
  | `(tactic| walk_at "ry") => do
    let a ← L2.rdArgs (L2.lzPre2 ++ " lazyAll")
    `(tactic| simp (config := { maxSteps := 3000000, zeta := false, zetaDelta := false }) only [$a,*, L2.tListRev, L2.tListRevT, L2.rExtG, L2.rTupL, L2.rLenG, L2.rEqE, L2.tNotL, L2.rCatU, L2.rMulT, L2.tLenSet, L2.rMaxL, L2.tSetdT, L2.tDGetT, L2.tDNewT, L2.tSortSet, L2.HO.dT.injEq, *])
  | `(tactic| walk_at "rh") => `(tactic| with_reducible first | (refine L2.hideL ?_; intro T) | refine L2.hRet ?_ | refine L2.hIf ?_ | refine L2.hFor ?_ | refine L2.hDrop ?_ | refine L2.hAsg ?_ | refine L2.hWhile ?_ | refine L2.hFld ?_ | refine L2.hForU ?_ | refine L2.hForK ?_ | refine L2.hPut ?_ | refine L2.hRetN ?_)
  | `(tactic| walk_at "r2") => `(tactic| ((try walk_at "rh"); (try walk_at "ry"); repeat (walk_at "rh"; walk_at "ry")))
namespace K21
open PySem L2
theorem Prs.get{H:Hp}{vs:List V}{ps:List (Int×Int)}(t:Prs H vs ps):∀{i:Nat} {v:V},vs[i]? =some v->∃p h n,v= .ref p/\ps[i]? =some (h,n)/\H p=some (.tup [.int h,.int n]):=by
 induction t with
 | nil=>intro i v e;simp at e
 | cons hp _ ih=>
  intro i v e
  cases i with
  | zero=>simp at e;exact⟨_,_,_,e.symm,rfl,hp⟩
  | succ i=>simpa using ih (i:=i) (v:=v) (by simpa using e)
theorem Prs.app{H:Hp}{vs us:List V}{ps qs:List (Int×Int)}(t:Prs H vs ps)(r:Prs H us qs):Prs H (vs++us) (ps++qs):=by
 induction t with
 | nil=>exact r
 | cons hp _ ih=>exact .cons hp ih
structure HT(H:Hp)(a b q:Addr)(f:Int)(hv qu:List (Int×Int)):Prop where
 A:H a=some (.lst [.int f,.ref b,.ref q])
 B:∃vb,H b=some (.lst vb)/\Prs H vb hv
 Q:∃vq,H q=some (.lst vq)/\Prs H vq qu
theorem HT.fr{H H':Hp}{cs:List Addr}{a b q:Addr}{f:Int}{hv qu:List (Int×Int)}(h:HT H a b q f hv qu)(g:FrG cs H H')(kt:Kt H H')(n:∀c∈[a,b,q],c∉cs):HT H' a b q f hv qu:=by
 obtain⟨vb,b1,b2⟩:=h.B
 obtain⟨vq,q1,q2⟩:=h.Q
 exact⟨g _ _ (n _ (by simp)) h.A,⟨vb,g _ _ (n _ (by simp)) b1,b2.mono kt⟩,⟨vq,g _ _ (n _ (by simp)) q1,q2.mono kt⟩⟩
theorem HT.same{H H':Hp}{a b q:Addr}{f:Int}{hv qu:List (Int×Int)}(g:Same H H')(h:HT H a b q f hv qu):HT H' a b q f hv qu:=h.fr (cs:=[]) (λc u _ hc=>g c u hc) (Kt.of g) λ_ _=>List.not_mem_nil
def HadP(hv:List (Int×Int))(h:Int)(i:Nat)(ys:List V)(σ1:St)(_H':Hp):Prop:=∃zs:List Int,ys=zs.map V.int/\zs.sum=sumH (hv.take i) h/\∃v0 v1,σ1= [v0,v1,some (.int h)]
def p2D(l:List (Int×Int)):List PyData:=l.map λp=>.tuple [.int p.1,.int p.2]
theorem Prs.rc{H:Hp}{vs:List V}{ps:List (Int×Int)}(t:Prs H vs ps):RpCL H vs (p2D ps) []:=by
 induction t with
 | nil=>exact .nil
 | cons h _ ih=>exact .cons (.tup h (.cons (.int _) (.cons (.int _) .nil))) ih
theorem can_p2(ps:List (Int×Int)):PyData.canLayAll0 (p2D ps)=true/\PyData.depthAll (p2D ps)<=2:=by
 induction ps with
 | nil=>exact⟨rfl,by simp [p2D,PyData.depthAll]⟩
 | cons p ps ih=>
  unfold p2D at ih⊢
  refine⟨?_,?_⟩
  ·simp only [List.map_cons,PyData.canLayAll0,PyData.canLay0,Bool.and_true,Bool.true_and]
   exact ih.1
  ·have:=ih.2
   simp only [List.map_cons,PyData.depthAll,PyData.depth] at this⊢
   omega
theorem sh_p2(ps:List (Int×Int)):SeqAt.shaped (.list (p2D ps))=true:=by
 unfold SeqAt.shaped
 have e:PyData.canLay0 (.list (p2D ps))=true:=by
  simp only [PyData.canLay0]
  exact(can_p2 ps).1
 rw [e,Bool.true_and,decide_eq_true_eq]
 have:=(can_p2 ps).2
 simp only [PyData.depth]
 omega
theorem ne_nilP{K:PySem.W.Frag}{H:Hp}{a p:Addr}{xs:List V}{ps:List (Int×Int)}{Kx:VK}(ha:H a=some (.lst xs))(r:Prs H xs ps)(hp:H p=some (.lst []))(k:Kx (.bl (!ps.isEmpty)) H):rNeD K (.ref a) (.ref p) H Kx:=by
 refine⟨.list (p2D ps),.list [],.lst ha r.rc.rp,.lst hp .nil,sh_p2 ps,by decide +kernel,?_⟩
 cases ps with
 | nil=>exact k
 | cons p ps=>exact k
theorem eq_nilP{K:PySem.W.Frag}{H:Hp}{a p:Addr}{xs:List V}{ps:List (Int×Int)}{Kx:VK}(ha:H a=some (.lst xs))(r:Prs H xs ps)(hp:H p=some (.lst []))(k:Kx (.bl ps.isEmpty) H):rEqD K (.ref a) (.ref p) H Kx:=by
 refine⟨.list (p2D ps),.list [],.lst ha r.rc.rp,.lst hp .nil,sh_p2 ps,by decide +kernel,?_⟩
 cases ps with
 | nil=>exact k
 | cons p ps=>exact k
def OfP(hv:List (Int×Int))(h:Int)(i:Nat)(ys:List V)(σ1:St)(H':Hp):Prop:=Prs H' ys (offH (hv.take i) h)/\∃v0,σ1= [v0,some (.int h)]
def GvW(H:Hp)(a r q0:Addr)(h n bk rest:Int)(L:List (Int×Int)×Int×List (Int×Int)×List (Int×Int))(m:Nat)(k:Nat)(σ:St)(H1:Hp):Prop:=∃(v6 v7:Option V) (b q:Addr) (f:Int) (hv qu dn:List (Int×Int)) (sv:List V),σ= [some (.ref a),some (.int h),some (.int n),some (.int bk),some (.int rest),some (.ref r),v6,v7]/\k=qu.length/\FrG [a] H H1/\HT H1 a b q f hv qu/\H1 r=some (.lst sv)/\Svd "takes" H1 sv dn/\L=(dn++(lsv qu f hv).1,(lsv qu f hv).2)/\H b=none/\(q=q0\/H q=none)/\(r≠b/\r≠q/\b≠q/\a≠b/\a≠q/\r≠a)/\hv.length+qu.length<=m/\dn.length+qu.length<=m
section
variable{P:Program}{w:World}{K:PySem.W.Frag}{mg:Str->Option Value}{base:Heap}
def spHad:Sp:=λvs H Q _=>∃(a b q:Addr) (f:Int) (hv qu:List (Int×Int)) (h:Int),vs= [.ref a,.int h]/\HT H a b q f hv qu/\hv.length<=1000/\∀H',Same H H'->Q (.int (sumH hv h)) H'
theorem ok_had(D:DefAt K mg "_law_had" s__law_had ["tool","hand"])(hsum:mg "sum" =none):OkD P w K mg base 1 "_law_had" ["tool","hand"] spHad:=by
 refine D.ok sc__law_had (λvs H Q E h=>?_) (λf cdv A outer s H vs Q E hr h=>?_)
 ·obtain⟨_,_,_,_,_,_,_,rfl,_⟩:=h;rfl
 obtain⟨a,b,q0,f0,hv,qu,h,rfl,ht,le,q⟩:=h
 have big:100000<=sizeLine:=by unfold sizeLine;decide
 have hA:=ht.A
 obtain⟨vb,hb,pb⟩:=ht.B
 have lb:=pb.length
 refine⟨_,(pss_one (ps_ret (pe_cB (call_sum rfl) rfl hsum (by decide +kernel) (pa_c (pe_compN (comp_scopeN 2 (N:=["other","n","hand"]) (cap:=[1]) rfl rfl rfl rfl (by decide +kernel) rfl rfl rfl) rfl (pi_list (pe_ix ix_g (pv 0) pe_int (λ_ _=>rfl))) (λ_ _ _ _=>(pg_tupG 2 rfl (pgs_cons (pg_name (i:=0) (show List.Nodup (α:=Str) ["other","n","hand"] by decide +kernel) rfl (Or.inl (lookup_relabel_local rfl)) (Or.inr (lookup_relabel_local rfl))) (pgs_cons (pg_name (i:=1) (show List.Nodup (α:=Str) ["other","n","hand"] by decide +kernel) rfl (Or.inl (lookup_relabel_local rfl)) (Or.inr (lookup_relabel_local rfl))) pgs_nil)))) (λ_ _ _ _=>(pts_one (pt_cmpR op_eq (pv 0) (pv 2) (nomark _)))) (λ_ _ _ _=>(pv 1))) pa_nil)))),?_⟩
 walk_at "r2"
 refine tcomp_in ?_
 simp only [iList]
 walk_at "r2"
 refine⟨⟨_,SqL.of hb⟩,compJ_list hb (by omega) (HadP hv h) (λH' _=>⟨[],rfl,rfl,_,_,rfl⟩) ?_ ?_⟩
 ·rintro D' i v ys σ1 H1 hx at1 ⟨zs,rfl,es,v0,v1,rfl⟩
  obtain⟨p,k,x,rfl,ek,hp⟩:=pb.get hx
  have hp1:=at1.same _ _ hp
  have et:sumH (hv.take (i+1)) h=sumH (hv.take i) h+(if k=h then x else 0):=by rw [take_snoc ek,sum_app,sum_one]
  have at1':=PLift.up at1
  clear hx ek at1 hb hA
  walk_at "r2"
  refine ite2 (λc=>?_) λc=>?_
  ·have kT:Put vb H D' (HadP hv h) i [some (.int k),some (.int x),some (.int h)] (.int x) H1:=at1'.down.put (Same.refl _) λH2 mu=>⟨zs++[x],by rw [List.map_append];rfl,by rw [List.sum_append,es,et,if_pos c];simp,_,_,rfl⟩
   clear et c
   walk_at "rz"
   try exact kT
  ·exact at1'.down.skip (Same.refl _) ⟨zs,rfl,by rw [es,et,if_neg c];omega,_,_,rfl⟩
 ·rintro D' ys σ1 H1 hD g1 hy hle ⟨zs,rfl,es,v0,v1,rfl⟩
  refine⟨D',rfl,zs,trivial,hy,?_⟩
  rw [es,List.take_of_length_le (by omega)]
  exact q H1 g1
def spGv:Sp:=λvs H Q _=>∃(a b q:Addr) (f h n:Int) (hv qu:List (Int×Int)),vs= [.ref a,.int h,.int n]/\HT H a b q f hv qu/\a≠b/\a≠q/\hv.length<=500/\qu.length<=200/\(∀p∈hv,0<p.2)/\
 ∀(H':Hp) (p r b' q':Addr) (sv:List V) (bk:Int),bk=(if sumH hv h<n then sumH hv h else n)->FrG [a] H H'->H' p=some (.tup [.int bk,.ref r])->H r=none->H' r=some (.lst sv)->Svd "takes" H' sv (lsv qu (f+bk) (restH hv h (sumH hv h-bk))).1->H b'=none->(q'=q\/H q'=none)->r≠b'->r≠q'->b'≠q'->HT H' a b' q' (lsv qu (f+bk) (restH hv h (sumH hv h-bk))).2.1 (lsv qu (f+bk) (restH hv h (sumH hv h-bk))).2.2.1 (lsv qu (f+bk) (restH hv h (sumH hv h-bk))).2.2.2->Q (.ref p) H'
theorem ok_gv(D:DefAt K mg "_law_give" s__law_give ["tool","hand","n"])(G__law_had:OkD P w K mg base 1 "_law_had" ["tool","hand"] spHad)(hmin:mg "min" =none)(hint:mg "int" =none):OkD P w K mg base 2 "_law_give" ["tool","hand","n"] spGv:=by
 refine D.ok sc__law_give (λvs H Q E h=>?_) (λf cdv A outer s H vs Q E hr h=>?_)
 ·obtain⟨_,_,_,_,_,_,_,_,rfl,_⟩:=h;rfl
 obtain⟨a,b,q0,f0,h,n,hv,qu,rfl,ht,nab,naq,le,lq,hps,q⟩:=h
 have hu:=hu_of hr
 have hu64:=hr.units
 have big:100000<=sizeLine:=by unfold sizeLine;decide
 refine⟨_,(pss_cons (ps_set (i:=3) sc__law_give.nd rfl (Or.inl rfl) (pe_cB (call_min2 rfl) rfl hmin (by decide +kernel) (pa_c (pv 2) (pa_c (pe_def G__law_had hr rfl (pa_c (pv 0) (pa_c (pv 1) pa_nil))) pa_nil))))
 (pss_cons (ps_asg (pe_op op_add (pe_ix ix_g (pv 0) pe_int (λ_ _=>rfl)) (pv 3)) (pg_sub (pv 0) pe_int set_listG))
 (pss_cons (ps_set (i:=4) sc__law_give.nd rfl (Or.inl rfl) (pe_op op_sub (pe_def G__law_had hr rfl (pa_c (pv 0) (pa_c (pv 1) pa_nil))) (pv 3)))
 (pss_cons (ps_asg (pe_op op_catG (pe_compN (comp_scopeN 1 (N:=["one","hand"]) (cap:=[1]) rfl rfl rfl rfl (by decide +kernel) rfl rfl rfl) rfl (pi_list (pe_ix ix_g (pv 0) pe_int (λ_ _=>rfl))) (λ_ _ _ _=>(pg_name (i:=0) (show List.Nodup (α:=Str) ["one","hand"] by decide +kernel) rfl (Or.inl (lookup_relabel_local rfl)) (Or.inr (lookup_relabel_local rfl)))) (λ_ _ _ _=>(pts_one (pt_cmpR op_ne (pe_ix ix_g (pv 0) pe_int (λ_ _=>rfl)) (pv 1) (nomark _)))) (λ_ _ _ _=>(pv 0))) (pe_op op_repG (pe_lstG (pa_c (pe_tupG (pa_c (pv 1) (pa_c (pv 4) pa_nil))) pa_nil)) (pe_cTy call_intB rfl hint (by decide +kernel) (pa_c (pe_cmpR op_gt (pv 4) pe_int (nomark _)) pa_nil)))) (pg_sub (pv 0) pe_int set_listG))
 (pss_cons (ps_set (i:=5) sc__law_give.nd rfl (Or.inl rfl) (pe_lstG pa_nil))
 (pss_cons (ps_while PassesOwn.never (PW.pt (pw_and (pt_cmpR (op_neD hu64) (pe_ix ix_g (pv 0) pe_int (λ_ _=>rfl)) (pe_lstG pa_nil) (nomark _)) (pw_and1 (pt_cmpR op_le (pe_ix ix_g (pe_ix ix_g (pe_ix ix_g (pv 0) pe_int (λ_ _=>rfl)) pe_int (λ_ _=>rfl)) pe_int (λ_ _=>rfl)) (pe_ix ix_g (pv 0) pe_int (λ_ _=>rfl)) (nomark _)))))
 (pss_cons (ps_asg (pe_ix ix_g (pe_ix ix_g (pv 0) pe_int (λ_ _=>rfl)) pe_int (λ_ _=>rfl)) (pg_tupG 2 rfl (pgs_cons (pg_name (i:=6) sc__law_give.nd rfl (Or.inl rfl)) (pgs_cons (pg_name (i:=7) sc__law_give.nd rfl (Or.inl rfl)) pgs_nil))))
 (pss_cons (ps_asg (pe_slice sl_g (pe_ix ix_g (pv 0) pe_int (λ_ _=>rfl)) (po_some pe_int) po_none) (pg_sub (pv 0) pe_int set_listG))
 (pss_cons (ps_asg (pe_op op_sub (pe_ix ix_g (pv 0) pe_int (λ_ _=>rfl)) (pv 7)) (pg_sub (pv 0) pe_int set_listG))
 (pss_cons (ps_asg (pe_op op_catG (pe_ix ix_g (pv 0) pe_int (λ_ _=>rfl)) (pe_lstG (pa_c (pe_tupG (pa_c (pv 6) (pa_c (pv 7) pa_nil))) pa_nil))) (pg_sub (pv 0) pe_int set_listG))
 (pss_one (ps_expr (pe_appG (pv 5) (pe_tupG (pa_c (pv 6) (pa_c pe_str (pa_c (pv 7) pa_nil))))))))))))
 (pss_one (ps_ret (pe_tupG (pa_c (pv 3) (pa_c (pv 5) pa_nil))))))))))),?_⟩
 walk_at "rz"
 refine⟨a,b,q0,f0,hv,qu,h,rfl,ht,by omega,λH1 g1=>?_⟩
 have ht1:=ht.same g1
 have A1:=ht1.A
 obtain⟨bk,ebk⟩:∃bk,bk=(if sumH hv h<n then sumH hv h else n):=⟨_,rfl⟩
 walk_at "rz"
 refine⟨0,rfl,λH2 m2=>?_⟩
 have A2:H2 a=some (.lst [.int (f0+bk),.ref b,.ref q0]):=by rw [m2.at_,ebk];rfl
 obtain⟨vb,hb1,pb1⟩:=ht1.B
 obtain⟨vq,hq1,pq1⟩:=ht1.Q
 have kt2:Kt H1 H2:=λc xs hc=>m2.old hc (λz=>by rw [z,A1] at hc;cases hc)
 have ht2:HT H2 a b q0 (f0+bk) hv qu:=⟨A2,⟨vb,m2.old hb1 nab.symm,pb1.mono kt2⟩,⟨vq,m2.old hq1 naq.symm,pq1.mono kt2⟩⟩
 have F2:FrG [a] H H2:=λc u nc hc=>m2.old (g1 _ _ hc) (λz=>nc (by rw [z];exact List.mem_singleton_self _))
 rw [<-ebk]
 have ebk':=PLift.up ebk
 clear A1 hb1 hq1 pb1 pq1 ht1 ebk
 simp only [L2.start,List.map_cons,List.map_nil,List.length_cons,List.length_nil,Nat.reduceAdd,Nat.reduceSub,List.replicate,List.cons_append,List.nil_append,List.set_cons_zero,List.set_cons_succ]
 walk_at "rz"
 refine⟨a,b,q0,f0+bk,hv,qu,h,rfl,ht2,by omega,λH3 g3=>?_⟩
 have ht3:=ht2.same g3
 have F3:FrG [a] H H3:=λc u nc hc=>g3 _ _ (F2 c u nc hc)
 obtain⟨rest,er⟩:∃rest,rest=sumH hv h-bk:=⟨_,rfl⟩
 have A3:=ht3.A
 obtain⟨vb,hb3,pb3⟩:=ht3.B
 obtain⟨vq,hq3,pq3⟩:=ht3.Q
 have lb:=pb3.length
 simp only [List.set_cons_zero,List.set_cons_succ]
 walk_at "rz"
 simp only [List.set_cons_zero,List.set_cons_succ,<-er]
 have er':=PLift.up er
 clear er
 refine tcomp_in ?_
 simp only [iList]
 walk_at "rz"
 refine⟨⟨_,SqL.of hb3⟩,compJ_list hb3 (by omega) (OfP hv h) (λH' _=>⟨.nil,_,rfl⟩) ?_ ?_⟩
 ·rintro D' i v ys σ1 H4 hx at1 ⟨pr,v0,rfl⟩
  obtain⟨p,k,x,rfl,ek,hp⟩:=pb3.get hx
  have hp4:=at1.same _ _ hp
  have at1':=PLift.up at1
  clear hx at1 hb3 A3 hq3
  walk_at "rz"
  refine ite2 (λc=>?_) λc=>?_
  ·have kT:Put vb H3 D' (OfP hv h) i [some (.ref p),some (.int h)] (.ref p) H4:=at1'.down.put (Same.refl _) λH5 mu=>⟨by
    have lD:=at1'.down.lst
    rw [take_snoc ek,show offH (hv.take i++[(k,x)]) h=offH (hv.take i) h++[(k,x)] from by unfold offH;rw [List.filter_append,List.filter_cons_of_pos (by simpa using c)];rfl]
    exact(pr.mono λc xs hc=>mu.old hc (λz=>by rw [z,lD] at hc;cases hc)).snoc (mu.old hp4 (λz=>by rw [z,lD] at hp4;cases hp4)),_,rfl⟩
   clear c ek
   walk_at "rz"
   try exact kT
  ·refine at1'.down.skip (Same.refl _) ⟨?_,_,rfl⟩
   rw [take_snoc ek,show offH (hv.take i++[(k,x)]) h=offH (hv.take i) h from by unfold offH;rw [List.filter_append,List.filter_cons_of_neg (by simpa using c)];simp]
   exact pr
 ·rintro D' ys σ1 H4 hD g4 hy hle ⟨pr,v0,rfl⟩
  rw [List.take_of_length_le (by omega)] at pr
  have A4:=g4 _ _ A3
  have hq3':=PLift.up hq3
  have pq4:=pq3.mono λ_ _ hc=>g4 _ _ hc
  clear A3 hb3 hq3
  intro p5 H5 hp5 g5 h5
  walk_at "rz"
  intro l6 H6 hl6 g6 h6
  have h5':=g6 _ _ h5
  have hy6:=g6 _ _ (g5 _ _ hy)
  have A6:=g6 _ _ (g5 _ _ A4)
  clear h5 hy A4
  walk_at "rz"
  refine⟨by split<;>omega,by split<;>omega,by simp only [List.length_cons,List.length_nil];split<;>(simp;try omega),λl7 H7 hl7 g7 h7=>?_⟩
  obtain⟨us,eus,pus⟩:∃us:List V,H7 l7=some (.lst us)/\Prs H7 us (if rest>0 then [(h,rest)] else []):=by
   by_cases c:0<rest
   ·exact⟨[.ref p5],by rw [h7,if_pos (by simpa using c)];rfl,by rw [if_pos c];exact .cons (g7 _ _ h5') .nil⟩
   ·exact⟨[],by rw [h7,if_neg (by simpa using c)];rfl,by rw [if_neg c];exact .nil⟩
  have hy7:=g7 _ _ hy6
  have A7:=g7 _ _ A6
  have pl:=pus.length
  have pr7:=pr.mono λ_ _ hc=>g7 _ _ (g6 _ _ (g5 _ _ hc))
  have prl:=pr.length
  have ol:(offH hv h).length<=hv.length:=List.length_filter_le _ _
  have r1:(if rest>0 then [(h,rest)] else []:List (Int×Int)).length<=1:=by split<;>simp
  clear h7 hy6 A6 h5' h6
  walk_at "rz"
  refine⟨by omega,λb8 H8 hb8 g8 h8=>?_⟩
  have A8:=g8 _ _ A7
  have g38:Same H3 H8:=(((g4.trans g5).trans g6).trans g7).trans g8
  clear A7 hy7 eus
  walk_at "rz"
  refine⟨1,rfl,λH9 m9=>?_⟩
  have A9:H9 a=some (.lst [.int (f0+bk),.ref b8,.ref q0]):=m9.at_
  have nb8:b8≠a:=(ne_of_none (g7 _ _ (g6 _ _ (g5 _ _ (g4 _ _ ht3.A)))) hb8).symm
  have kt9:Kt H3 H9:=λc xs hc=>m9.old (g38 _ _ hc) (λz=>by have:=g38 _ _ hc;rw [z,A8] at this;cases this)
  have ht9:HT H9 a b8 q0 (f0+bk) (restH hv h rest) qu:=⟨A9,⟨_,m9.old h8 nb8,(pr7.app pus).mono λc xs hc=>m9.old (g8 _ _ hc) (λz=>by have:=g8 _ _ hc;rw [z,A8] at this;cases this)⟩,⟨vq,m9.old (g38 _ _ hq3'.down) naq.symm,pq3.mono kt9⟩⟩
  have F9:FrG [a] H H9:=λc u nc hc=>m9.old (g38 _ _ (F3 c u nc hc)) (λz=>nc (by rw [z];exact List.mem_singleton_self _))
  have hb8':H b8=none:=by
   cases z:H b8 with
   | none=>rfl
   | some u=>
    have:=g7 _ _ (g6 _ _ (g5 _ _ (g4 _ _ (F3 b8 u (λy=>nb8 (List.mem_singleton.mp y)) z))))
    rw [hb8] at this;cases this
  clear A8 h8 m9
  walk_at "rz"
  intro r H10 hr10 g10 h10
  have nra:r≠a:=(ne_of_none A9 hr10).symm
  obtain⟨vb9,hb9,pb9⟩:=ht9.B
  obtain⟨vq9,hq9,pq9⟩:=ht9.Q
  have hr0:H r=none:=by
   cases z:H r with
   | none=>rfl
   | some u=>rw [F9 r u (λy=>nra (List.mem_singleton.mp y)) z] at hr10;cases hr10
  have nbq:b8≠q0:=λz=>by
   have:=g7 _ _ (g6 _ _ (g5 _ _ (g4 _ _ hq3'.down)))
   rw [<-z,hb8] at this;cases this
  have start:GvW H a r q0 h n bk rest (lsv qu (f0+bk) (restH hv h rest)) (hv.length+1+qu.length) qu.length [some (.ref a),some (.int h),some (.int n),some (.int bk),some (.int rest),some (.ref r),none,none] H10:=
   ⟨none,none,b8,q0,f0+bk,restH hv h rest,qu,[],[],rfl,rfl,λc u nc hc=>g10 _ _ (F9 c u nc hc),ht9.same g10,h10,.nil,rfl,hb8',.inl rfl,⟨(ne_of_none hb9 hr10).symm,(ne_of_none hq9 hr10).symm,nbq,nb8.symm,naq,nra⟩,by unfold restH;rw [List.length_append];omega,by simp only [List.length_nil];omega⟩
  clear h10 A9 hb9 hq9 pb9 pq9 ht9 g10 hr10
  walk_at "rz"
  refine⟨GvW H a r q0 h n bk rest (lsv qu (f0+bk) (restH hv h rest)) (hv.length+1+qu.length),⟨_,start⟩,?_⟩
  clear start
  rintro k σ G1 ⟨v6,v7,b',q',f',hv',qu',dn,sv,rfl,rfl,fG,hG,hrG,sd,eL,nb',nq',⟨d1,d2,d3,d4,d5,d6⟩,le1,le2⟩
  have A1:=hG.A
  obtain⟨vq1,hq1,pq1⟩:=hG.Q
  walk_at "rz"
  intro e2 G2 he2 g2 h2
  refine ne_nilP (g2 _ _ hq1) (pq1.mono λ_ _ hc=>g2 _ _ hc) h2 ?_
  have hG2:=hG.same g2
  have A2':=hG2.A
  have hq2:=g2 _ _ hq1
  have pq2:=pq1.mono λ_ _ hc=>g2 _ _ hc
  have hr2:=g2 _ _ hrG
  have fG2:FrG [a] H G2:=λc u nc hc=>g2 _ _ (fG c u nc hc)
  have sd2:=sd.mono λ_ _ hc=>g2 _ _ hc
  clear A1 hq1 pq1 hrG h2 he2 g2 hG fG sd
  have fin:(∀p c rest',qu'=(p,c)::rest'->¬c<=f')->∀(p:Addr) (H':Hp),G2 p=none->Same G2 H'->H' p=some (.tup [.int bk,.ref r])->Q (.ref p) H':=λstop p H' hp gp hh=>by
   have el:lsv qu' f' hv'=([],f',hv',qu'):=by
    cases qu' with
    | nil=>rfl
    | cons x l=>obtain⟨x1,x2⟩:=x;rw [lsv,if_neg (stop x1 x2 l rfl)]
   rw [el,List.append_nil] at eL
   have eL':lsv qu (f0+bk) (restH hv h (sumH hv h-bk))=(dn,f',hv',qu'):=by rw [<-er'.down];exact eL
   refine q H' p r b' q' sv bk ebk'.down (λc u nc hc=>gp _ _ (fG2 c u nc hc)) hh hr0 (gp _ _ hr2) ?_ nb' nq' d1 d2 d3 ?_
   ·rw [eL'];exact sd2.mono λ_ _ hc=>gp _ _ hc
   ·rw [eL'];exact hG2.same gp
  cases qu' with
  | nil=>
   have fin:=fin λp c l z=>by cases z
   simp only [List.isEmpty_nil,Bool.not_true]
   walk_at "rz"
   exact fin
  | cons x l=>
   obtain⟨x1,x2⟩:=x
   simp only [List.isEmpty_cons,Bool.not_false]
   obtain⟨p0,vr,rfl,hp0,pr0⟩:∃p0 vr,vq1= .ref p0::vr/\G2 p0=some (.tup [.int x1,.int x2])/\Prs G2 vr l:=by
    cases pq2 with
    | cons h r=>exact⟨_,_,rfl,h,r⟩
   walk_at "rz"
   refine ite2 (λc=>?_) λc=>?_
   ·refine⟨GvW H a r q0 h n bk rest (lsv qu (f0+bk) (restH hv h rest)) (hv.length+1+qu.length) l.length,λσ' H' z=>⟨l.length,by simp,z⟩,?_⟩
    obtain⟨vb2,hb2,pb2⟩:=hG2.B
    have lb2:=pb2.length
    have lv2:=pr0.length
    have ls2:=sd2.length
    simp only [List.length_cons] at le1 le2
    have eL2:lsv qu (f0+bk) (restH hv h rest)=((dn++[(x1,x2)])++(lsv l (f'-x2) (hv'++[(x1,x2)])).1,(lsv l (f'-x2) (hv'++[(x1,x2)])).2):=by
     rw [eL,lsv,if_pos c,List.append_assoc];rfl
    clear fin c eL
    walk_at "rz"
    intro q'' G3 hq3 g3 h3
    have A3':=g3 _ _ A2'
    have hb3':=g3 _ _ hb2
    have nq''a:q''≠a:=(ne_of_none A2' hq3).symm
    have ec:cutV (.ref p0::vr) (some 1) none=vr:=by
     simp [cutV,HT.sIx]
    rw [ec] at h3
    have k3:Kt G2 G3:=Kt.of g3
    clear A2' hq2 ec
    simp only [List.set_cons_zero,List.set_cons_succ]
    walk_at "rz"
    refine⟨2,rfl,λG4 m4=>?_⟩
    have A4:G4 a=some (.lst [.int f',.ref b',.ref q'']):=m4.at_
    have hq4:=m4.old h3 nq''a
    have hb4:=m4.old hb3' d4.symm
    have hr4:=m4.old (g3 _ _ hr2) d6
    have k4:Kt G2 G4:=λc xs hc=>m4.old (g3 _ _ hc) (λz=>by have:=g3 _ _ hc;rw [z,A3'] at this;cases this)
    have fG4:FrG [a] H G4:=λc u nc hc=>m4.old (g3 _ _ (fG2 c u nc hc)) (λz=>nc (by rw [z];exact List.mem_singleton_self _))
    have nq''r:r≠q'':=ne_of_none hr2 hq3
    clear A3' h3 hb3' hr2 m4
    walk_at "rz"
    refine⟨0,rfl,λG5 m5=>?_⟩
    have A5:G5 a=some (.lst [.int (f'-x2),.ref b',.ref q'']):=m5.at_
    have hq5:=m5.old hq4 nq''a
    have hb5:=m5.old hb4 d4.symm
    have hr5:=m5.old hr4 d6
    have k5:Kt G2 G5:=λc xs hc=>m5.old (k4 c xs hc) (λz=>by have:=k4 c xs hc;rw [z,A4] at this;cases this)
    have fG5:FrG [a] H G5:=λc u nc hc=>m5.old (fG4 c u nc hc) (λz=>nc (by rw [z];exact List.mem_singleton_self _))
    clear A4 hq4 hb4 hr4 m5
    walk_at "rz"
    intro t6 G6 ht6 g6' h6'
    have A6':=g6' _ _ A5
    have hb6':=g6' _ _ hb5
    walk_at "rz"
    intro l7' G7 hl7' g7' h7'
    have A7':=g7' _ _ A6'
    have hb7':=g7' _ _ hb6'
    have h6'':=g7' _ _ h6'
    clear A6' hb6' h6'
    walk_at "rz"
    refine⟨by omega,λb'' G8 hb8' g8' h8'=>?_⟩
    have A8':=g8' _ _ A7'
    have g58:Same G5 G8:=(g6'.trans g7').trans g8'
    have nb''a:b''≠a:=(ne_of_none A7' hb8').symm
    have nb''q:b''≠q'':=(ne_of_none (g7' _ _ (g6' _ _ hq5)) hb8').symm
    have nb''r:r≠b'':=ne_of_none (g7' _ _ (g6' _ _ hr5)) hb8'
    have pb8:Prs G8 (vb2++[.ref t6]) (hv'++[(x1,x2)]):=(pb2.mono λc xs hc=>g58 _ _ (k5 c xs hc)).snoc (g8' _ _ h6'')
    clear A7' hb7' h6''
    walk_at "rz"
    refine⟨1,rfl,λG9 m9'=>?_⟩
    have A9':G9 a=some (.lst [.int (f'-x2),.ref b'',.ref q'']):=m9'.at_
    have hb9':=m9'.old h8' nb''a
    have hq9':=m9'.old (g58 _ _ hq5) nq''a
    have hr9':=m9'.old (g58 _ _ hr5) d6
    have k89:Kt G8 G9:=λc xs hc=>m9'.old hc (λz=>by rw [z,A8'] at hc;cases hc)
    have k9:Kt G2 G9:=λc xs hc=>k89 _ _ (g58 _ _ (k5 c xs hc))
    have fG9:FrG [a] H G9:=λc u nc hc=>m9'.old (g58 _ _ (fG5 c u nc hc)) (λz=>nc (by rw [z];exact List.mem_singleton_self _))
    clear A8' h8' m9'
    walk_at "rz"
    intro t10 G10 ht10 g10' h10'
    refine⟨sv,g10' _ _ hr9',by omega,λG11 m11=>?_⟩
    have k10:Kt G9 G10:=Kt.of g10'
    have hrG:=g10' _ _ hr9'
    have k11:Kt G10 G11:=λc xs hc=>m11.old hc (λz=>by rw [z,hrG] at hc;cases hc)
    have fr11:FrG [a] H G11:=λc u nc hc=>by
     exact m11.old (g10' _ _ (fG9 c u nc hc)) (λz=>by rw [z,hr0] at hc;cases hc)
    refine⟨some (.int x1),some (.int x2),b'',q'',f'-x2,hv'++[(x1,x2)],l,dn++[(x1,x2)],sv++[.ref t10],rfl,rfl,fr11,⟨m11.old (g10' _ _ A9') (Ne.symm d6),⟨_,m11.old (g10' _ _ hb9') (Ne.symm nb''r),pb8.mono λc xs hc=>k11 _ _ (k10 _ _ (k89 _ _ hc))⟩,⟨_,m11.old (g10' _ _ hq9') ?_,pr0.mono λc xs hc=>k11 _ _ (k10 _ _ (k9 _ _ hc))⟩⟩,m11.at_,?_,eL2,?_,?_,⟨nb''r,?_,nb''q,Ne.symm nb''a,Ne.symm nq''a,d6⟩,by rw [List.length_append,List.length_singleton];omega,by rw [List.length_append,List.length_singleton];omega⟩
    ·exact Ne.symm nq''r
    ·exact(sd2.mono λc xs hc=>k11 _ _ (k10 _ _ (k9 _ _ hc))).snoc (k11 _ _ h10')
    ·cases z:H b'' with
     | none=>rfl
     | some u=>
      have:=g7' _ _ (g6' _ _ (fG5 b'' u (λy=>nb''a (List.mem_singleton.mp y)) z))
      rw [hb8'] at this;cases this
    ·refine .inr ?_
     cases z:H q'' with
     | none=>rfl
     | some u=>
      have:=fG2 q'' u (λy=>nq''a (List.mem_singleton.mp y)) z
      rw [hq3] at this;cases this
    ·exact nq''r
   ·have fin:=fin λp c' l' z=>by cases z;exact c
    walk_at "rz"
    exact fin
end
end K21
namespace K21
open PySem L2
structure HS(H:Hp)(a b c:Addr)(s:SS):Prop where
 A:H a=some (.lst [.int s.level,.ref b,.ref c,.int s.most])
 B:∃vb,H b=some (.lst vb)/\Prs H vb s.gets
 C:∃vc,H c=some (.lst vc)/\Prs H vc s.puts
 n1:a≠b
 n2:a≠c
 n3:b≠c
 l1:s.gets.length<=200
 l2:s.puts.length<=200
theorem HS.fr{H H':Hp}{cs:List Addr}{a b c:Addr}{s:SS}(h:HS H a b c s)(g:FrG cs H H')(kt:Kt H H')(n:∀x∈[a,b,c],x∉cs):HS H' a b c s:=by
 obtain⟨vb,b1,b2⟩:=h.B
 obtain⟨vc,c1,c2⟩:=h.C
 exact⟨g _ _ (n _ (by simp)) h.A,⟨vb,g _ _ (n _ (by simp)) b1,b2.mono kt⟩,⟨vc,g _ _ (n _ (by simp)) c1,c2.mono kt⟩,h.n1,h.n2,h.n3,h.l1,h.l2⟩
theorem HS.same{H H':Hp}{a b c:Addr}{s:SS}(g:Same H H')(h:HS H a b c s):HS H' a b c s:=h.fr (cs:=[]) (λc u _ hc=>g c u hc) (Kt.of g) λ_ _=>List.not_mem_nil
theorem Sbt.det{s s1:SS}{i1:List (Int×Bool×Int)}(h1:Sbt s i1 s1):∀{i2:List (Int×Bool×Int)} {s2:SS},Sbt s i2 s2->i1=i2/\s1=s2:=by
 induction h1 with
 | done e=>
  intro i2 s2 h2
  cases h2 with
  | done _=>exact⟨rfl,rfl⟩
  | step e' _=>rw [e] at e';cases e'
 | step e _ ih=>
  intro i2 s2 h2
  cases h2 with
  | done e'=>rw [e] at e';cases e'
  | step e' h'=>
   rw [e] at e';cases e'
   obtain⟨z1,z2⟩:=ih h'
   exact⟨by rw [z1],z2⟩
theorem twoG(C:Prop){H:Hp}{X:Hp->Prop}{R:Prop}(h1:(C->∀G,Same H G->X G)->R)(h2:C->∀G,Same H G->X G):R:=h1 h2
def LvI(a b c r:Addr)(s:SS)(H:Hp)(m:Nat)(σ:St)(H':Hp):Prop:=∃(sv:List V) (dn:List (Int×Bool×Int)) (s':SS) (v2 v3:Option V),σ= [some (.ref a),some (.ref r),v2,v3]/\FrG [a,b,c] H H'/\H' r=some (.lst sv)/\Sv3 H' sv dn/\HS H' a b c s'/\(∀its z,Sbt s' its z->Sbt s (dn++its) z)/\dn.length+s'.gets.length+s'.puts.length<=400/\m=s'.gets.length+s'.puts.length
section
variable{P:Program}{w:World}{K:PySem.W.Frag}{mg:Str->Option Value}{base:Heap}
def spSv:Sp:=λvs H Q _=>∃(a b c:Addr) (s:SS),vs= [.ref a]/\HS H a b c s/\
 ∀(r:Addr) (H':Hp) (sv:List V) (its:List (Int×Bool×Int)) (s':SS),H r=none->FrG [a,b,c] H H'->H' r=some (.lst sv)->Sv3 H' sv its->HS H' a b c s'->Sbt s its s'->Q (.ref r) H'
theorem ok_sv(D:DefAt K mg "_law_serve" s__law_serve ["store"]):OkD P w K mg base 1 "_law_serve" ["store"] spSv:=by
 refine D.ok sc__law_serve (λvs H Q E h=>?_) (λf cdv A outer s H vs Q E hr h=>?_)
 ·obtain⟨_,_,_,_,rfl,_⟩:=h;rfl
 obtain⟨a,b,c,ss,rfl,hs,q⟩:=h
 have hu:=hu_of hr
 have hu64:=hr.units
 have big:100000<=sizeLine:=by unfold sizeLine;decide
 refine⟨_,(pss_cons (ps_set (i:=1) sc__law_serve.nd rfl (Or.inl rfl) (pe_lstG pa_nil))
 (pss_one (ps_while PassesOwn.never (pt_val pe_bl)
 (pss_one (ps_if (PW.pt (pw_and (pt_cmpR (op_neD hu64) (pe_ix ix_g (pv 0) pe_int (λ_ _=>rfl)) (pe_lstG pa_nil) (nomark _)) (pw_and1 (pt_cmpR op_le (pe_ix ix_g (pe_ix ix_g (pe_ix ix_g (pv 0) pe_int (λ_ _=>rfl)) pe_int (λ_ _=>rfl)) pe_int (λ_ _=>rfl)) (pe_ix ix_g (pv 0) pe_int (λ_ _=>rfl)) (nomark _)))))
 (pss_cons (ps_asg (pe_bm PySem.F.plainAttrs_list PySem.F.slot_list_pop PySem.F.type_list_pop mt_popAtG (pe_ix ix_g (pv 0) pe_int (λ_ _=>rfl)) (pa_c pe_int pa_nil)) (pg_tupG 2 rfl (pgs_cons (pg_name (i:=2) sc__law_serve.nd rfl (Or.inl rfl)) (pgs_cons (pg_name (i:=3) sc__law_serve.nd rfl (Or.inl rfl)) pgs_nil))))
 (pss_cons (ps_asg (pe_op op_sub (pe_ix ix_g (pv 0) pe_int (λ_ _=>rfl)) (pv 3)) (pg_sub (pv 0) pe_int set_listG))
 (pss_one (ps_expr (pe_appG (pv 1) (pe_tupG (pa_c (pv 2) (pa_c pe_str (pa_c (pv 3) pa_nil)))))))))
 (pss_one (ps_if (PW.pt (pw_and (pt_cmpR (op_neD hu64) (pe_ix ix_g (pv 0) pe_int (λ_ _=>rfl)) (pe_lstG pa_nil) (nomark _)) (pw_and1 (pt_cmpR op_le (pe_op op_add (pe_ix ix_g (pe_ix ix_g (pe_ix ix_g (pv 0) pe_int (λ_ _=>rfl)) pe_int (λ_ _=>rfl)) pe_int (λ_ _=>rfl)) (pe_ix ix_g (pv 0) pe_int (λ_ _=>rfl))) (pe_ix ix_g (pv 0) pe_int (λ_ _=>rfl)) (nomark _)))))
 (pss_cons (ps_asg (pe_bm PySem.F.plainAttrs_list PySem.F.slot_list_pop PySem.F.type_list_pop mt_popAtG (pe_ix ix_g (pv 0) pe_int (λ_ _=>rfl)) (pa_c pe_int pa_nil)) (pg_tupG 2 rfl (pgs_cons (pg_name (i:=2) sc__law_serve.nd rfl (Or.inl rfl)) (pgs_cons (pg_name (i:=3) sc__law_serve.nd rfl (Or.inl rfl)) pgs_nil))))
 (pss_cons (ps_asg (pe_op op_add (pe_ix ix_g (pv 0) pe_int (λ_ _=>rfl)) (pv 3)) (pg_sub (pv 0) pe_int set_listG))
 (pss_one (ps_expr (pe_appG (pv 1) (pe_tupG (pa_c (pv 2) (pa_c pe_str (pa_c (pv 3) pa_nil)))))))))
 (pss_one (ps_ret (pv 1)))))))))),?_⟩
 walk_at "rz"
 intro r H1 hr1 g1 h1
 obtain⟨vb0,hb0,_⟩:=hs.B
 obtain⟨vc0,hc0,_⟩:=hs.C
 have nra:r≠a:=(ne_of_none hs.A hr1).symm
 have nrb:r≠b:=(ne_of_none hb0 hr1).symm
 have nrc:r≠c:=(ne_of_none hc0 hr1).symm
 clear hb0 hc0
 refine⟨LvI a b c r ss H,⟨ss.gets.length+ss.puts.length,[],[],ss,_,_,rfl,λc u _ hc=>g1 _ _ hc,h1,.nil,hs.same g1,λits z h=>h,by have:=hs.l1;have:=hs.l2;simp only [List.length_nil];omega,rfl⟩,?_⟩
 rintro m σ H2 ⟨sv,dn,s',v2,v3,rfl,fG,hr2,sd,hs',rel,bd,rfl⟩
 clear h1 g1
 have A2:=hs'.A
 obtain⟨vb,hb2,pb2⟩:=hs'.B
 obtain⟨vc,hc2,pc2⟩:=hs'.C
 have n1:=hs'.n1
 have n2:=hs'.n2
 have n3:=hs'.n3
 have l1:=hs'.l1
 have l2:=hs'.l2
 have ls:=sd.length
 have lb:=pb2.length
 have lc:=pc2.length
 have no:stp s'=none->∀G,Same H2 G->Q (.ref r) G:=λe G g=>q r G sv dn s' hr1 (fG.same g) (g _ _ hr2) (sd.mono λ_ _ hc=>g _ _ hc) (hs'.same g) (by have:=rel [] s' (.done e);rw [List.append_nil] at this;exact this)
 walk_at "rz"
 refine⟨λσ' H'=>∃m',m'<s'.gets.length+s'.puts.length/\LvI a b c r ss H m' σ' H',λ_ _ z=>z,?_⟩
 obtain⟨mm,hm⟩:∃mm,mm=s'.gets.length+s'.puts.length:=⟨_,rfl⟩
 rw [<-hm]
 walk_at "rz"
 apply twoG (stp s'=stpP s') (H:=H2)
 case h1=>
  intro elseK
  intro e3 G3 he3 g3 h3
  refine ne_nilP (g3 _ _ hb2) (pb2.mono λ_ _ hc=>g3 _ _ hc) h3 ?_
  refine⟨_,rfl,?_⟩
  cases hg:s'.gets with
  | nil=>
   refine iteF ?_
   exact elseK (by unfold stp;rw [hg]) G3 g3
  | cons p0 gu=>
   obtain⟨x1,x2⟩:=p0
   rw [hg] at pb2 l1 lb
   obtain⟨p0,vr,rfl,hp0,pr0⟩:∃p0 vr,vb= .ref p0::vr/\H2 p0=some (.tup [.int x1,.int x2])/\Prs H2 vr gu:=by
    cases pb2 with
    | cons h r=>exact⟨_,_,rfl,h,r⟩
   refine iteT ?_
   have A3:=g3 _ _ A2
   have hb3:=g3 _ _ hb2
   have hp3:=g3 _ _ hp0
   have hr3:=g3 _ _ hr2
   have hc3:=g3 _ _ hc2
   have ek:=PLift.up elseK
   clear A2 hb2 hc2 elseK
   walk_at "rz"
   refine ite2 (λc=>?_) λc=>?_
   ·have ec:stp s'=some ((x1,true,x2),⟨s'.level-x2,s'.most,gu,s'.puts⟩):=by unfold stp;rw [hg];show(if x2<=s'.level then _ else _)=_;rw [if_pos c]
    have lv:=pr0.length
    rw [List.length_cons] at l1
    have hm':mm=gu.length+1+s'.puts.length:=by rw [hm,hg,List.length_cons]
    rw [hg,List.length_cons] at bd
    have k3:Kt H2 G3:=Kt.of g3
    have fG3:=fG.same g3
    have no':=PLift.up no
    have rel':=PLift.up rel
    have q':=PLift.up q
    have hm2:=PLift.up hm
    have ec':=PLift.up ec
    clear ek no rel q c hm ec hg
    walk_at "rz"
    refine⟨⟨_,SqL.of hb3⟩,?_⟩
    walk_at "rz"
    refine⟨by omega,_,by simp only [List.length_cons];omega,rfl,λG4 m4=>?_⟩
    have A4:=m4.old A3 n1
    have hp4:=m4.old hp3 (λz=>by rw [z,hb3] at hp3;cases hp3)
    have hr4:=m4.old hr3 nrb
    have ho4:=m4.old hc3 (Ne.symm n3)
    have k4:Kt H2 G4:=λc' xs hc=>m4.old (k3 _ _ hc) (λz=>by have:=k3 _ _ hc;rw [z,hb3] at this;cases this)
    have fG4:FrG [a,b,c] H G4:=λc' u nc hc=>m4.old (fG3 c' u nc hc) (λz=>nc (by rw [z];simp))
    have hx4:=m4.at_
    clear A3 hb3 hc3 hp3 hr3 m4 hr2 h3
    walk_at "rz"
    refine⟨0,rfl,λG5 m5=>?_⟩
    have A5:G5 a=some (.lst [.int (s'.level-x2),.ref b,.ref c,.int s'.most]):=m5.at_
    have hr5:=m5.old hr4 nra
    have ho5:=m5.old ho4 (Ne.symm n2)
    have hx5:=m5.old hx4 (Ne.symm n1)
    have k5:Kt H2 G5:=λc' xs hc=>m5.old (k4 _ _ hc) (λz=>by have:=k4 _ _ hc;rw [z,A4] at this;cases this)
    have fG5:FrG [a,b,c] H G5:=λc' u nc hc=>m5.old (fG4 c' u nc hc) (λz=>nc (by rw [z];simp))
    clear A4 hp4 hr4 ho4 hx4 m5
    simp only [List.set_cons_zero,List.set_cons_succ]
    walk_at "rz"
    intro t6 G6 ht6 g6 h6
    have nt6:t6≠r:=(ne_of_none hr5 ht6).symm
    refine⟨sv,g6 _ _ hr5,by omega,λG7 m7=>?_⟩
    have hrG:=g6 _ _ hr5
    have k7:Kt H2 G7:=λc' xs hc=>m7.old (g6 _ _ (k5 _ _ hc)) (λz=>by have:=g6 _ _ (k5 _ _ hc);rw [z,hrG] at this;cases this)
    refine⟨gu.length+s'.puts.length,by omega,sv++[.ref t6],dn++[(x1,true,x2)],⟨(s'.level-x2),s'.most,gu,s'.puts⟩,_,_,rfl,λc' u nc hc=>m7.old (g6 _ _ (fG5 c' u nc hc)) (ne_of_none hc hr1),m7.at_,(sd.mono k7).snoc (b:=true) (m7.old h6 nt6),⟨m7.old (g6 _ _ A5) (Ne.symm nra),⟨_,m7.old (g6 _ _ hx5) (Ne.symm nrb),pr0.mono k7⟩,⟨_,m7.old (g6 _ _ ho5) (Ne.symm nrc),pc2.mono k7⟩,n1,n2,n3,by show List.length gu<=200;omega,l2⟩,λits z hz=>?_,by rw [List.length_append,List.length_singleton];show _+List.length gu+List.length s'.puts<=400;omega,rfl⟩
    rw [List.append_assoc]
    exact rel'.down _ _ (.step ec'.down hz)
   ·exact ek.down (by unfold stp;rw [hg];show(if x2<=s'.level then _ else _)=_;rw [if_neg c]) G3 g3
 case h2=>
  intro eP G g
  have A3':=g _ _ A2
  have hc3':=g _ _ hc2
  refine iteF ?_
  walk_at "rz"
  intro e3 G3 he3 g3' h3
  refine ne_nilP (g3' _ _ hc3') (pc2.mono λ_ _ hc=>g3' _ _ (g _ _ hc)) h3 ?_
  have g3:Same H2 G3:=g.trans g3'
  cases hg:s'.puts with
  | nil=>
   have no:=no (by rw [eP];unfold stpP;rw [hg])
   simp only [List.isEmpty_nil,Bool.not_true]
   have nn:=no G3 g3
   clear no rel q eP hm hg
   walk_at "rz"
   try exact nn
  | cons p0 gu=>
   obtain⟨x1,x2⟩:=p0
   simp only [List.isEmpty_cons,Bool.not_false]
   rw [hg] at pc2 l2 lc
   obtain⟨p0,vr,rfl,hp0,pr0⟩:∃p0 vr,vc= .ref p0::vr/\H2 p0=some (.tup [.int x1,.int x2])/\Prs H2 vr gu:=by
    cases pc2 with
    | cons h r=>exact⟨_,_,rfl,h,r⟩
   have A3:=g3 _ _ A2
   have hb3:=g3 _ _ hb2
   have hp3:=g3 _ _ hp0
   have hr3:=g3 _ _ hr2
   have hc3:=g3 _ _ hc2
   clear A2 hb2 hc2 A3' hc3'
   walk_at "rz"
   refine ite2 (λc=>?_) λc=>?_
   ·have ec:stp s'=some ((x1,false,x2),⟨s'.level+x2,s'.most,s'.gets,gu⟩):=by rw [eP];unfold stpP;rw [hg];show(if s'.level+x2<=s'.most then _ else _)=_;rw [if_pos (by omega)]
    have lv:=pr0.length
    rw [List.length_cons] at l2
    have hm':mm=s'.gets.length+(gu.length+1):=by rw [hm,hg,List.length_cons]
    rw [hg,List.length_cons] at bd
    have k3:Kt H2 G3:=Kt.of g3
    have fG3:=fG.same g3
    have rel':=PLift.up rel
    have ec':=PLift.up ec
    clear no rel q c hm ec hg eP
    walk_at "rz"
    refine⟨⟨_,SqL.of hc3⟩,?_⟩
    walk_at "rz"
    refine⟨by omega,_,by simp only [List.length_cons];omega,rfl,λG4 m4=>?_⟩
    have A4:=m4.old A3 n2
    have hp4:=m4.old hp3 (λz=>by rw [z,hc3] at hp3;cases hp3)
    have hr4:=m4.old hr3 nrc
    have ho4:=m4.old hb3 n3
    have k4:Kt H2 G4:=λc' xs hc=>m4.old (k3 _ _ hc) (λz=>by have:=k3 _ _ hc;rw [z,hc3] at this;cases this)
    have fG4:FrG [a,b,c] H G4:=λc' u nc hc=>m4.old (fG3 c' u nc hc) (λz=>nc (by rw [z];simp))
    have hx4:=m4.at_
    clear A3 hb3 hc3 hp3 hr3 m4 hr2 h3
    walk_at "rz"
    refine⟨0,rfl,λG5 m5=>?_⟩
    have A5:G5 a=some (.lst [.int (s'.level+x2),.ref b,.ref c,.int s'.most]):=m5.at_
    have hr5:=m5.old hr4 nra
    have ho5:=m5.old ho4 (Ne.symm n1)
    have hx5:=m5.old hx4 (Ne.symm n2)
    have k5:Kt H2 G5:=λc' xs hc=>m5.old (k4 _ _ hc) (λz=>by have:=k4 _ _ hc;rw [z,A4] at this;cases this)
    have fG5:FrG [a,b,c] H G5:=λc' u nc hc=>m5.old (fG4 c' u nc hc) (λz=>nc (by rw [z];simp))
    clear A4 hp4 hr4 ho4 hx4 m5
    simp only [List.set_cons_zero,List.set_cons_succ]
    walk_at "rz"
    intro t6 G6 ht6 g6 h6
    have nt6:t6≠r:=(ne_of_none hr5 ht6).symm
    refine⟨sv,g6 _ _ hr5,by omega,λG7 m7=>?_⟩
    have hrG:=g6 _ _ hr5
    have k7:Kt H2 G7:=λc' xs hc=>m7.old (g6 _ _ (k5 _ _ hc)) (λz=>by have:=g6 _ _ (k5 _ _ hc);rw [z,hrG] at this;cases this)
    refine⟨s'.gets.length+gu.length,by omega,sv++[.ref t6],dn++[(x1,false,x2)],⟨(s'.level+x2),s'.most,s'.gets,gu⟩,_,_,rfl,λc' u nc hc=>m7.old (g6 _ _ (fG5 c' u nc hc)) (ne_of_none hc hr1),m7.at_,(sd.mono k7).snoc (b:=false) (m7.old h6 nt6),⟨m7.old (g6 _ _ A5) (Ne.symm nra),⟨_,m7.old (g6 _ _ ho5) (Ne.symm nrb),pb2.mono k7⟩,⟨_,m7.old (g6 _ _ hx5) (Ne.symm nrc),pr0.mono k7⟩,n1,n2,n3,l1,by show List.length gu<=200;omega⟩,λits z hz=>?_,by rw [List.length_append,List.length_singleton];show _+List.length s'.gets+List.length gu<=400;omega,rfl⟩
    rw [List.append_assoc]
    exact rel'.down _ _ (.step ec'.down hz)
   ·have nn:=no (by rw [eP];unfold stpP;rw [hg];show(if s'.level+x2<=s'.most then _ else _)=_;rw [if_neg (by omega)]) G3 g3
    clear no rel q eP hm hg
    walk_at "rz"
    try exact nn
end
end K21
namespace K21
open PySem L2
structure SO(s:SS):Prop where
 lm:s.level<=s.most
 gp:∀p∈s.gets,0<p.2
theorem Sbt.so{s s1:SS}{its:List (Int×Bool×Int)}(h:Sbt s its s1):SO s->SO s1:=by
 induction h with
 | done _=>exact id
 | @step s s1 s' it its e _ ih=>
  intro o
  refine ih ?_
  rcases stp_some e with ⟨_,a,_,b,c,d⟩ | ⟨_,a,z,b,c,d⟩
  ·have:=o.gp (it.1,it.2.2) (by rw [a];exact List.mem_cons_self)
   have l:=o.lm
   exact⟨by simp only at this;omega,λp hp=>o.gp p (by rw [a];exact List.mem_cons_of_mem _ hp)⟩
  ·exact⟨by omega,λp hp=>o.gp p (by rw [<-z];exact hp)⟩
theorem PutR.so{s s':SS}{h n:Int}{b:Bool}{its:List (Int×Bool×Int)}(r:PutR s h n b its s')(o:SO s):SO s':=by
 unfold PutR at r
 split at r
 ·obtain⟨_,_,rfl⟩:=r;exact⟨o.lm,o.gp⟩
 ·next c=>exact r.2.so ⟨by simp only [not_or] at c;show s.level+n<=s.most;omega,o.gp⟩
theorem GetR.so{s s':SS}{h n:Int}{b:Bool}{its:List (Int×Bool×Int)}(r:GetR s h n b its s')(hn:0<n)(o:SO s):SO s':=by
 unfold GetR at r
 split at r
 ·obtain⟨_,_,rfl⟩:=r
  exact⟨o.lm,λp hp=>(List.mem_append.mp hp).elim (o.gp p) λz=>by rw [List.mem_singleton.mp z];exact hn⟩
 ·exact r.2.so ⟨by have:=o.lm;show s.level-n<=s.most;omega,o.gp⟩
theorem brg_eq{s:SS}{n:Int}(o:SO s)(hn:0<n):(if s.most-s.level<n then s.most-s.level else n)=brg s n:=by
 have:=o.lm
 unfold brg
 split
 ·split<;>omega
 ·rfl
theorem brg_so{s s':SS}{n:Int}{its:List (Int×Bool×Int)}(o:SO s)(hn:0<n)(h:Sbt ⟨s.level+brg s n,s.most,s.gets,s.puts⟩ its s'):SO s':=by
 refine h.so ⟨?_,o.gp⟩
 have:=o.lm
 show s.level+brg s n<=s.most
 rw [<-brg_eq o hn]
 split<;>omega
inductive StR (s:SS) (h n:Int):Str->V->List (Int×Bool×Int)->SS->Prop
 | bring {its:List (Int×Bool×Int)} {s':SS}:Sbt ⟨s.level+brg s n,s.most,s.gets,s.puts⟩ its s'->StR s h n "bring" (.int (brg s n)) its s'
 | put {b:Bool} {its:List (Int×Bool×Int)} {s':SS}:PutR s h n b its s'->StR s h n "put" (.bl b) its s'
 | get {b:Bool} {its:List (Int×Bool×Int)} {s':SS}:GetR s h n b its s'->StR s h n "get" (.bl b) its s'
section
variable{P:Program}{w:World}{K:PySem.W.Frag}{mg:Str->Option Value}{base:Heap}
def spSt:Sp:=λvs H Q _=>∃(a b c:Addr) (s:SS) (word:Str) (h n:Int),vs= [.ref a,.str word,.int h,.int n]/\HS H a b c s/\SO s/\0<n/\(word= "put"\/word= "get"\/word= "bring")/\s.gets.length<200/\s.puts.length<200/\
 ∀(p r:Addr) (x:V) (H':Hp) (sv:List V) (its:List (Int×Bool×Int)) (s':SS),FrG [a,b,c] H H'->H' p=some (.tup [x,.ref r])->H' r=some (.lst sv)->Sv3 H' sv its->HS H' a b c s'->StR s h n word x its s'->Q (.ref p) H'
theorem ok_st(D:DefAt K mg "_law_stored" s__law_stored ["store","word","hand","n"])(G__law_serve:OkD P w K mg base 1 "_law_serve" ["store"] spSv)(hmin:mg "min" =none)(hint:mg "int" =none):OkD P w K mg base 2 "_law_stored" ["store","word","hand","n"] spSt:=by
 refine D.ok sc__law_stored (λvs H Q E h=>?_) (λf cdv A outer s H vs Q E hr h=>?_)
 ·obtain⟨_,_,_,_,_,_,_,rfl,_⟩:=h;rfl
 obtain⟨a,b,c,ss,word,h,n,rfl,hs,so,hn,hw,lg,lp,q⟩:=h
 have hu:=hu_of hr
 have hu64:=hr.units
 have big:100000<=sizeLine:=by unfold sizeLine;decide
 have A1:=hs.A
 obtain⟨vb,hb1,pb1⟩:=hs.B
 obtain⟨vc,hc1,pc1⟩:=hs.C
 have n1:=hs.n1
 have n2:=hs.n2
 have n3:=hs.n3
 have l1:=hs.l1
 have l2:=hs.l2
 have lb:=pb1.length
 have lc:=pc1.length
 have upd:∀{G G':Hp} {x:Int},Same H G->Mu G a (.lst [.int x,.ref b,.ref c,.int ss.most]) G'->HS G' a b c ⟨x,ss.most,ss.gets,ss.puts⟩/\FrG [a,b,c] H G':=λ{G G' x} g m=>by
  have aG:=g _ _ A1
  have kt:Kt H G':=λc' xs hc=>m.old (g _ _ hc) (λz=>by have:=g _ _ hc;rw [z,aG] at this;cases this)
  exact⟨⟨m.at_,⟨vb,m.old (g _ _ hb1) (Ne.symm n1),pb1.mono kt⟩,⟨vc,m.old (g _ _ hc1) (Ne.symm n2),pc1.mono kt⟩,n1,n2,n3,l1,l2⟩,λc' u nc hc=>m.old (g _ _ hc) (λz=>nc (by rw [z];simp))⟩
 have so':=PLift.up so
 have fin:PLift (∀{G2 G5 G6:Hp} {p r:Addr} {x:V} {sv:List V} {its:List (Int×Bool×Int)} {s':SS},FrG [a,b,c] H G2->FrG [a,b,c] G2 G5->G5 r=some (.lst sv)->Sv3 G5 sv its->HS G5 a b c s'->Same G5 G6->G6 p=some (.tup [x,.ref r])->StR ss h n word x its s'->Q (.ref p) G6):=⟨λf1 f2 hr sd hs g hp st=>q _ _ _ _ _ _ _ ((f1.trans f2).same g) hp (g _ _ hr) (sd.mono λ_ _ hc=>g _ _ hc) (hs.same g) st⟩
 clear so q
 refine⟨_,(pss_cons (ps_if (pt_cmpR op_eq (pv 1) pe_str (nomark _))
 (pss_cons (ps_set (i:=4) sc__law_stored.nd rfl (Or.inl rfl) (pe_cB (call_min2 rfl) rfl hmin (by decide +kernel) (pa_c (pv 3) (pa_c (pe_op op_sub (pe_ix ix_g (pv 0) pe_int (λ_ _=>rfl)) (pe_ix ix_g (pv 0) pe_int (λ_ _=>rfl))) pa_nil))))
 (pss_cons (ps_asg (pe_op op_add (pe_ix ix_g (pv 0) pe_int (λ_ _=>rfl)) (pv 4)) (pg_sub (pv 0) pe_int set_listG))
 (pss_one (ps_ret (pe_tupG (pa_c (pv 4) (pa_c (pe_def G__law_serve hr rfl (pa_c (pv 0) pa_nil)) pa_nil)))))))
 pss_nil)
 (pss_cons (ps_if (PW.pt (pw_and (pt_cmpR op_eq (pv 1) pe_str (nomark _)) (pw_and (pt_cmpR (op_eqD hu64) (pe_ix ix_g (pv 0) pe_int (λ_ _=>rfl)) (pe_lstG pa_nil) (nomark _)) (pw_and1 (pt_cmpR op_le (pe_op op_add (pe_ix ix_g (pv 0) pe_int (λ_ _=>rfl)) (pv 3)) (pe_ix ix_g (pv 0) pe_int (λ_ _=>rfl)) (nomark _))))))
 (pss_cons (ps_asg (pe_op op_add (pe_ix ix_g (pv 0) pe_int (λ_ _=>rfl)) (pv 3)) (pg_sub (pv 0) pe_int set_listG))
 (pss_one (ps_ret (pe_tupG (pa_c pe_bl (pa_c (pe_def G__law_serve hr rfl (pa_c (pv 0) pa_nil)) pa_nil))))))
 pss_nil)
 (pss_cons (ps_if (PW.pt (pw_and (pt_cmpR op_eq (pv 1) pe_str (nomark _)) (pw_and (pt_cmpR (op_eqD hu64) (pe_ix ix_g (pv 0) pe_int (λ_ _=>rfl)) (pe_lstG pa_nil) (nomark _)) (pw_and1 (pt_cmpR op_ge (pe_ix ix_g (pv 0) pe_int (λ_ _=>rfl)) (pv 3) (nomark _))))))
 (pss_cons (ps_asg (pe_op op_sub (pe_ix ix_g (pv 0) pe_int (λ_ _=>rfl)) (pv 3)) (pg_sub (pv 0) pe_int set_listG))
 (pss_one (ps_ret (pe_tupG (pa_c pe_bl (pa_c (pe_def G__law_serve hr rfl (pa_c (pv 0) pa_nil)) pa_nil))))))
 pss_nil)
 (pss_cons (ps_expr (pe_appG (pe_ix ix_g (pv 0) (pe_ix ix_g (pe_lstG (pa_c pe_int (pa_c pe_int pa_nil))) (pe_cTy call_intB rfl hint (by decide +kernel) (pa_c (pe_cmpR op_eq (pv 1) pe_str (nomark _)) pa_nil)) (λ_ _=>rfl)) (λ_ _=>rfl)) (pe_tupG (pa_c (pv 2) (pa_c (pv 3) pa_nil)))))
 (pss_one (ps_ret (pe_tupG (pa_c pe_bl (pa_c (pe_lstG pa_nil) pa_nil))))))))),?_⟩
 rcases hw with rfl | rfl | rfl
 ·walk_at "rz"
  apply twoG (ss.puts≠[]\/ss.most<ss.level+n) (H:=H)
  case h1=>
   intro elseK
   intro e3 G3 he3 g3 h3
   refine eq_nilP (g3 _ _ hc1) (pc1.mono λ_ _ hc=>g3 _ _ hc) h3 ?_
   refine⟨_,rfl,?_⟩
   cases hg:ss.puts.isEmpty with
   | false=>
    refine iteF ?_
    exact elseK (.inl λz=>by rw [z] at hg;cases hg) G3 g3
   | true=>
    refine iteT ?_
    have A3:=g3 _ _ A1
    have ek:=PLift.up elseK
    clear elseK h3 A1
    walk_at "rz"
    refine ite2 (λc=>?_) λc=>?_
    ·have ce:¬(ss.puts≠[]\/ss.most<ss.level+n):=λz=>z.elim (λy=>y (List.isEmpty_iff.mp hg)) λy=>by omega
     have st:∀{its s'},Sbt _ its s'->PutR ss h n true its s':=λ{its s'} hz=>by
      unfold PutR;rw [if_neg ce];exact⟨rfl,hz⟩
     have st':=PLift.up @st
     clear ek c ce hg st
     walk_at "rz"
     refine⟨0,rfl,λG4 m4=>?_⟩
     obtain⟨hG,fG⟩:=upd g3 m4
     clear m4 A3
     walk_at "rz"
     refine⟨a,b,c,_,rfl,hG,λr G5 sv its s' _ fr hr5 sd hs' sb=>?_⟩
     intro p G6 hp g6 h6
     exact fin.down fG fr hr5 sd hs' g6 h6 (.put (st'.down sb))
    ·exact ek.down (.inr (by omega)) G3 g3
  case h2=>
   intro cW G g
   have aG:=g _ _ A1
   have st:PutR ss h n false [] ⟨ss.level,ss.most,ss.gets,ss.puts++[(h,n)]⟩:=by unfold PutR;rw [if_pos cW];exact⟨rfl,rfl,rfl⟩
   have st':=PLift.up st
   have hG:=g _ _ hc1
   clear A1 cW st
   refine iteF ?_
   walk_at "rz"
   intro e5 G5 he5 g5 h5
   have aG2:=g5 _ _ aG
   have hG2:=g5 _ _ hG
   clear aG hG
   walk_at "rz"
   try refine⟨⟨_,SqL.of hG2⟩,?_⟩
   intro t6 G6 ht6 g6 h6
   have aG3:=g6 _ _ aG2
   have hG3:=g6 _ _ hG2
   have nt6:t6≠c:=(ne_of_none hG2 ht6).symm
   refine⟨vc,hG3,by omega,λG7 m7=>?_⟩
   have k7:Kt H G7:=λc' xs hc=>m7.old (g6 _ _ (g5 _ _ (g _ _ hc))) (λz=>by have:=g6 _ _ (g5 _ _ (g _ _ hc));rw [z,hG3] at this;cases this)
   have hs7:HS G7 a b c ⟨ss.level,ss.most,ss.gets,ss.puts++[(h,n)]⟩:=⟨m7.old aG3 n2,⟨vb,m7.old (g6 _ _ (g5 _ _ (g _ _ hb1))) n3,pb1.mono k7⟩,⟨_,m7.at_,(pc1.mono k7).snoc (m7.old h6 nt6)⟩,n1,n2,n3,l1,by show(ss.puts++[(h,n)]).length<=200;rw [List.length_append,List.length_singleton];omega⟩
   have fG7:FrG [a,b,c] H G7:=λc' u nc hc=>m7.old (g6 _ _ (g5 _ _ (g _ _ hc))) (λz=>nc (by rw [z];simp))
   clear h6 aG2 hG2 aG3 hG3 m7 h5
   walk_at "rz"
   intro l8 G8 hl8 g8 h8
   walk_at "rz"
   intro p9 G9 hp9 g9 h9
   exact fin.down fG7 (FrG.refl.same g8) h8 .nil (hs7.same g8) g9 h9 (.put st'.down)
 ·walk_at "rz"
  apply twoG (ss.gets≠[]\/ss.level<n) (H:=H)
  case h1=>
   intro elseK
   intro e3 G3 he3 g3 h3
   refine eq_nilP (g3 _ _ hb1) (pb1.mono λ_ _ hc=>g3 _ _ hc) h3 ?_
   refine⟨_,rfl,?_⟩
   cases hg:ss.gets.isEmpty with
   | false=>
    refine iteF ?_
    exact elseK (.inl λz=>by rw [z] at hg;cases hg) G3 g3
   | true=>
    refine iteT ?_
    have A3:=g3 _ _ A1
    have ek:=PLift.up elseK
    clear elseK h3 A1
    walk_at "rz"
    refine ite2 (λc=>?_) λc=>?_
    ·have ce:¬(ss.gets≠[]\/ss.level<n):=λz=>z.elim (λy=>y (List.isEmpty_iff.mp hg)) λy=>by omega
     have st:∀{its s'},Sbt _ its s'->GetR ss h n true its s':=λ{its s'} hz=>by
      unfold GetR;rw [if_neg ce];exact⟨rfl,hz⟩
     have st':=PLift.up @st
     clear ek c ce hg st
     walk_at "rz"
     refine⟨0,rfl,λG4 m4=>?_⟩
     obtain⟨hG,fG⟩:=upd g3 m4
     clear m4 A3
     walk_at "rz"
     refine⟨a,b,c,_,rfl,hG,λr G5 sv its s' _ fr hr5 sd hs' sb=>?_⟩
     intro p G6 hp g6 h6
     exact fin.down fG fr hr5 sd hs' g6 h6 (.get (st'.down sb))
    ·exact ek.down (.inr (by omega)) G3 g3
  case h2=>
   intro cW G g
   have aG:=g _ _ A1
   have st:GetR ss h n false [] ⟨ss.level,ss.most,ss.gets++[(h,n)],ss.puts⟩:=by unfold GetR;rw [if_pos cW];exact⟨rfl,rfl,rfl⟩
   have st':=PLift.up st
   have hG:=g _ _ hb1
   clear A1 cW st
   refine iteF ?_
   walk_at "rz"
   intro e5 G5 he5 g5 h5
   have aG2:=g5 _ _ aG
   have hG2:=g5 _ _ hG
   clear aG hG
   walk_at "rz"
   try refine⟨⟨_,SqL.of hG2⟩,?_⟩
   intro t6 G6 ht6 g6 h6
   have aG3:=g6 _ _ aG2
   have hG3:=g6 _ _ hG2
   have nt6:t6≠b:=(ne_of_none hG2 ht6).symm
   refine⟨vb,hG3,by omega,λG7 m7=>?_⟩
   have k7:Kt H G7:=λc' xs hc=>m7.old (g6 _ _ (g5 _ _ (g _ _ hc))) (λz=>by have:=g6 _ _ (g5 _ _ (g _ _ hc));rw [z,hG3] at this;cases this)
   have hs7:HS G7 a b c ⟨ss.level,ss.most,ss.gets++[(h,n)],ss.puts⟩:=⟨m7.old aG3 n1,⟨_,m7.at_,(pb1.mono k7).snoc (m7.old h6 nt6)⟩,⟨vc,m7.old (g6 _ _ (g5 _ _ (g _ _ hc1))) (Ne.symm n3),pc1.mono k7⟩,n1,n2,n3,by show(ss.gets++[(h,n)]).length<=200;rw [List.length_append,List.length_singleton];omega,l2⟩
   have fG7:FrG [a,b,c] H G7:=λc' u nc hc=>m7.old (g6 _ _ (g5 _ _ (g _ _ hc))) (λz=>nc (by rw [z];simp))
   clear h6 aG2 hG2 aG3 hG3 m7 h5
   walk_at "rz"
   intro l8 G8 hl8 g8 h8
   walk_at "rz"
   intro p9 G9 hp9 g9 h9
   exact fin.down fG7 (FrG.refl.same g8) h8 .nil (hs7.same g8) g9 h9 (.get st'.down)
 ·walk_at "rz"
  refine⟨0,rfl,λG m=>?_⟩
  rw [brg_eq so'.down hn] at m
  rw [brg_eq so'.down hn]
  obtain⟨hG,fG⟩:=upd (Same.refl _) m
  clear m A1
  walk_at "rz"
  refine⟨a,b,c,_,rfl,hG,λr G5 sv its s' _ fr hr5 sd hs' sb=>?_⟩
  intro p G6 hp g6 h6
  exact fin.down fG fr hr5 sd hs' g6 h6 (.bring sb)
end
end K21
namespace K21
open PySem L2
inductive All2 {α β:Type} (R:α->β->Prop):List α->List β->Prop
 | nil:All2 R [] []
 | cons {a:α} {b:β} {l:List α} {m:List β}:R a b->All2 R l m->All2 R (a::l) (b::m)
theorem All2.length{α β:Type}{R:α->β->Prop}{l:List α}{m:List β}(h:All2 R l m):l.length=m.length:=by
 induction h with
 | nil=>rfl
 | cons _ _ ih=>rw [List.length_cons,List.length_cons,ih]
theorem All2.split{α β:Type}{R:α->β->Prop}{l2:List α}{e:α}:∀{l1:List α} {m:List β},All2 R (l1++e::l2) m->∃m1 x m2,m=m1++x::m2/\All2 R l1 m1/\R e x/\All2 R l2 m2
 | [],_,.cons h r=>⟨[],_,_,rfl,.nil,h,r⟩
 | _::_,_,.cons h r=>by
  obtain⟨m1,x,m2,rfl,a,b,c⟩:=All2.split r
  exact⟨_::m1,x,m2,rfl,.cons h a,b,c⟩
theorem All2.app{α β:Type}{R:α->β->Prop}{l2:List α}{m2:List β}(r:All2 R l2 m2):∀{l1:List α} {m1:List β},All2 R l1 m1->All2 R (l1++l2) (m1++m2)
 | _,_,.nil=>r
 | _,_,.cons h t=>.cons h (r.app t)
theorem All2.imp{α β:Type}{R S:α->β->Prop}{l:List α}{m:List β}(h:All2 R l m)(f:∀a b,b∈m->R a b->S a b):All2 S l m:=by
 induction h with
 | nil=>exact .nil
 | cons r _ ih=>exact .cons (f _ _ List.mem_cons_self r) (ih λa b hb=>f a b (List.mem_cons_of_mem _ hb))
structure LT where
 name:Str
 a:Addr
 b:Addr
 q:Addr
 hv:List (Int×Int)
structure LS where
 name:Str
 a:Addr
 b:Addr
 c:Addr
def adL(ls:List LT):List Addr:=ls.flatMap λl=>[l.a,l.b,l.q]
def adM(ms:List LS):List Addr:=ms.flatMap λl=>[l.a,l.b,l.c]
def prL(ls:List LT):List (Str×Addr):=ls.map λl=>(l.name,l.a)
def prM(ms:List LS):List (Str×Addr):=ms.map λl=>(l.name,l.a)
def kvA(l:List (Str×Addr)):List (Key×V):=l.map λp=>(Sum.inr p.1,V.ref p.2)
theorem val_kvA{s:Str}{a:Addr}:∀{l:List (Str×Addr)},(l.map (·.1)).Nodup->(s,a)∈l->valV (kvA l) (Sum.inr s)=some (.ref a)
 | [],_,h=>absurd h List.not_mem_nil
 | p::l,nd,h=>by
  rw [List.map_cons,List.nodup_cons] at nd
  rcases List.mem_cons.mp h with z | z
  ·rw [<-z];exact valV_pos rfl
  ·refine(valV_neg λy=>nd.1 ?_).trans (val_kvA nd.2 z)
   injection y with y
   rw [y]
   exact List.mem_map_of_mem (f:=(·.1)) z
theorem val_none{s:Str}:∀{l:List (Str×Addr)},s∉l.map (·.1)->valV (kvA l) (Sum.inr s)=none
 | [],_=>rfl
 | p::l,h=>by
  rw [List.map_cons,List.mem_cons,not_or] at h
  exact(valV_neg λy=>h.1 (by injection y with y;exact y.symm)).trans (val_none h.2)
structure Tr(H:Hp)(k:Nat)(e:Ent)(l:LT):Prop where
 nm:e.name=l.name
 ht:HT H l.a l.b l.q e.t.free l.hv e.t.que
 ta:TA e.t l.hv
 le:l.hv.length+e.t.que.length<=k
structure Sr(H:Hp)(e:EntS)(l:LS):Prop where
 nm:e.name=l.name
 hs:HS H l.a l.b l.c e.s
 so:SO e.s
structure Hld(H:Hp)(hd:Addr)(k:Nat)(es:List Ent)(ss:List EntS)(ls:List LT)(ms:List LS):Prop where
 d:H hd=some (.dK (kvA (prL ls++prM ms)))
 t:All2 (Tr H k) es ls
 s:All2 (Sr H) ss ms
 nd:(hd::(adL ls++adM ms)).Nodup
 nn:((prL ls++prM ms).map (·.1)).Nodup
theorem adL_mid{m1 m2:List LT}{l:LT}:adL (m1++l::m2)=adL m1++([l.a,l.b,l.q]++adL m2):=by
 unfold adL
 rw [List.flatMap_append,List.flatMap_cons]
theorem adM_mid{m1 m2:List LS}{l:LS}:adM (m1++l::m2)=adM m1++([l.a,l.b,l.c]++adM m2):=by
 unfold adM
 rw [List.flatMap_append,List.flatMap_cons]
theorem in_adL{ls:List LT}{l:LT}(h:l∈ls):∀c∈[l.a,l.b,l.q],c∈adL ls:=λc hc=>List.mem_flatMap.mpr ⟨l,h,hc⟩
theorem in_adM{ls:List LS}{l:LS}(h:l∈ls):∀c∈[l.a,l.b,l.c],c∈adM ls:=λc hc=>List.mem_flatMap.mpr ⟨l,h,hc⟩
theorem HT.has{H:Hp}{a b q:Addr}{f:Int}{hv qu:List (Int×Int)}(h:HT H a b q f hv qu):∀c∈[a,b,q],∃xs,H c=some (.lst xs):=λc hc=>by
 obtain⟨vb,b1,_⟩:=h.B
 obtain⟨vq,q1,_⟩:=h.Q
 simp only [List.mem_cons,List.not_mem_nil,or_false] at hc
 rcases hc with rfl | rfl | rfl
 ·exact⟨_,h.A⟩
 ·exact⟨_,b1⟩
 ·exact⟨_,q1⟩
theorem HS.has{H:Hp}{a b c:Addr}{s:SS}(h:HS H a b c s):∀x∈[a,b,c],∃xs,H x=some (.lst xs):=λx hx=>by
 obtain⟨vb,b1,_⟩:=h.B
 obtain⟨vq,q1,_⟩:=h.C
 simp only [List.mem_cons,List.not_mem_nil,or_false] at hx
 rcases hx with rfl | rfl | rfl
 ·exact⟨_,h.A⟩
 ·exact⟨_,b1⟩
 ·exact⟨_,q1⟩
theorem tr_has{H:Hp}{k:Nat}{es:List Ent}{ls:List LT}(t:All2 (Tr H k) es ls):∀c∈adL ls,∃xs,H c=some (.lst xs):=by
 induction t with
 | nil=>intro c hc;simp [adL] at hc
 | @cons e l es ls h _ ih=>
  intro c hc
  rw [show adL (l::ls)= [l.a,l.b,l.q]++adL ls from by unfold adL;rw [List.flatMap_cons],List.mem_append] at hc
  exact hc.elim (h.ht.has c) (ih c)
theorem sr_has{H:Hp}{es:List EntS}{ls:List LS}(t:All2 (Sr H) es ls):∀c∈adM ls,∃xs,H c=some (.lst xs):=by
 induction t with
 | nil=>intro c hc;simp [adM] at hc
 | @cons e l es ls h _ ih=>
  intro c hc
  rw [show adM (l::ls)= [l.a,l.b,l.c]++adM ls from by unfold adM;rw [List.flatMap_cons],List.mem_append] at hc
  exact hc.elim (h.hs.has c) (ih c)
def Hld.cells(hd:Addr)(ls:List LT)(ms:List LS):List Addr:=hd::(adL ls++adM ms)
theorem Hld.has{H:Hp}{hd:Addr}{k:Nat}{es:List Ent}{ss:List EntS}{ls:List LT}{ms:List LS}(h:Hld H hd k es ss ls ms):∀c∈Hld.cells hd ls ms,H c≠none/\∀xs,H c≠some (.tup xs):=λc hc=>by
 rcases List.mem_cons.mp hc with z | z
 ·rw [z,h.d];exact⟨by simp,λxs z=>by cases z⟩
 ·obtain⟨xs,z⟩:∃xs,H c=some (.lst xs):=(List.mem_append.mp z).elim (tr_has h.t c) (sr_has h.s c)
  rw [z];exact⟨by simp,λxs z=>by cases z⟩
theorem Hld.kt{H H':Hp}{hd:Addr}{k:Nat}{es:List Ent}{ss:List EntS}{ls:List LT}{ms:List LS}(h:Hld H hd k es ss ls ms)(f:FrG (Hld.cells hd ls ms) H H'):Kt H H':=λc xs hc=>f c _ (λz=>(h.has c z).2 xs hc) hc
theorem Hld.fr{H H':Hp}{cs:List Addr}{hd:Addr}{k:Nat}{es:List Ent}{ss:List EntS}{ls:List LT}{ms:List LS}(h:Hld H hd k es ss ls ms)(f:FrG cs H H')(kt:Kt H H')(n:∀c∈Hld.cells hd ls ms,c∉cs):Hld H' hd k es ss ls ms where
 d:=f _ _ (n _ List.mem_cons_self) h.d
 t:=h.t.imp λe l hl r=>⟨r.nm,r.ht.fr f kt λc hc=>n c (List.mem_cons_of_mem _ (List.mem_append_left _ (in_adL hl c hc))),r.ta,r.le⟩
 s:=h.s.imp λe l hl r=>⟨r.nm,r.hs.fr f kt λc hc=>n c (List.mem_cons_of_mem _ (List.mem_append_right _ (in_adM hl c hc))),r.so⟩
 nd:=h.nd
 nn:=h.nn
theorem Hld.same{H H':Hp}{hd:Addr}{k:Nat}{es:List Ent}{ss:List EntS}{ls:List LT}{ms:List LS}(g:Same H H')(h:Hld H hd k es ss ls ms):Hld H' hd k es ss ls ms:=h.fr (cs:=[]) (λc u _ hc=>g c u hc) (Kt.of g) λ_ _=>List.not_mem_nil
theorem Hld.mono{H:Hp}{hd:Addr}{k k':Nat}{es:List Ent}{ss:List EntS}{ls:List LT}{ms:List LS}(h:Hld H hd k es ss ls ms)(le:k<=k'):Hld H hd k' es ss ls ms:=⟨h.d,h.t.imp λ_ _ _ r=>⟨r.nm,r.ht,r.ta,Nat.le_trans r.le le⟩,h.s,h.nd,h.nn⟩
theorem nd_swap{X Y:List Addr}{a b q b' q':Addr}{H:Hp}(nd:(X++([a,b,q]++Y)).Nodup)(ex:∀c∈X++Y,H c≠none)(ha:H a≠none)(hb:b'=b\/H b'=none)(hq:q'=q\/H q'=none)(n3:[a,b',q'].Nodup):(X++([a,b',q']++Y)).Nodup:=by
 rw [List.nodup_append] at nd⊢
 obtain⟨n1,n2,n4⟩:=nd
 rw [List.nodup_append] at n2⊢
 obtain⟨n5,n6,n7⟩:=n2
 have key:∀c,c∈[a,b',q']->(∀x,x∈[a,b,q]->c=x->c∉X/\c∉Y)->c∉X/\c∉Y:=λc hc k=>by
  simp only [List.mem_cons,List.not_mem_nil,or_false] at hc
  rcases hc with z | z | z
  ·exact k a (by simp) z
  ·rcases hb with y | y
   ·exact k b (by simp) (z.trans y)
   ·exact⟨λw=>ex c (List.mem_append_left _ w) (by rw [z];exact y),λw=>ex c (List.mem_append_right _ w) (by rw [z];exact y)⟩
  ·rcases hq with y | y
   ·exact k q (by simp) (z.trans y)
   ·exact⟨λw=>ex c (List.mem_append_left _ w) (by rw [z];exact y),λw=>ex c (List.mem_append_right _ w) (by rw [z];exact y)⟩
 have key2:∀c,c∈[a,b',q']->c∉X/\c∉Y:=λc hc=>key c hc λx hx e=>⟨λw=>n4 c w x (List.mem_append_left _ hx) e,λw=>n7 x hx c w e.symm⟩
 refine⟨n1,⟨n3,n6,λc hc d hd e=>(key2 c hc).2 (e▸hd)⟩,λc hc d hd e=>?_⟩
 rcases List.mem_append.mp hd with z | z
 ·exact(key2 d z).1 (e▸hc)
 ·exact n4 c hc d (List.mem_append_right _ z) e
theorem nd_off{X Y B:List Addr}(nd:(X++(B++Y)).Nodup):(∀c∈X,c∉B)/\∀c∈Y,c∉B:=by
 rw [List.nodup_append] at nd
 obtain⟨_,n2,n4⟩:=nd
 rw [List.nodup_append] at n2
 exact⟨λc hc hb=>n4 c hc c (List.mem_append_left _ hb) rfl,λc hc hb=>n2.2.2 c hb c hc rfl⟩
theorem Hld.tool{H H':Hp}{hd:Addr}{k k':Nat}{l1 l2:List Ent}{e:Ent}{ss:List EntS}{m1 m2:List LT}{l:LT}{ms:List LS}{t:TS}{b' q':Addr}{hv':List (Int×Int)}(h:Hld H hd k (l1++e::l2) ss (m1++l::m2) ms)(le1:All2 (Tr H k) l1 m1)(ce:Tr H k e l)(le2:All2 (Tr H k) l2 m2)(f:FrG [l.a,l.b,l.q] H H')(ht:HT H' l.a b' q' t.free hv' t.que)(ta:TA t hv')(hk:k<=k')(le:hv'.length+t.que.length<=k')(hb:b'=l.b\/H b'=none)(hq:q'=l.q\/H q'=none)(n3:[l.a,b',q'].Nodup):Hld H' hd k' (l1++{e with t:=t}::l2) ss (m1++{l with b:=b',q:=q',hv:=hv'}::m2) ms:=by
 have nd:=h.nd
 rw [adL_mid,List.append_assoc,List.append_assoc,<-List.cons_append] at nd
 have of:=nd_off nd
 have kt:Kt H H':=λc xs hc=>f c _ (λz=>by obtain⟨ys,y⟩:=ce.ht.has c z;rw [y] at hc;cases hc) hc
 have hx:=h.has
 have lx:prL (m1++{l with b:=b',q:=q',hv:=hv'}::m2)=prL (m1++l::m2):=by
  unfold prL
  rw [List.map_append,List.map_append,List.map_cons,List.map_cons]
 refine⟨?_,?_,?_,?_,?_⟩
 ·rw [lx];exact f _ _ (of.1 _ List.mem_cons_self) h.d
 ·refine All2.app (.cons ⟨ce.nm,ht,ta,le⟩ (le2.imp λe l' hl r=>⟨r.nm,r.ht.fr f kt λc hc=>of.2 c (List.mem_append_left _ (in_adL hl c hc)),r.ta,by have:=r.le;omega⟩)) (le1.imp λe l' hl r=>⟨r.nm,r.ht.fr f kt λc hc=>of.1 c (List.mem_cons_of_mem _ (in_adL hl c hc)),r.ta,by have:=r.le;omega⟩)
 ·exact h.s.imp λe l' hl r=>⟨r.nm,r.hs.fr f kt λc hc=>of.2 c (List.mem_append_right _ (in_adM hl c hc)),r.so⟩
 ·rw [adL_mid,List.append_assoc,List.append_assoc,<-List.cons_append]
  refine nd_swap nd (λc hc=>(hx c ?_).1) (by rw [ce.ht.A];simp) hb hq n3
  unfold Hld.cells
  rw [adL_mid,List.append_assoc,List.append_assoc,<-List.cons_append]
  rcases List.mem_append.mp hc with z | z
  ·exact List.mem_append_left _ z
  ·exact List.mem_append_right _ (List.mem_append_right _ z)
 ·rw [lx];exact h.nn
theorem Hld.store{H H':Hp}{hd:Addr}{k:Nat}{es:List Ent}{l1 l2:List EntS}{e:EntS}{ls:List LT}{m1 m2:List LS}{l:LS}{s:SS}(h:Hld H hd k es (l1++e::l2) ls (m1++l::m2))(le1:All2 (Sr H) l1 m1)(ce:Sr H e l)(le2:All2 (Sr H) l2 m2)(f:FrG [l.a,l.b,l.c] H H')(hs:HS H' l.a l.b l.c s)(so:SO s):Hld H' hd k es (l1++{e with s:=s}::l2) ls (m1++l::m2):=by
 have nd:=h.nd
 rw [adM_mid,<-List.append_assoc,<-List.cons_append] at nd
 have of:=nd_off nd
 have kt:Kt H H':=λc xs hc=>f c _ (λz=>by obtain⟨ys,y⟩:=ce.hs.has c z;rw [y] at hc;cases hc) hc
 refine⟨f _ _ (of.1 _ List.mem_cons_self) h.d,?_,?_,h.nd,h.nn⟩
 ·exact h.t.imp λe l' hl r=>⟨r.nm,r.ht.fr f kt λc hc=>of.1 c (List.mem_cons_of_mem _ (List.mem_append_left _ (in_adL hl c hc))),r.ta,r.le⟩
 ·exact All2.app (.cons ⟨ce.nm,hs,so⟩ (le2.imp λe l' hl r=>⟨r.nm,r.hs.fr f kt λc hc=>of.2 c (in_adM hl c hc),r.so⟩)) (le1.imp λe l' hl r=>⟨r.nm,r.hs.fr f kt λc hc=>of.1 c (List.mem_cons_of_mem _ (List.mem_append_right _ (in_adM hl c hc))),r.so⟩)
end K21
namespace K21
open PySem L2
theorem restH_len{hv:List (Int×Int)}{h r:Int}(c:0<r->h∈hv.map (·.1)):(restH hv h r).length<=hv.length:=by
 unfold restH
 rw [List.length_append]
 have l1:(offH hv h).length<=hv.length:=List.length_filter_le _ _
 split
 ·next c1=>
  have hm:=c c1
  have:(offH hv h).length<hv.length:=by
   unfold offH
   obtain⟨p,hp,e⟩:=List.mem_map.mp hm
   have:∃x∈hv,¬(decide (x.1≠h))=true:=⟨p,hp,by simp [e]⟩
   exact List.length_filter_lt_length_iff_exists.mpr this
  rw [List.length_singleton];omega
 ·rw [List.length_nil];omega
theorem lsv_len:∀(q:List (Int×Int)) (f:Int) (hv:List (Int×Int)),(lsv q f hv).2.2.1.length+(lsv q f hv).2.2.2.length=hv.length+q.length
 | [],f,hv=>rfl
 | (h,n)::q,f,hv=>by
  rw [lsv]
  split
  ·show(lsv q (f-n) (hv++[(h,n)])).2.2.1.length+(lsv q (f-n) (hv++[(h,n)])).2.2.2.length=_
   rw [lsv_len q,List.length_append,List.length_singleton,List.length_cons];omega
  ·rfl
def lgv(t:TS)(hv:List (Int×Int))(h n:Int):List (Int×Int)×Int×List (Int×Int)×List (Int×Int):=lsv t.que (t.free+giv t h n) (restH hv h (sumH hv h-giv t h n))
theorem giv_law{t:TS}{hv:List (Int×Int)}(a:TA t hv)(h n:Int):giv t h n=(if sumH hv h<n then sumH hv h else n):=by unfold giv;rw [a.sm]
theorem give_law{t:TS}{hv:List (Int×Int)}(a:TA t hv){h n:Int}(hn:0<n)(hh:h∈hs7):(giveS t h n).1=(lgv t hv h n).1/\(giveS t h n).2.free=(lgv t hv h n).2.1/\(giveS t h n).2.que=(lgv t hv h n).2.2.2/\TA (giveS t h n).2 (lgv t hv h n).2.2.1/\(lgv t hv h n).2.2.1.length+(lgv t hv h n).2.2.2.length<=hv.length+t.que.length:=by
 have g:=giv_law a h n
 have sp:=(sum_pos a.ps h)
 have ab:TA (outS t h (-(giv t h n))) (restH hv h (sumH hv h-giv t h n)):=a.back (by rw [g];split<;>omega) hh
 have e:(outS t h (-(giv t h n))).free=t.free+giv t h n:=by show t.free- -(giv t h n)=_;omega
 obtain⟨i1,i2,i3,i4⟩:=lsv_srv t.que (t:=outS t h (-(giv t h n))) rfl ab
 rw [e] at i1 i2 i3 i4
 refine⟨i1,i2,i3,i4,?_⟩
 unfold lgv
 rw [lsv_len]
 have:(restH hv h (sumH hv h-giv t h n)).length<=hv.length:=restH_len λc=>sp.2.mp (by
  rw [g] at c
  split at c<;>omega)
 omega
def HldC(hd:Addr)(ls ls':List LT)(ms:List LS)(H:Hp):Prop:=(∀c∈Hld.cells hd ls' ms,c∈Hld.cells hd ls ms\/H c=none)/\prL ls'=prL ls
theorem cells_of{hd:Addr}{m1 m2:List LT}{l:LT}{ms:List LS}{b' q':Addr}{hv':List (Int×Int)}{H:Hp}(hb:b'=l.b\/H b'=none)(hq:q'=l.q\/H q'=none):HldC hd (m1++l::m2) (m1++{l with b:=b',q:=q',hv:=hv'}::m2) ms H:=by
 refine⟨λc hc=>?_,by unfold prL;rw [List.map_append,List.map_append,List.map_cons,List.map_cons]⟩
 unfold Hld.cells at hc⊢
 rw [adL_mid] at hc⊢
 simp only [List.mem_cons,List.mem_append,List.not_mem_nil,or_false] at hc⊢
 rcases hc with z | (z | (z | z | z) | z) | z
 ·simp [z]
 ·simp [z]
 ·simp [z]
 ·rcases hb with y | y
  ·simp [z,y]
  ·rw [z];exact .inr y
 ·rcases hq with y | y
  ·simp [z,y]
  ·rw [z];exact .inr y
 ·simp [z]
 ·simp [z]
theorem go_gv{H:Hp}{hd:Addr}{k:Nat}{l1 l2:List Ent}{e:Ent}{ss:List EntS}{m1 m2:List LT}{l:LT}{ms:List LS}{h n:Int}{Kx:VK}{E:XK}(X:Hld H hd k (l1++e::l2) ss (m1++l::m2) ms)(le1:All2 (Tr H k) l1 m1)(ce:Tr H k e l)(le2:All2 (Tr H k) l2 m2)(hn:0<n)(hh:h∈hs7)(hk:k<=200)
 (q:∀H' p r sv ls',FrG [l.a] H H'->H r=none->H' p=some (.tup [.int (giv e.t h n),.ref r])->H' r=some (.lst sv)->Svd "takes" H' sv (giveS e.t h n).1->Hld H' hd k (l1++{e with t:=(giveS e.t h n).2}::l2) ss (m1++ls'::m2) ms->HldC hd (m1++l::m2) (m1++ls'::m2) ms H->r∉Hld.cells hd (m1++ls'::m2) ms->Kx (.ref p) H'):spGv [.ref l.a,.int h,.int n] H Kx E:=by
 have nd:=X.nd
 rw [adL_mid,List.append_assoc,List.append_assoc,<-List.cons_append,List.nodup_append] at nd
 have nd2:=nd.2.1
 rw [List.nodup_append] at nd2
 have n3:=nd2.1
 simp only [List.nodup_cons,List.mem_cons,List.not_mem_nil,or_false,not_or] at n3
 have le:=ce.le
 obtain⟨g1,g2,g3,g4,g5⟩:=give_law ce.ta hn hh
 have eg:=giv_law ce.ta h n
 refine⟨l.a,l.b,l.q,e.t.free,h,n,l.hv,e.t.que,rfl,ce.ht,n3.1.1,n3.1.2,by omega,by omega,ce.ta.ps,λH' p r b' q' sv bk ebk f hp hr hl sd nb nq d1 d2 d3 ht=>?_⟩
 rw [<-eg] at ebk
 subst ebk
 have f3:FrG [l.a,l.b,l.q] H H':=f.up λc hc=>by rw [List.mem_singleton.mp hc];simp
 have na1:l.a≠b':=λz=>by have:=ce.ht.A;rw [z,nb] at this;cases this
 have na2:l.a≠q':=λz=>nq.elim (λy=>n3.1.2 (z.trans y)) λy=>by have:=ce.ht.A;rw [z,y] at this;cases this
 have ht':HT H' l.a b' q' (giveS e.t h n).2.free (lgv e.t l.hv h n).2.2.1 (giveS e.t h n).2.que:=by rw [g2,g3];exact ht
 have Y:=X.tool le1 ce le2 f3 ht' g4 (Nat.le_refl _) (by rw [g3];omega) (.inr nb) nq (by simp [na1,na2,d3])
 refine q H' p r sv _ f hr hp hl (by rw [g1];exact sd) Y (cells_of (.inr nb) nq) λhc=>?_
 unfold Hld.cells at hc
 have hx:=X.has
 unfold Hld.cells at hx
 rw [adL_mid] at hc hx
 simp only [List.mem_cons,List.mem_append,List.not_mem_nil,or_false] at hc hx
 have no:∀c,H c≠none/\(∀xs,H c≠some (.tup xs))->r≠c:=λc hc z=>hc.1 (z▸hr)
 rcases hc with z | (z | (z | z | z) | z) | z
 ·exact no _ (hx hd (by simp)) z
 ·exact no _ (hx r (by simp [z])) rfl
 ·exact no _ (hx l.a (by simp)) z
 ·exact d1 z
 ·exact d2 z
 ·exact no _ (hx r (by simp [z])) rfl
 ·exact no _ (hx r (by simp [z])) rfl
end K21
namespace K21
open PySem L2
theorem PutR.det{s s1 s2:SS}{h n:Int}{b1 b2:Bool}{i1 i2:List (Int×Bool×Int)}(r1:PutR s h n b1 i1 s1)(r2:PutR s h n b2 i2 s2):b1=b2/\i1=i2/\s1=s2:=by
 unfold PutR at r1 r2
 split at r1
 ·next c=>
  rw [if_pos c] at r2
  exact⟨r1.1.trans r2.1.symm,r1.2.1.trans r2.2.1.symm,r1.2.2.trans r2.2.2.symm⟩
 ·next c=>
  rw [if_neg c] at r2
  obtain⟨a,b⟩:=r1.2.det r2.2
  exact⟨r1.1.trans r2.1.symm,a,b⟩
theorem GetR.det{s s1 s2:SS}{h n:Int}{b1 b2:Bool}{i1 i2:List (Int×Bool×Int)}(r1:GetR s h n b1 i1 s1)(r2:GetR s h n b2 i2 s2):b1=b2/\i1=i2/\s1=s2:=by
 unfold GetR at r1 r2
 split at r1
 ·next c=>
  rw [if_pos c] at r2
  exact⟨r1.1.trans r2.1.symm,r1.2.1.trans r2.2.1.symm,r1.2.2.trans r2.2.2.symm⟩
 ·next c=>
  rw [if_neg c] at r2
  obtain⟨a,b⟩:=r1.2.det r2.2
  exact⟨r1.1.trans r2.1.symm,a,b⟩
theorem HldC.refl{hd:Addr}{ls:List LT}{ms:List LS}{H:Hp}:HldC hd ls ls ms H:=⟨λ_ h=>.inl h,rfl⟩
theorem in_cells{hd:Addr}{m1 m2:List LT}{l:LT}{ms:List LS}:∀c∈[l.a,l.b,l.q],c∈Hld.cells hd (m1++l::m2) ms:=λc hc=>List.mem_cons_of_mem _ (List.mem_append_left _ (in_adL (by simp) c hc))
theorem in_cellsS{hd:Addr}{ls:List LT}{m1 m2:List LS}{l:LS}:∀c∈[l.a,l.b,l.c],c∈Hld.cells hd ls (m1++l::m2):=λc hc=>List.mem_cons_of_mem _ (List.mem_append_right _ (in_adM (by simp) c hc))
def LwI(hd pp dp fnd:Addr)(nm:Str)(h n:Int)(es:List Ent)(ss:List EntS)(ls:List LT)(ms:List LS)(k:Nat)(H:Hp)(i:Nat)(σ:St)(H1:Hp):Prop:=∃(vs:List V) (C:List Addr) (ls1:List LT) (v8 v9 v10 v11:Option V),σ= [some (.ref hd),some (.ref pp),some (.ref dp),some (.str "leave"),some (.int h),some (.str nm),some (.int n),some (.ref fnd),v8,v9,v10,v11]/\FrG (Hld.cells hd ls ms) H H1/\Hld H1 hd k ((es.take i).map (lv1 h)++es.drop i) ss ls1 ms/\HldC hd ls ls1 ms H/\fnd∉Hld.cells hd ls1 ms/\H1 fnd=some (.lst vs)/\LvL (fnd::(prL ls).map (·.2)) (λ_=>none) H1 C vs ((es.take i).filterMap (lvI h))
theorem a_in{ls ls':List LT}{l:LT}(e:prL ls'=prL ls)(h:l∈ls'):l.a∈(prL ls).map (·.2):=by
 rw [<-e]
 exact List.mem_map.mpr ⟨(l.name,l.a),List.mem_map.mpr ⟨l,h,rfl⟩,rfl⟩
theorem a_cells{hd:Addr}{ls:List LT}{ms:List LS}{c:Addr}(h:c∈(prL ls).map (·.2)):c∈Hld.cells hd ls ms:=by
 obtain⟨p,hp,rfl⟩:=List.mem_map.mp h
 obtain⟨l,hl,rfl⟩:=List.mem_map.mp hp
 exact List.mem_cons_of_mem _ (List.mem_append_left _ (in_adL hl _ (by simp)))
theorem a_has{H:Hp}{k:Nat}{es:List Ent}{ls:List LT}(t:All2 (Tr H k) es ls){c:Addr}(h:c∈(prL ls).map (·.2)):∃xs,H c=some (.lst xs):=by
 obtain⟨p,hp,rfl⟩:=List.mem_map.mp h
 obtain⟨l,hl,rfl⟩:=List.mem_map.mp hp
 exact tr_has t _ (in_adL hl _ (by simp))
theorem Tr.same{H H':Hp}{k:Nat}{e:Ent}{l:LT}(g:Same H H')(r:Tr H k e l):Tr H' k e l:=⟨r.nm,r.ht.same g,r.ta,r.le⟩
theorem opTo{t:VK->Prop}{v:V}{H:Hp}{Kx:VK}(ev:∀Kx:VK,Kx v H->t Kx)(k:Kx v H):t Kx:=ev _ k
section
variable{P:Program}{w:World}{K:PySem.W.Frag}{mg:Str->Option Value}{base:Heap}
def spDue:Sp:=λvs H Q _=>∃(hd pp p0 p1 dp:Addr) (ys0 ys1:List V) (pr0:List (Str×Int)) (pr1:List (Str×Int×Int)) (es:List Ent) (ss:List EntS) (ls:List LT) (ms:List LS) (k:Nat) (es':List Ent) (ss':List EntS) (d:PyData) (word nm:Str) (h n:Int),vs= [.ref hd,.ref pp,.ref dp]/\Prg H pp p0 p1 ys0 ys1 pr0 pr1/\pr0.length<=6/\es.map (·.name)=pr0.map (·.1)/\Hld H hd k es ss ls ms/\k<=100/\p0∉Hld.cells hd ls ms/\H dp=some (.tup [.str word,.int h,.str nm,.int n])/\h∈hs7/\0<n/\Dd es ss word nm h n es' ss' d/\(∀e∈ss,e.s.gets.length<200/\e.s.puts.length<200)/\
 ∀(H':Hp) (v:V) (ls':List LT),FrG (Hld.cells hd ls ms) H H'->(∃C,RpC H' v d C)->Hld H' hd (k+1) es' ss' ls' ms->HldC hd ls ls' ms H->Q v H'
theorem ok_due(D:DefAt K mg "_law_due" s__law_due ["held","program","deed"])(G__law_had:OkD P w K mg base 1 "_law_had" ["tool","hand"] spHad)(G__law_give:OkD P w K mg base 2 "_law_give" ["tool","hand","n"] spGv)(G__law_stored:OkD P w K mg base 2 "_law_stored" ["store","word","hand","n"] spSt):OkD P w K mg base 3 "_law_due" ["held","program","deed"] spDue:=by
 refine D.ok sc__law_due (λvs H Q E h=>?_) (λf cdv A outer s H vs Q E hr h=>?_)
 ·obtain⟨_,_,_,_,_,_,_,_,_,_,_,_,_,_,_,_,_,_,_,_,_,rfl,_⟩:=h;rfl
 obtain⟨hd,pp,p0,p1,dp,ys0,ys1,pr0,pr1,es,ss,ls,ms,k,es',ss',d,word,nm,h,n,rfl,pg,lpr,enm,X,hk,np0,hdp,hh,hn,DD,ol,q⟩:=h
 have hu:=hu_of hr
 have hu64:=hr.units
 have big:100000<=sizeLine:=by unfold sizeLine;decide
 have Xd:=X.d
 have q':=PLift.up q
 clear q
 refine⟨_,(pss_cons (ps_asg (pv 2) (pg_tupG 4 rfl (pgs_cons (pg_name (i:=3) sc__law_due.nd rfl (Or.inl rfl)) (pgs_cons (pg_name (i:=4) sc__law_due.nd rfl (Or.inl rfl)) (pgs_cons (pg_name (i:=5) sc__law_due.nd rfl (Or.inl rfl)) (pgs_cons (pg_name (i:=6) sc__law_due.nd rfl (Or.inl rfl)) pgs_nil))))))
 (pss_cons (ps_if (pt_cmpR op_eq (pv 3) pe_str (nomark _))
 (pss_cons (ps_set (i:=7) sc__law_due.nd rfl (Or.inl rfl) (pe_lstG pa_nil))
 (pss_cons (ps_for PassesOwn.never rfl (pi_list (pe_ix ix_g (pv 1) pe_int (λ_ _=>rfl))) (pg_tupG 2 rfl (pgs_cons (pg_name (i:=8) sc__law_due.nd rfl (Or.inl rfl)) (pgs_cons (pg_name (i:=9) sc__law_due.nd rfl (Or.inl rfl)) pgs_nil)))
 (pss_cons (ps_set (i:=10) sc__law_due.nd rfl (Or.inl rfl) (pe_def G__law_had hr rfl (pa_c (pe_dgetG hu (pv 0) (pv 8) (λ_ _=>rfl)) (pa_c (pv 4) pa_nil))))
 (pss_one (ps_if (pt_cmpR op_gt (pv 10) pe_int (nomark _))
 (pss_one (ps_expr (pe_appG (pv 7) (pe_op op_catT (pe_tupG (pa_c (pv 8) pa_nil)) (pe_def G__law_give hr rfl (pa_c (pe_dgetG hu (pv 0) (pv 8) (λ_ _=>rfl)) (pa_c (pv 4) (pa_c (pv 10) pa_nil))))))))
 pss_nil))))
 (pss_one (ps_ret (pv 7)))))
 pss_nil)
 (pss_cons (ps_if (pt_cmpR op_eq (pv 3) pe_str (nomark _))
 (pss_one (ps_ret (pe_def G__law_give hr rfl (pa_c (pe_dgetG hu (pv 0) (pv 5) (λ_ _=>rfl)) (pa_c (pv 4) (pa_c (pv 6) pa_nil))))))
 pss_nil)
 (pss_cons (ps_if (pt_cmpR op_eq (pv 3) pe_str (nomark _))
 (pss_cons (ps_set (i:=11) sc__law_due.nd rfl (Or.inl rfl) (pe_and (pe_cmpR (op_eqD hu64) (pe_ix ix_g (pe_dgetG hu (pv 0) (pv 5) (λ_ _=>rfl)) pe_int (λ_ _=>rfl)) (pe_lstG pa_nil) (nomark _)) (pe_one (pe_cmpR op_ge (pe_ix ix_g (pe_dgetG hu (pv 0) (pv 5) (λ_ _=>rfl)) pe_int (λ_ _=>rfl)) (pv 6) (nomark _)))))
 (pss_cons (ps_if (pt_val (pv 11))
 (pss_cons (ps_asg (pe_op op_sub (pe_ix ix_g (pe_dgetG hu (pv 0) (pv 5) (λ_ _=>rfl)) pe_int (λ_ _=>rfl)) (pv 6)) (pg_sub (pe_dgetG hu (pv 0) (pv 5) (λ_ _=>rfl)) pe_int set_listG))
 (pss_one (ps_expr (pe_appG (pe_ix ix_g (pe_dgetG hu (pv 0) (pv 5) (λ_ _=>rfl)) pe_int (λ_ _=>rfl)) (pe_tupG (pa_c (pv 4) (pa_c (pv 6) pa_nil)))))))
 (pss_one (ps_asg (pe_op op_catG (pe_ix ix_g (pe_dgetG hu (pv 0) (pv 5) (λ_ _=>rfl)) pe_int (λ_ _=>rfl)) (pe_lstG (pa_c (pe_tupG (pa_c (pv 4) (pa_c (pv 6) pa_nil))) pa_nil))) (pg_sub (pe_dgetG hu (pv 0) (pv 5) (λ_ _=>rfl)) pe_int set_listG))))
 (pss_one (ps_ret (pv 11)))))
 pss_nil)
 (pss_one (ps_ret (pe_def G__law_stored hr rfl (pa_c (pe_dgetG hu (pv 0) (pv 5) (λ_ _=>rfl)) (pa_c (pv 3) (pa_c (pv 4) (pa_c (pv 6) pa_nil))))))))))),?_⟩
 cases DD with
 | @take l1 l2 e e1 e2 e3=>
  subst e1 e2 e3
  obtain⟨m1,l,m2,rfl,t1,ce,t2⟩:=X.t.split
  have hv:=val_kvA X.nn (show(l.name,l.a)∈_ from List.mem_append_left _ (List.mem_map.mpr ⟨l,by simp,rfl⟩))
  rw [<-ce.nm] at hv
  have A1:=ce.ht.A
  obtain⟨vb,hb1,pb1⟩:=ce.ht.B
  obtain⟨vq,hq1,pq1⟩:=ce.ht.Q
  have lb:=pb1.length
  have lq:=pq1.length
  have cle:=ce.le
  have nd3:l.a≠l.b/\l.a≠l.q/\l.b≠l.q:=by
   have nd:=X.nd
   rw [adL_mid,List.append_assoc,List.append_assoc,<-List.cons_append,List.nodup_append] at nd
   have nd2:=nd.2.1
   rw [List.nodup_append] at nd2
   have n3:=nd2.1
   simp only [List.nodup_cons,List.mem_cons,List.not_mem_nil,or_false,not_or] at n3
   exact⟨n3.1.1,n3.1.2,n3.2.1⟩
  have ndh:hd≠l.a:=λz=>by rw [z,A1] at Xd;cases Xd
  walk_at "rz"
  apply twoG (takeS e.t h n=(false,⟨e.t.free,e.t.held,e.t.que++[(h,n)]⟩)) (H:=H)
  case h1=>
   intro elseK
   intro e3 G3 he3 g3 h3
   refine eq_nilP (g3 _ _ hq1) (pq1.mono λ_ _ hc=>g3 _ _ hc) h3 ?_
   refine⟨_,rfl,?_⟩
   cases hg:e.t.que.isEmpty with
   | false=>
    refine iteF ?_
    exact elseK (by unfold takeS;rw [if_pos (.inl λz=>by rw [z] at hg;cases hg)]) G3 g3
   | true=>
    refine iteT ?_
    have A3:=g3 _ _ A1
    have X3:=g3 _ _ Xd
    have hb3:=g3 _ _ hb1
    have ek:=PLift.up elseK
    clear elseK h3 A1 Xd hq1 hb1
    refine opTo (t:=tOp _ _ _ _ G3) (v:=.bl (decide (n<=e.t.free))) (H:=G3) (λKx kx=>?_) ?_
    ·walk_at "rz"
     try exact kx
    by_cases c:n<=e.t.free
    ·have tk:takeS e.t h n=(true,outS e.t h n):=by unfold takeS;rw [if_neg (λz=>z.elim (λy=>y (List.isEmpty_iff.mp hg)) λy=>by omega)]
     rw [decide_eq_true c]
     have tk':=PLift.up tk
     clear ek c hg tk
     walk_at "rz"
     refine⟨0,rfl,λG4 m4=>?_⟩
     have A4:G4 l.a=some (.lst [.int (e.t.free-n),.ref l.b,.ref l.q]):=m4.at_
     have X4:=m4.old X3 ndh
     have hb4:=m4.old hb3 (Ne.symm nd3.1)
     clear A3 X3 hb3
     walk_at "rz"
     intro t5 G5 ht5 g5 h5
     have hb5:=g5 _ _ hb4
     refine⟨vb,hb5,by omega,λG6 m6=>?_⟩
     have nt5:t5≠l.b:=(ne_of_none hb4 ht5).symm
     have k6:Kt H G6:=λc' xs hc=>m6.old (g5 _ _ (m4.old (g3 _ _ hc) (λz=>by obtain⟨ys,y⟩:=ce.ht.has l.a (by simp);rw [z,y] at hc;cases hc))) (λz=>by obtain⟨ys,y⟩:=ce.ht.has l.b (by simp);rw [z,y] at hc;cases hc)
     have f6:FrG [l.a,l.b,l.q] H G6:=λc' u nc hc=>m6.old (g5 _ _ (m4.old (g3 _ _ hc) (λz=>nc (by rw [z];simp)))) (λz=>nc (by rw [z];simp))
     obtain⟨vq,hq1,pq1⟩:=ce.ht.Q
     have ht6:HT G6 l.a l.b l.q (e.t.free-n) (l.hv++[(h,n)]) e.t.que:=⟨m6.old (g5 _ _ A4) nd3.1,⟨_,m6.at_,(pb1.mono k6).snoc (m6.old h5 nt5)⟩,⟨vq,m6.old (g5 _ _ (m4.old (g3 _ _ hq1) (Ne.symm nd3.2.1))) (Ne.symm nd3.2.2),pq1.mono k6⟩⟩
     have Y:=X.tool t1 ce t2 (t:=outS e.t h n) (k':=k+1) f6 ht6 (ce.ta.add hn hh) (by omega) (by show(l.hv++[(h,n)]).length+e.t.que.length<=_;rw [List.length_append,List.length_singleton];omega) (.inl rfl) (.inl rfl) (by simp [nd3.1,nd3.2.1,nd3.2.2])
     have fin:=q'.down G6 (.bl true) _ (f6.up in_cells) ⟨[],by rw [tk'.down];exact .bl _⟩ (by rw [tk'.down];exact Y) (cells_of (.inl rfl) (.inl rfl))
     clear X4 hb4 hb5 A4 h5
     walk_at "rz"
     try exact fin
    ·rw [decide_eq_false c]
     exact ek.down (by unfold takeS;rw [if_pos (.inr (by omega))]) G3 g3
  case h2=>
   intro tk G g
   have aG:=g _ _ A1
   have xG:=g _ _ Xd
   have hG:=g _ _ hq1
   have tk':=PLift.up tk
   clear A1 Xd tk hq1 hb1
   walk_at "rz"
   intro t5 G5 ht5 g5 h5
   walk_at "rz"
   intro o6 G6 ho6 g6 h6
   have hG6:=g6 _ _ (g5 _ _ hG)
   have aG6:=g6 _ _ (g5 _ _ aG)
   have xG6:=g6 _ _ (g5 _ _ xG)
   clear hG aG xG
   walk_at "rz"
   refine⟨by omega,λq7 G7 hq7 g7 h7=>?_⟩
   have aG7:=g7 _ _ aG6
   have xG7:=g7 _ _ xG6
   have g07:Same H G7:=((g.trans g5).trans g6).trans g7
   have nq7:q7≠l.a:=(ne_of_none aG6 hq7).symm
   have nb7:q7≠l.b:=by obtain⟨ys,y⟩:=ce.ht.has l.b (by simp);exact(ne_of_none (g6 _ _ (g5 _ _ (g _ _ y))) hq7).symm
   have hq0:H q7=none:=by
    cases z:H q7 with
    | none=>rfl
    | some u=>rw [g6 _ _ (g5 _ _ (g _ _ z))] at hq7;cases hq7
   clear hG6 aG6 xG6 h6
   walk_at "rz"
   refine⟨2,rfl,λG8 m8=>?_⟩
   have k8:Kt H G8:=λc' xs hc=>m8.old (g07 _ _ hc) (λz=>by obtain⟨ys,y⟩:=ce.ht.has l.a (by simp);rw [z,y] at hc;cases hc)
   have f8:FrG [l.a,l.b,l.q] H G8:=λc' u nc hc=>m8.old (g07 _ _ hc) (λz=>nc (by rw [z];simp))
   obtain⟨vb,hb1,pb1⟩:=ce.ht.B
   have a8:G8 l.a=some (.lst [.int e.t.free,.ref l.b,.ref q7]):=m8.at_
   have nt5:t5≠l.a:=(ne_of_none (g _ _ ce.ht.A) ht5).symm
   have ht8:HT G8 l.a l.b q7 e.t.free l.hv (e.t.que++[(h,n)]):=⟨a8,⟨vb,m8.old (g07 _ _ hb1) (Ne.symm nd3.1),pb1.mono k8⟩,⟨_,m8.old h7 nq7,(pq1.mono k8).snoc (m8.old (g7 _ _ (g6 _ _ h5)) nt5)⟩⟩
   have Y:=X.tool t1 ce t2 (t:=⟨e.t.free,e.t.held,e.t.que++[(h,n)]⟩) (k':=k+1) f8 ht8 (ce.ta.wait hn hh) (by omega) (by show l.hv.length+(e.t.que++[(h,n)]).length<=_;rw [List.length_append,List.length_singleton];omega) (.inl rfl) (.inr hq0) (by simp [nd3.1,Ne.symm nq7,Ne.symm nb7])
   have fin:=q'.down G8 (.bl false) _ (f8.up in_cells) ⟨[],by rw [tk'.down];exact .bl _⟩ (by rw [tk'.down];exact Y) (cells_of (.inl rfl) (.inr hq0))
   clear h7 aG7 xG7 h5
   walk_at "rz"
   try exact fin
 | @give l1 l2 e e1 e2 e3=>
  subst e1 e2 e3
  obtain⟨m1,l,m2,rfl,t1,ce,t2⟩:=X.t.split
  have hv:=val_kvA X.nn (show(l.name,l.a)∈_ from List.mem_append_left _ (List.mem_map.mpr ⟨l,by simp,rfl⟩))
  rw [<-ce.nm] at hv
  walk_at "rz"
  exact go_gv X t1 ce t2 hn hh (by omega) λH' p r sv l' f hr hp hl sd Y C nr=>q'.down H' _ _ (f.up λc hc=>in_cells c (by rw [List.mem_singleton.mp hc];simp)) ⟨[r],.tup hp (.cons (.int _) (.cons (.lst hl sd.rc) .nil))⟩ (Y.mono (by omega)) C
 | @put l1 l2 e b its s' e1 e2 e3 pr=>
  subst e1 e2 e3
  obtain⟨m1,l,m2,rfl,t1,ce,t2⟩:=X.s.split
  have hv:=val_kvA X.nn (show(l.name,l.a)∈_ from List.mem_append_right _ (List.mem_map.mpr ⟨l,by simp,rfl⟩))
  rw [<-ce.nm] at hv
  have oe:=ol e (by simp)
  have pr':=PLift.up pr
  clear pr
  walk_at "rz"
  refine⟨l.a,l.b,l.c,e.s,"put",h,n,rfl,ce.hs,ce.so,hn,.inl rfl,oe.1,oe.2,λp r x H' sv its' s'' f hp hl sd hs' st=>?_⟩
  cases st with
  | put st=>
   obtain⟨rfl,rfl,rfl⟩:=st.det pr'.down
   exact q'.down H' _ _ (f.up in_cellsS) ⟨[r],.tup hp (.cons (.bl _) (.cons (.lst hl sd.rc) .nil))⟩ ((X.store t1 ce t2 f hs' (st.so ce.so)).mono (by omega)) .refl
 | @get l1 l2 e b its s' e1 e2 e3 pr=>
  subst e1 e2 e3
  obtain⟨m1,l,m2,rfl,t1,ce,t2⟩:=X.s.split
  have hv:=val_kvA X.nn (show(l.name,l.a)∈_ from List.mem_append_right _ (List.mem_map.mpr ⟨l,by simp,rfl⟩))
  rw [<-ce.nm] at hv
  have oe:=ol e (by simp)
  have pr':=PLift.up pr
  clear pr
  walk_at "rz"
  refine⟨l.a,l.b,l.c,e.s,"get",h,n,rfl,ce.hs,ce.so,hn,.inr (.inl rfl),oe.1,oe.2,λp r x H' sv its' s'' f hp hl sd hs' st=>?_⟩
  cases st with
  | get st=>
   obtain⟨rfl,rfl,rfl⟩:=st.det pr'.down
   exact q'.down H' _ _ (f.up in_cellsS) ⟨[r],.tup hp (.cons (.bl _) (.cons (.lst hl sd.rc) .nil))⟩ ((X.store t1 ce t2 f hs' (st.so hn ce.so)).mono (by omega)) .refl
 | @bring l1 l2 e its s' e1 e2 e3 pr=>
  subst e1 e2 e3
  obtain⟨m1,l,m2,rfl,t1,ce,t2⟩:=X.s.split
  have hv:=val_kvA X.nn (show(l.name,l.a)∈_ from List.mem_append_right _ (List.mem_map.mpr ⟨l,by simp,rfl⟩))
  rw [<-ce.nm] at hv
  have oe:=ol e (by simp)
  have pr':=PLift.up pr
  clear pr
  walk_at "rz"
  refine⟨l.a,l.b,l.c,e.s,"bring",h,n,rfl,ce.hs,ce.so,hn,.inr (.inr rfl),oe.1,oe.2,λp r x H' sv its' s'' f hp hl sd hs' st=>?_⟩
  cases st with
  | bring st=>
   obtain⟨rfl,rfl⟩:=st.det pr'.down
   exact q'.down H' _ _ (f.up in_cellsS) ⟨[r],.tup hp (.cons (.int _) (.cons (.lst hl sd.rc) .nil))⟩ ((X.store t1 ce t2 f hs' (brg_so ce.so hn st)).mono (by omega)) .refl
 | leave e1=>
  subst e1
  obtain⟨x2,x3,pt⟩:=pg.tu
  have hl0:=pg.l0
  have pn:=pg.n0
  have ly:=pn.length
  have le0:es.length=pr0.length:=by have:=congrArg List.length enm;rw [List.length_map,List.length_map] at this;exact this
  walk_at "rz"
  intro fnd H1 hf g1 h1
  have pt1:=g1 _ _ pt
  have hl1:=g1 _ _ hl0
  have nf:fnd∉Hld.cells hd ls ms:=λz=>(X.has fnd z).1 hf
  have npf:p0≠fnd:=ne_of_none hl0 hf
  have X1:=X.same g1
  have fr1:FrG (Hld.cells hd ls ms) H H1:=λc u _ hc=>g1 _ _ hc
  have kt1:=Kt.of g1
  clear pt hl0 Xd
  walk_at "rz"
  refine tfor_in ?_
  simp only [iList]
  walk_at "rz"
  refine⟨⟨_,SqL.of hl1⟩,?_⟩
  refine for_list (xs:=ys0) (LwI hd pp dp fnd nm h n es ss ls ms k H) ?_ ?_ ?_ ?_
  ·exact⟨[],[],ls,_,_,_,_,rfl,fr1,X1,.refl,nf,h1,.nil⟩
  ·rintro i σ H2 hi ⟨vs,C,ls1,v8,v9,v10,v11,rfl,f2,_⟩
   exact SqL.of (f2 _ _ np0 pg.l0)
  ·rintro i x σ H2 hx ⟨vs,C,ls1,v8,v9,v10,v11,rfl,f2,X2,C2,nf2,hf2,lv2⟩
   obtain⟨p,nm',cn,rfl,ep,hp⟩:=pn.get hx
   have hi:i<es.length:=by have:=(List.getElem?_eq_some_iff.mp ep).1;omega
   obtain⟨e,he,en⟩:∃e,es[i]? =some e/\e.name=nm':=by
    have z:(es.map (·.name))[i]? =(pr0.map (·.1))[i]?:=by rw [enm]
    rw [List.getElem?_map,List.getElem?_map,ep,List.getElem?_eq_getElem hi] at z
    exact⟨es[i],List.getElem?_eq_getElem hi,by injection z⟩
   subst en
   have ed:es.drop i=e::es.drop (i+1):=by
    obtain⟨l,e'⟩:=List.getElem?_eq_some_iff.mp he
    rw [<-e']
    exact List.drop_eq_getElem_cons l
   rw [ed] at X2
   obtain⟨m1,l,m2,rfl,t1,ce,t2⟩:=X2.t.split
   have hv:=val_kvA X2.nn (show(l.name,l.a)∈_ from List.mem_append_left _ (List.mem_map.mpr ⟨l,by simp,rfl⟩))
   rw [<-ce.nm] at hv
   have ktf:Kt H H2:=λc xs hc=>f2 c _ (λz=>(X.has c z).2 xs hc) hc
   have hp2:=ktf _ _ hp
   have et:(es.take (i+1)).map (lv1 h)++es.drop (i+1)=(es.take i).map (lv1 h)++lv1 h e::es.drop (i+1):=by
    rw [take_snoc he,List.map_append,List.append_assoc];rfl
   have ef:(es.take (i+1)).filterMap (lvI h)=(es.take i).filterMap (lvI h)++(lvI h e).toList:=by
    rw [take_snoc he,List.filterMap_append]
    congr 1
   have lv:=lv2.length
   have lf2:=List.length_filterMap_le (lvI h) (es.take i)
   rw [List.length_take] at lf2
   have Xd2:=X2.d
   have cle:=ce.le
   have sm:=ce.ta.sm h
   have sm':=PLift.up sm
   have t1':=PLift.up X2.t
   have et':=PLift.up et
   have ef':=PLift.up ef
   clear sm et ef ed he ep hx hl1 pt1 h1 hdp hp
   walk_at "rz"
   refine⟨l.a,l.b,l.q,e.t.free,l.hv,e.t.que,h,rfl,ce.ht,by omega,λH3 g3=>?_⟩
   have Xd3:=g3 _ _ Xd2
   have hf3:=g3 _ _ hf2
   clear Xd2
   walk_at "rz"
   refine ite2 (λc=>?_) λc=>?_
   ·have c':0<getI e.t.held h:=by rw [sm'.down];exact c
    have cc:=PLift.up c
    clear c
    walk_at "rz"
    intro t4 H4 ht4 g4 h4
    have Xd4:=g4 _ _ Xd3
    have hf4:=g4 _ _ hf3
    have g24:=g3.trans g4
    clear Xd3
    walk_at "rz"
    refine go_gv (X2.same g24) (t1.imp λ_ _ _ r=>r.same g24) (ce.same g24) (t2.imp λ_ _ _ r=>r.same g24) cc.down hh (by omega) λH5 p5 r sv l' f5 hr5 hp5 hl5 sd5 Y5 C5 nr5=>?_
    rw [<-sm'.down] at hp5 sd5 Y5
    rw [giv_self] at hp5
    have k45:Kt H4 H5:=λc xs hc=>f5 c _ (λz=>by have:=(ce.same g24).ht.A;rw [List.mem_singleton.mp z,this] at hc;cases hc) hc
    have la:l.a∈(prL ls).map (·.2):=a_in C2.2 (by simp)
    have nfa:fnd≠l.a:=λz=>nf2 (by rw [z];exact in_cells _ (by simp))
    have hf5:=f5 _ _ (λz=>nfa (List.mem_singleton.mp z)) hf4
    refine⟨t4,p5,[.str e.name],[.int _,.ref r],rfl,rfl,SqT.of (k45 _ _ h4),SqT.of hp5,by simp,by simp;omega,λz=>(by cases z),λ_ p6 hp6=>?_⟩
    have g6:Same H5 (upd H5 p6 (.tup ([.str e.name]++[.int (getI e.t.held h),.ref r]))):=λc u hc=>by unfold upd;rw [if_neg (ne_of_none hc hp6)];exact hc
    have h6:(upd H5 p6 (.tup ([.str e.name]++[.int (getI e.t.held h),.ref r]))) p6=some (.tup [.str e.name,.int (getI e.t.held h),.ref r]):=upd_same
    generalize upd H5 p6 (.tup ([.str e.name]++[.int (getI e.t.held h),.ref r]))=H6 at g6 h6
    have hf6:=g6 _ _ hf5
    refine⟨vs,hf6,by omega,λH7 m7=>?_⟩
    have k67:Kt H6 H7:=λc xs hc=>m7.old hc (λz=>by rw [z,hf6] at hc;cases hc)
    have f4:FrG (Hld.cells hd ls ms) H H4:=f2.same g24
    have nf5:fnd∉Hld.cells hd (m1++l'::m2) ms:=λz=>(C5.1 _ z).elim nf2 λy=>by rw [hf4] at y;cases y
    have nr:r∉fnd::(prL ls).map (·.2):=λz=>by
     rcases List.mem_cons.mp z with z | z
     ·rw [z,hf4] at hr5;cases hr5
     ·rw [<-C2.2] at z
      obtain⟨xs,y⟩:=a_has t1'.down z
      rw [g24 _ _ y] at hr5;cases hr5
    have np6:p6≠fnd:=(ne_of_none hf5 hp6).symm
    have nrf:r≠fnd:=λz=>nr (by rw [z];simp)
    refine⟨vs++[.ref p6],C++[r],_,_,_,_,_,rfl,λc u nc hc=>m7.old (g6 _ _ (f5 c u (λz=>nc (by rw [List.mem_singleton.mp z];exact a_cells la)) (f4 c u nc hc))) (ne_of_none hc hf),?_,⟨λc hc=>?_,C5.2.trans C2.2⟩,nf5,m7.at_,?_⟩
    ·rw [et'.down]
     have e1:lv1 h e={e with t:=(giveS e.t h (getI e.t.held h)).2}:=by unfold lv1;rw [if_pos c']
     rw [e1]
     exact(Y5.same g6).fr (cs:=[fnd]) (λc u nc hc=>m7.old hc (λz=>nc (by rw [z];simp))) k67 λc hc z=>nf5 (by rw [<-List.mem_singleton.mp z];exact hc)
    ·rcases C5.1 c hc with z | z
     ·exact C2.1 c z
     ·by_cases y:c∈Hld.cells hd ls ms
      ·exact .inl y
      ·refine .inr ?_
       cases x:H c with
       | none=>rfl
       | some u=>rw [f4 c u y x] at z;cases z
    ·rw [ef'.down]
     have e2:lvI h e=some (e.name,getI e.t.held h,(giveS e.t h (getI e.t.held h)).1):=by unfold lvI;rw [if_pos c']
     rw [e2]
     exact LvL.snoc (m7.old h6 np6) (m7.old (g6 _ _ hl5) nrf) nr rfl (sd5.mono λc xs hc=>k67 _ _ (g6 _ _ hc)) (lv2.mono (λc xs hc=>k67 _ _ (g6 _ _ (k45 _ _ (g24 _ _ hc)))) λc xs nc hc=>m7.old (g6 _ _ (f5 c _ (λz=>nc (by rw [List.mem_singleton.mp z];exact List.mem_cons_of_mem _ la)) (g24 _ _ hc))) (λz=>nc (by rw [z];simp)))
   ·have c':¬0<getI e.t.held h:=by rw [sm'.down];exact c
    show LwI _ _ _ _ _ _ _ _ _ _ _ _ _ _ _ _
    refine⟨vs,C,_,_,_,_,_,rfl,f2.same g3,?_,C2,nf2,hf3,?_⟩
    ·rw [et'.down]
     have e1:lv1 h e=e:=by unfold lv1;rw [if_neg c']
     rw [e1]
     exact X2.same g3
    ·rw [ef'.down]
     have e2:lvI h e=none:=by unfold lvI;rw [if_neg c']
     rw [e2,Option.toList_none,List.append_nil]
     exact lv2.mono (λc xs hc=>g3 _ _ hc) λc xs nc hc=>g3 _ _ hc
  ·rintro σ H2 ⟨vs,C,ls1,v8,v9,v10,v11,rfl,f2,X2,C2,nf2,hf2,lv2⟩
   rw [List.take_of_length_le (by omega),List.drop_of_length_le (by omega),List.append_nil] at X2
   rw [List.take_of_length_le (by omega)] at lv2
   have fin:=q'.down H2 (.ref fnd) ls1 f2 ⟨fnd::C,.lst hf2 lv2.rc⟩ (X2.mono (by omega)) C2
   walk_at "rz"
   try exact fin
end
end K21
namespace K21
open PySem L2
def B0(H:Hp)(p:Str×Int)(l:LT):Prop:=l.name=p.1/\l.hv= []/\HT H l.a l.b l.q p.2 [] []
def B1(H:Hp)(p:Str×Int×Int)(l:LS):Prop:=l.name=p.1/\HS H l.a l.b l.c ⟨p.2.1,p.2.2,[],[]⟩
theorem All2.snoc{α β:Type}{R:α->β->Prop}{l:List α}{m:List β}(h:All2 R l m){a:α}{b:β}(r:R a b):All2 R (l++[a]) (m++[b]):=All2.app (.cons r .nil) h
theorem adL_snoc{ls:List LT}{l:LT}:adL (ls++[l])=adL ls++[l.a,l.b,l.q]:=by unfold adL;rw [List.flatMap_append];simp
theorem adM_snoc{ls:List LS}{l:LS}:adM (ls++[l])=adM ls++[l.a,l.b,l.c]:=by unfold adM;rw [List.flatMap_append];simp
theorem b0_has{H:Hp}{pr:List (Str×Int)}{ls:List LT}(t:All2 (B0 H) pr ls):∀c∈adL ls,∃xs,H c=some (.lst xs):=by
 induction t with
 | nil=>intro c hc;simp [adL] at hc
 | @cons e l es ls h _ ih=>
  intro c hc
  rw [show adL (l::ls)= [l.a,l.b,l.q]++adL ls from by unfold adL;rw [List.flatMap_cons],List.mem_append] at hc
  exact hc.elim (h.2.2.has c) (ih c)
theorem b1_has{H:Hp}{pr:List (Str×Int×Int)}{ls:List LS}(t:All2 (B1 H) pr ls):∀c∈adM ls,∃xs,H c=some (.lst xs):=by
 induction t with
 | nil=>intro c hc;simp [adM] at hc
 | @cons e l es ls h _ ih=>
  intro c hc
  rw [show adM (l::ls)= [l.a,l.b,l.c]++adM ls from by unfold adM;rw [List.flatMap_cons],List.mem_append] at hc
  exact hc.elim (h.2.has c) (ih c)
theorem nd3{C:List Addr}{H:Hp}{x y z:Addr}(n:C.Nodup)(has:∀c∈C,H c≠none)(hx:H x=none)(hy:H y=none)(hz:H z=none)(xy:x≠y)(xz:x≠z)(yz:y≠z):(C++[x,y,z]).Nodup:=by
 refine List.nodup_append.mpr ⟨n,by simp [xy,xz,yz],λc hc d hd e=>?_⟩
 simp only [List.mem_cons,List.not_mem_nil,or_false] at hd
 rcases hd with rfl | rfl | rfl
 ·exact has c hc (e▸hx)
 ·exact has c hc (e▸hy)
 ·exact has c hc (e▸hz)
theorem nm0{H:Hp}{pr:List (Str×Int)}{ls:List LT}(t:All2 (B0 H) pr ls):(prL ls).map (·.1)=pr.map (·.1):=by
 induction t with
 | nil=>rfl
 | cons h _ ih=>
  unfold prL at ih⊢
  rw [List.map_cons,List.map_cons,List.map_cons,ih,h.1]
theorem nm1{H:Hp}{pr:List (Str×Int×Int)}{ls:List LS}(t:All2 (B1 H) pr ls):(prM ls).map (·.1)=pr.map (·.1):=by
 induction t with
 | nil=>rfl
 | cons h _ ih=>
  unfold prM at ih⊢
  rw [List.map_cons,List.map_cons,List.map_cons,ih,h.1]
def BgI(pp hd:Addr)(pr0:List (Str×Int))(H:Hp)(i:Nat)(σ:St)(H1:Hp):Prop:=∃(ls:List LT) (v2 v3:Option V),σ= [some (.ref pp),some (.ref hd),v2,v3,none,none]/\Same H H1/\H1 hd=some (.dK (kvA (prL ls)))/\All2 (B0 H1) (pr0.take i) ls/\(hd::adL ls).Nodup/\∀c∈adL ls,H c=none
def BhI(pp hd:Addr)(pr0:List (Str×Int))(pr1:List (Str×Int×Int))(ls:List LT)(H:Hp)(i:Nat)(σ:St)(H1:Hp):Prop:=∃(ms:List LS) (v2 v3 v4 v5:Option V),σ= [some (.ref pp),some (.ref hd),v2,v3,v4,v5]/\Same H H1/\H1 hd=some (.dK (kvA (prL ls++prM ms)))/\All2 (B0 H1) pr0 ls/\All2 (B1 H1) (pr1.take i) ms/\(hd::(adL ls++adM ms)).Nodup/\∀c∈adL ls++adM ms,H c=none
section
variable{P:Program}{w:World}{K:PySem.W.Frag}{mg:Str->Option Value}{base:Heap}
def spBg:Sp:=λvs H Q _=>∃(pp p0 p1:Addr) (ys0 ys1:List V) (pr0:List (Str×Int)) (pr1:List (Str×Int×Int)),vs= [.ref pp]/\Prg H pp p0 p1 ys0 ys1 pr0 pr1/\Pr0 pr0/\Pr1 pr1/\
 ∀(hd:Addr) (H':Hp) (ls:List LT) (ms:List LS),H hd=none->Same H H'->H' hd=some (.dK (kvA (prL ls++prM ms)))->All2 (B0 H') pr0 ls->All2 (B1 H') pr1 ms->(hd::(adL ls++adM ms)).Nodup->(∀c∈adL ls++adM ms,H c=none)->Q (.ref hd) H'
theorem ok_bg(D:DefAt K mg "_law_begun" s__law_begun ["program"]):OkD P w K mg base 1 "_law_begun" ["program"] spBg:=by
 refine D.ok sc__law_begun (λvs H Q E h=>?_) (λf cdv A outer s H vs Q E hr h=>?_)
 ·obtain⟨_,_,_,_,_,_,_,rfl,_⟩:=h;rfl
 obtain⟨pp,p0,p1,ys0,ys1,pr0,pr1,rfl,pg,b0,b1,q⟩:=h
 have hu:=hu_of hr
 have big:100000<=sizeLine:=by unfold sizeLine;decide
 have q':=PLift.up q
 clear q
 obtain⟨x2,x3,pt⟩:=pg.tu
 have hl0:=pg.l0
 have pn:=pg.n0
 have ly:=pn.length
 have pm:=pg.n1
 have lm:=pm.length
 have lb0:=b0.1
 have lb1:=b1.1
 refine⟨_,(pss_cons (ps_set (i:=1) sc__law_begun.nd rfl (Or.inl rfl) pe_dnewG)
 (pss_cons (ps_for PassesOwn.never rfl (pi_list (pe_ix ix_g (pv 0) pe_int (λ_ _=>rfl))) (pg_tupG 2 rfl (pgs_cons (pg_name (i:=2) sc__law_begun.nd rfl (Or.inl rfl)) (pgs_cons (pg_name (i:=3) sc__law_begun.nd rfl (Or.inl rfl)) pgs_nil)))
 (pss_one (ps_dputG2 hu (pv 1) (pv 2) (pe_lstG (pa_c (pv 3) (pa_c (pe_lstG pa_nil) (pa_c (pe_lstG pa_nil) pa_nil)))))))
 (pss_cons (ps_for PassesOwn.never rfl (pi_list (pe_ix ix_g (pv 0) pe_int (λ_ _=>rfl))) (pg_tupG 3 rfl (pgs_cons (pg_name (i:=2) sc__law_begun.nd rfl (Or.inl rfl)) (pgs_cons (pg_name (i:=4) sc__law_begun.nd rfl (Or.inl rfl)) (pgs_cons (pg_name (i:=5) sc__law_begun.nd rfl (Or.inl rfl)) pgs_nil))))
 (pss_one (ps_dputG2 hu (pv 1) (pv 2) (pe_lstG (pa_c (pv 4) (pa_c (pe_lstG pa_nil) (pa_c (pe_lstG pa_nil) (pa_c (pv 5) pa_nil))))))))
 (pss_one (ps_ret (pv 1)))))),?_⟩
 walk_at "rz"
 intro hd H1 hhd g1 h1
 have pt1:=g1 _ _ pt
 have hl1:=g1 _ _ hl0
 clear pt hl0
 walk_at "rz"
 refine tfor_in ?_
 simp only [iList]
 walk_at "rz"
 refine⟨⟨_,SqL.of hl1⟩,?_⟩
 refine for_list (xs:=ys0) (BgI pp hd pr0 H) ?_ ?_ ?_ ?_
 ·exact⟨[],_,_,rfl,g1,h1,.nil,by simp [adL],λc hc=>by simp [adL] at hc⟩
 ·rintro i σ H2 hi ⟨ls,v2,v3,rfl,g2,_⟩
  exact SqL.of (g2 _ _ pg.l0)
 ·rintro i x σ H2 hx ⟨ls,v2,v3,rfl,g2,h2,t2,n2,fr2⟩
  obtain⟨p,nm,cn,rfl,ep,hp⟩:=pn.get hx
  have hp2:=g2 _ _ hp
  have l2:=t2.length
  rw [List.length_take] at l2
  have lk:(kvA (prL ls)).length=ls.length:=by unfold kvA prL;rw [List.length_map,List.length_map]
  have ep':=PLift.up ep
  clear ep hx hl1 pt1 h1 hp
  walk_at "rz"
  intro b3 H3 hb3 g3 h3
  walk_at "rz"
  intro q4 H4 hq4 g4 h4
  walk_at "rz"
  intro a5 H5 ha5 g5 h5
  have h25:=g5 _ _ (g4 _ _ (g3 _ _ h2))
  walk_at "rz"
  refine⟨by omega,λH6 m6=>?_⟩
  have f56:FrG [hd] H5 H6:=λc u nc hc=>m6.old hc (λz=>nc (by rw [z];simp))
  have g25:=(g3.trans g4).trans g5
  have k56:Kt H5 H6:=λc xs hc=>m6.old hc (λz=>by rw [z,h25] at hc;cases hc)
  have n3:b3≠q4:=ne_of_none h3 hq4
  have n1:b3≠a5:=ne_of_none (g4 _ _ h3) ha5
  have n2':q4≠a5:=ne_of_none h4 ha5
  have nb:b3≠hd:=(ne_of_none h2 hb3).symm
  have nq:q4≠hd:=(ne_of_none (g3 _ _ h2) hq4).symm
  have na:a5≠hd:=(ne_of_none (g4 _ _ (g3 _ _ h2)) ha5).symm
  have fb:=hb3
  have fq:=g3.free hq4
  have fa:=(g3.trans g4).free ha5
  have same6:Same H H6:=λc u hc=>m6.old (g25 _ _ (g2 _ _ hc)) (ne_of_none hc hhd)
  have hdn:∀c∈adL ls,c∉[hd]:=λc hc z=>by
   rw [List.nodup_cons] at n2
   exact n2.1 (by rw [<-List.mem_singleton.mp z];exact hc)
  have t6:All2 (B0 H6) (pr0.take i) ls:=t2.imp λp l hl r=>⟨r.1,r.2.1,(r.2.2.same g25).fr f56 k56 λc hc=>hdn c (in_adL hl c hc)⟩
  have new:B0 H6 (nm,cn) ⟨nm,a5,b3,q4,[]⟩:=⟨rfl,rfl,m6.old h5 na,⟨[],m6.old (g5 _ _ (g4 _ _ h3)) nb,.nil⟩,⟨[],m6.old (g5 _ _ h4) nq,.nil⟩⟩
  have nn:nm∉(prL ls).map (·.1):=by
   rw [nm0 t2]
   have nd:=b0.2.1
   rw [<-List.take_append_drop (i+1) pr0,take_snoc ep'.down,List.map_append,List.nodup_append] at nd
   have nd1:=nd.1
   rw [List.map_append,List.nodup_append] at nd1
   exact λz=>nd1.2.2 nm z nm (by simp) rfl
  refine⟨ls++[⟨nm,a5,b3,q4,[]⟩],_,_,rfl,same6,?_,?_,?_,λc hc=>?_⟩
  ·rw [m6.at_,putK_new _ (val_none nn)]
   unfold kvA prL
   rw [List.map_append,List.map_append];rfl
  ·rw [take_snoc ep'.down];exact t6.snoc new
  ·rw [adL_snoc,<-List.cons_append]
   exact nd3 (H:=H2) n2 (λc hc=>by
    rcases List.mem_cons.mp hc with z | z
    ·rw [z,h2];simp
    ·obtain⟨xs,y⟩:=b0_has t2 c z;rw [y];simp) fa fb fq (Ne.symm n1) (Ne.symm n2') n3
  ·rw [adL_snoc] at hc
   rcases List.mem_append.mp hc with z | z
   ·exact fr2 c z
   ·simp only [List.mem_cons,List.not_mem_nil,or_false] at z
    rcases z with rfl | rfl | rfl
    ·exact g2.free fa
    ·exact g2.free fb
    ·exact g2.free fq
 ·rintro σ H2 ⟨ls,v2,v3,rfl,g2,h2,t2,n2,fr2⟩
  rw [List.take_of_length_le (by omega)] at t2
  clear hl1 pt1 h1 g1
  obtain⟨x2,x3,pt⟩:=pg.tu
  have pt2:=g2 _ _ pt
  have hl2:=g2 _ _ pg.l1
  clear pt
  have n20:=PLift.up n2
  have fr20:=PLift.up fr2
  have g20:=PLift.up g2
  have lls:=t2.length
  walk_at "rz"
  refine tfor_in ?_
  simp only [iList]
  walk_at "rz"
  refine⟨⟨_,SqL.of hl2⟩,?_⟩
  refine for_list (xs:=ys1) (BhI pp hd pr0 pr1 ls H) ?_ ?_ ?_ ?_
  ·refine⟨[],_,_,_,_,rfl,g2,?_,t2,.nil,?_,λc hc=>?_⟩
   ·rw [h2,show prM []= [] from rfl,List.append_nil]
   ·rw [show adM []= [] from rfl,List.append_nil];exact n2
   ·rw [show adM []= [] from rfl,List.append_nil] at hc;exact fr2 c hc
  ·rintro i σ H3 hi ⟨ms,v2,v3,v4,v5,rfl,g3,_⟩
   exact SqL.of (g3 _ _ pg.l1)
  ·clear h2 hl2 pt2 g2 n2 t2 fr2
   rintro i x σ H2 hx ⟨ms,v2,v3,v4,v5,rfl,g2,h2,t2,s2,n2,fr2⟩
   obtain⟨p,nm,c1,c2,rfl,ep,hp⟩:=pm.get hx
   have hp2:=g2 _ _ hp
   have l2:=s2.length
   rw [List.length_take] at l2
   have lk:(kvA (prL ls++prM ms)).length=ls.length+ms.length:=by unfold kvA prL prM;rw [List.length_map,List.length_append,List.length_map,List.length_map]
   have ep':=PLift.up ep
   clear ep hx hp
   walk_at "rz"
   intro b3 H3 hb3 g3 h3
   walk_at "rz"
   intro q4 H4 hq4 g4 h4
   walk_at "rz"
   intro a5 H5 ha5 g5 h5
   have h25:=g5 _ _ (g4 _ _ (g3 _ _ h2))
   walk_at "rz"
   refine⟨by omega,λH6 m6=>?_⟩
   have f56:FrG [hd] H5 H6:=λc u nc hc=>m6.old hc (λz=>nc (by rw [z];simp))
   have g25:=(g3.trans g4).trans g5
   have k56:Kt H5 H6:=λc xs hc=>m6.old hc (λz=>by rw [z,h25] at hc;cases hc)
   have n3:b3≠q4:=ne_of_none h3 hq4
   have n1:b3≠a5:=ne_of_none (g4 _ _ h3) ha5
   have n2':q4≠a5:=ne_of_none h4 ha5
   have nb:b3≠hd:=(ne_of_none h2 hb3).symm
   have nq:q4≠hd:=(ne_of_none (g3 _ _ h2) hq4).symm
   have na:a5≠hd:=(ne_of_none (g4 _ _ (g3 _ _ h2)) ha5).symm
   have fb:=hb3
   have fq:=g3.free hq4
   have fa:=(g3.trans g4).free ha5
   have same6:Same H H6:=λc u hc=>m6.old (g25 _ _ (g2 _ _ hc)) (ne_of_none hc hhd)
   have hdn:∀c∈adL ls++adM ms,c∉[hd]:=λc hc z=>by
    rw [List.nodup_cons] at n2
    exact n2.1 (by rw [<-List.mem_singleton.mp z];exact hc)
   have t6:All2 (B0 H6) pr0 ls:=t2.imp λp l hl r=>⟨r.1,r.2.1,(r.2.2.same g25).fr f56 k56 λc hc=>hdn c (List.mem_append_left _ (in_adL hl c hc))⟩
   have s6:All2 (B1 H6) (pr1.take i) ms:=s2.imp λp l hl r=>⟨r.1,(r.2.same g25).fr f56 k56 λc hc=>hdn c (List.mem_append_right _ (in_adM hl c hc))⟩
   have new:B1 H6 (nm,c1,c2) ⟨nm,a5,b3,q4⟩:=⟨rfl,m6.old h5 na,⟨[],m6.old (g5 _ _ (g4 _ _ h3)) nb,.nil⟩,⟨[],m6.old (g5 _ _ h4) nq,.nil⟩,Ne.symm n1,Ne.symm n2',n3,by show(0:Nat)<=200;omega,by show(0:Nat)<=200;omega⟩
   have nn:nm∉(prL ls++prM ms).map (·.1):=by
    rw [List.map_append,nm0 t2,nm1 s2]
    have nd:=b1.2.1
    rw [<-List.take_append_drop (i+1) pr1,take_snoc ep'.down,List.map_append,List.nodup_append] at nd
    have nd1:=nd.1
    rw [List.map_append,List.nodup_append] at nd1
    intro z
    rcases List.mem_append.mp z with z | z
    ·obtain⟨y,hy,e⟩:=List.mem_map.mp z
     exact nm_ne _ (b0.2.2 y hy).2.2 nm (b1.2.2 _ (List.mem_of_getElem? ep'.down)).2.2.2.2 e
    ·exact nd1.2.2 nm z nm (by simp) rfl
   refine⟨ms++[⟨nm,a5,b3,q4⟩],_,_,_,_,rfl,same6,?_,t6,?_,?_,λc hc=>?_⟩
   ·rw [m6.at_,putK_new _ (val_none nn)]
    unfold kvA prL prM
    rw [List.map_append,List.map_append,List.map_append,List.map_append,List.append_assoc];rfl
   ·rw [take_snoc ep'.down];exact s6.snoc new
   ·rw [adM_snoc,<-List.append_assoc,<-List.cons_append]
    exact nd3 (H:=H2) n2 (λc hc=>by
     rcases List.mem_cons.mp hc with z | z
     ·rw [z,h2];simp
     ·rcases List.mem_append.mp z with z | z
      ·obtain⟨xs,y⟩:=b0_has t2 c z;rw [y];simp
      ·obtain⟨xs,y⟩:=b1_has s2 c z;rw [y];simp) fa fb fq (Ne.symm n1) (Ne.symm n2') n3
   ·rw [adM_snoc,<-List.append_assoc] at hc
    rcases List.mem_append.mp hc with z | z
    ·exact fr2 c z
    ·simp only [List.mem_cons,List.not_mem_nil,or_false] at z
     rcases z with rfl | rfl | rfl
     ·exact g2.free fa
     ·exact g2.free fb
     ·exact g2.free fq
  ·rintro σ H3 ⟨ms,v2,v3,v4,v5,rfl,g3,h3,t3,s3,n3,fr3⟩
   rw [List.take_of_length_le (by omega)] at s3
   have fin:=q'.down hd H3 ls ms hhd g3 h3 t3 s3 n3 fr3
   walk_at "rz"
   try exact fin
end
end K21
namespace K21
open PySem L2
theorem sh_can{d:PyData}(h:SeqAt.shaped d=true):d.canLay0=true:=by
 unfold SeqAt.shaped at h
 rw [Bool.and_eq_true] at h
 exact h.1
theorem ne_same{K:PySem.W.Frag}{H:Hp}{x y:V}{d:PyData}{Kx:VK}(hx:Rp K H x d)(hy:Rp K H y d)(sh:SeqAt.shaped d=true)(k:Kx (.bl false) H):rNeD K x y H Kx:=⟨d,d,hx,hy,sh,sh,by rw [PySem.SeqAt.eqv_refl d (sh_can sh)];exact k⟩
theorem eq_same{K:PySem.W.Frag}{H:Hp}{x y:V}{d:PyData}{Kx:VK}(hx:Rp K H x d)(hy:Rp K H y d)(sh:SeqAt.shaped d=true)(k:Kx (.bl true) H):rEqD K x y H Kx:=⟨d,d,hx,hy,sh,sh,by rw [PySem.SeqAt.eqv_refl d (sh_can sh)];exact k⟩
inductive Knd:PyData->Prop
 | bl (b:Bool):Knd (.bool b)
 | tb (b:Bool) (l:List PyData):Knd (.tuple [.bool b,.list l])
 | ti (i:Int) (l:List PyData):Knd (.tuple [.int i,.list l])
 | ls (l:List PyData):Knd (.list l)
theorem Dd.knd{es es':List Ent}{ss ss':List EntS}{word nm:Str}{h n:Int}{d:PyData}(D:Dd es ss word nm h n es' ss' d):Knd d:=by
 cases D with
 | take=>exact .bl _
 | give=>exact .ti _ _
 | put=>exact .tb _ _
 | get=>exact .tb _ _
 | bring=>exact .ti _ _
 | leave=>exact .ls _
section
variable{P:Program}{w:World}{K:PySem.W.Frag}{mg:Str->Option Value}{base:Heap}
def spSame:Sp:=λvs H Q _=>∃(v1 v2:V) (d:PyData) (C1 C2:List Addr),vs= [v1,v2]/\RpC H v1 d C1/\RpC H v2 d C2/\Knd d/\SeqAt.shaped d=true/\∀H',Same H H'->Q (.bl true) H'
theorem ok_same(D:DefAt K mg "_law_same" s__law_same ["found","due"])(hisinstance:mg "isinstance" =none)(hbool:mg "bool" =none)(hlist:mg "list" =none)(htuple:mg "tuple" =none):OkD P w K mg base 1 "_law_same" ["found","due"] spSame:=by
 refine D.ok sc__law_same (λvs H Q E h=>?_) (λf cdv A outer s H vs Q E hr h=>?_)
 ·obtain⟨_,_,_,_,_,rfl,_⟩:=h;rfl
 obtain⟨v1,v2,d,C1,C2,rfl,r1,r2,kd,sh,q⟩:=h
 have hu:=hu_of hr
 have hu64:=hr.units
 have big:100000<=sizeLine:=by unfold sizeLine;decide
 have q':=q H (Same.refl _)
 clear q
 have eqD:∀{Kx:VK},Kx (.bl true) H->rEqD K v1 v2 H Kx:=λ{Kx} k=>⟨d,d,r1.rp,r2.rp,sh,sh,by rw [PySem.SeqAt.eqv_refl d (sh_can sh)];exact k⟩
 have neD:∀{Kx:VK},Kx (.bl false) H->rNeD K v1 v2 H Kx:=λ{Kx} k=>⟨d,d,r1.rp,r2.rp,sh,sh,by rw [PySem.SeqAt.eqv_refl d (sh_can sh)];exact k⟩
 refine⟨_,(pss_cons (ps_if (pt_val (pe_cB (id:="isinstance") (r:=rIsiG K) call_isinstG rfl hisinstance (by decide +kernel) (pa_c (pv 1) (pa_c (pe_type (n:="bool") (T:="bool") rfl hbool (by decide +kernel)) pa_nil))))
 (pss_one (ps_ret (pe_and (pe_cB (id:="isinstance") (r:=rIsiG K) call_isinstG rfl hisinstance (by decide +kernel) (pa_c (pv 0) (pa_c (pe_type (n:="bool") (T:="bool") rfl hbool (by decide +kernel)) pa_nil))) (pe_one (pe_cmpR (op_eqD hu64) (pv 0) (pv 1) (nomark _))))))
 pss_nil)
 (pss_cons (ps_if (pt_val (pe_cB (id:="isinstance") (r:=rIsiG K) call_isinstG rfl hisinstance (by decide +kernel) (pa_c (pv 1) (pa_c (pe_type (n:="list") (T:="list") rfl hlist (by decide +kernel)) pa_nil))))
 (pss_one (ps_ret (pe_and (pe_cB (id:="isinstance") (r:=rIsiG K) call_isinstG rfl hisinstance (by decide +kernel) (pa_c (pv 0) (pa_c (pe_type (n:="list") (T:="list") rfl hlist (by decide +kernel)) pa_nil))) (pe_one (pe_cmpR (op_eqD hu64) (pv 0) (pv 1) (nomark _))))))
 pss_nil)
 (pss_cons (ps_if (PW.pt (pw_or (pt_not (pt_val (pe_cB (id:="isinstance") (r:=rIsiG K) call_isinstG rfl hisinstance (by decide +kernel) (pa_c (pv 0) (pa_c (pe_type (n:="tuple") (T:="tuple") rfl htuple (by decide +kernel)) pa_nil))))) (pw_or (pt_not (pt_val (pe_cB (id:="isinstance") (r:=rIsiG K) call_isinstG rfl hisinstance (by decide +kernel) (pa_c (pe_ix ix_g (pv 0) pe_int (λ_ _=>rfl)) (pa_c (pe_type (n:="list") (T:="list") rfl hlist (by decide +kernel)) pa_nil))))) (pw_or1 (pt_cmpR (op_neD hu64) (pv 0) (pv 1) (nomark _))))))
 (pss_one (ps_ret pe_bl))
 pss_nil)
 (pss_one (ps_ret (pe_cmpR op_eq (pe_cB (id:="isinstance") (r:=rIsiG K) call_isinstG rfl hisinstance (by decide +kernel) (pa_c (pe_ix ix_g (pv 0) pe_int (λ_ _=>rfl)) (pa_c (pe_type (n:="bool") (T:="bool") rfl hbool (by decide +kernel)) pa_nil))) (pe_cB (id:="isinstance") (r:=rIsiG K) call_isinstG rfl hisinstance (by decide +kernel) (pa_c (pe_ix ix_g (pv 1) pe_int (λ_ _=>rfl)) (pa_c (pe_type (n:="bool") (T:="bool") rfl hbool (by decide +kernel)) pa_nil))) (nomark _))))))),?_⟩
 cases kd with
 | bl b=>
  cases r1;cases r2
  walk_at "rz"
 | tb b l=>
  cases r1 with | tup h1 t1=>
  cases r2 with | tup h2 t2=>
  cases t1 with | cons x1 t1=>
  cases t2 with | cons x2 t2=>
  cases x1;cases x2
  cases t1 with | cons x1 t1=>
  cases t2 with | cons x2 t2=>
  cases t1;cases t2
  cases x1 with | lst l1 y1=>
  cases x2 with | lst l2 y2=>
  walk_at "rz"
 | ti b l=>
  cases r1 with | tup h1 t1=>
  cases r2 with | tup h2 t2=>
  cases t1 with | cons x1 t1=>
  cases t2 with | cons x2 t2=>
  cases x1;cases x2
  cases t1 with | cons x1 t1=>
  cases t2 with | cons x2 t2=>
  cases t1;cases t2
  cases x1 with | lst l1 y1=>
  cases x2 with | lst l2 y2=>
  walk_at "rz"
 | ls l=>
  cases r1 with | lst h1 t1=>
  cases r2 with | lst h2 t2=>
  walk_at "rz"
end
end K21
namespace K21
open PySem L2
def X3:Type:=Int×List (Int×Int)×List (Int×Int)
inductive T3 (H:Hp):List Addr->List V->List X3->Prop
 | nil:T3 H [] [] []
 | cons {p ph pq:Addr} {hv qv:List V} {x:X3} {C:List Addr} {vs:List V} {l:List X3}:H p=some (.tup [.int x.1,.ref ph,.ref pq])->H ph=some (.lst hv)->Prs H hv x.2.1->H pq=some (.lst qv)->Prs H qv x.2.2->T3 H C vs l->T3 H (ph::pq::C) (.ref p::vs) (x::l)
theorem T3.fr{H H':Hp}{cs:List Addr}(f:FrG cs H H')(kt:Kt H H'){C:List Addr}{vs:List V}{l:List X3}(t:T3 H C vs l)(n:∀c∈C,c∉cs):T3 H' C vs l:=by
 induction t with
 | nil=>exact .nil
 | cons h1 h2 h3 h4 h5 _ ih=>exact .cons (kt _ _ h1) (f _ _ (n _ List.mem_cons_self) h2) (h3.mono kt) (f _ _ (n _ (List.mem_cons_of_mem _ List.mem_cons_self)) h4) (h5.mono kt) (ih λc hc=>n c (List.mem_cons_of_mem _ (List.mem_cons_of_mem _ hc)))
theorem T3.same{H H':Hp}(g:Same H H'){C:List Addr}{vs:List V}{l:List X3}(t:T3 H C vs l):T3 H' C vs l:=by
 induction t with
 | nil=>exact .nil
 | cons h1 h2 h3 h4 h5 _ ih=>exact .cons (g _ _ h1) (g _ _ h2) (h3.mono (Kt.of g)) (g _ _ h4) (h5.mono (Kt.of g)) ih
theorem T3.has{H:Hp}{C:List Addr}{vs:List V}{l:List X3}(t:T3 H C vs l):∀c∈C,∃xs,H c=some (.lst xs):=by
 induction t with
 | nil=>exact λc hc=>absurd hc List.not_mem_nil
 | cons h1 h2 h3 h4 h5 _ ih=>
  intro c hc
  rcases List.mem_cons.mp hc with rfl | hc
  ·exact⟨_,h2⟩
  rcases List.mem_cons.mp hc with rfl | hc
  ·exact⟨_,h4⟩
  ·exact ih c hc
theorem T3.length{H:Hp}{C:List Addr}{vs:List V}{l:List X3}(t:T3 H C vs l):vs.length=l.length:=by
 induction t with
 | nil=>rfl
 | cons _ _ _ _ _ _ ih=>rw [List.length_cons,List.length_cons,ih]
theorem Prs.rp{K:PySem.W.Frag}{H:Hp}{vs:List V}{ps:List (Int×Int)}(t:Prs H vs ps):RpL K H vs (p2D ps):=t.rc.rp
def d3(l:List X3):List PyData:=l.map λx=>.tuple [.int x.1,.list (p2D x.2.1),.list (p2D x.2.2)]
theorem T3.rp{K:PySem.W.Frag}{H:Hp}{C:List Addr}{vs:List V}{l:List X3}(t:T3 H C vs l):RpL K H vs (d3 l):=by
 induction t with
 | nil=>exact .nil
 | cons h1 h2 h3 h4 h5 _ ih=>exact .cons (.tup h1 (.cons (.int _) (.cons (.lst h2 h3.rp) (.cons (.lst h4 h5.rp) .nil)))) ih
theorem can_d3(l:List X3):PyData.canLayAll0 (d3 l)=true:=by
 induction l with
 | nil=>rfl
 | cons x l ih=>
  have h1:=(can_p2 x.2.1).1
  have h2:=(can_p2 x.2.2).1
  unfold d3 at ih⊢
  simp only [List.map_cons,PyData.canLayAll0,PyData.canLay0,h1,h2,Bool.and_true,Bool.true_and]
  exact ih
theorem dep_d3(l:List X3):PyData.depthAll (d3 l)<=5:=by
 induction l with
 | nil=>simp [d3,PyData.depthAll]
 | cons x l ih=>
  have h1:=(can_p2 x.2.1).2
  have h2:=(can_p2 x.2.2).2
  unfold d3 at ih⊢
  simp only [List.map_cons,PyData.depthAll,PyData.depth] at ih⊢
  omega
def tlD(l m:List X3):PyData:=.list [.list (d3 l),.list (d3 m)]
theorem sh_tl(l m:List X3):SeqAt.shaped (tlD l m)=true:=by
 unfold SeqAt.shaped tlD
 have e:PyData.canLay0 (.list [.list (d3 l),.list (d3 m)])=true:=by
  simp only [PyData.canLay0,PyData.canLayAll0,can_d3 l,can_d3 m,Bool.and_true]
 have d1:=dep_d3 l
 have d2:=dep_d3 m
 rw [e,Bool.true_and,decide_eq_true_eq]
 simp only [PyData.depth,PyData.depthAll]
 omega
structure Tl2(H:Hp)(r a b:Addr)(C1 C2:List Addr)(vt vl:List V)(l m:List X3):Prop where
 hr:H r=some (.lst [.ref a,.ref b])
 ha:H a=some (.lst vt)
 ta:T3 H C1 vt l
 hb:H b=some (.lst vl)
 tb:T3 H C2 vl m
theorem Tl2.rp{K:PySem.W.Frag}{H:Hp}{r a b:Addr}{C1 C2:List Addr}{vt vl:List V}{l m:List X3}(t:Tl2 H r a b C1 C2 vt vl l m):Rp K H (.ref r) (tlD l m):=.lst t.hr (.cons (.lst t.ha t.ta.rp) (.cons (.lst t.hb t.tb.rp) .nil))
def tlR(r a b:Addr)(C1 C2:List Addr):List Addr:=r::a::b::(C1++C2)
theorem Tl2.same{H H':Hp}{r a b:Addr}{C1 C2:List Addr}{vt vl:List V}{l m:List X3}(g:Same H H')(t:Tl2 H r a b C1 C2 vt vl l m):Tl2 H' r a b C1 C2 vt vl l m:=⟨g _ _ t.hr,g _ _ t.ha,t.ta.same g,g _ _ t.hb,t.tb.same g⟩
inductive TX:List X3->List TS->Prop
 | nil:TX [] []
 | cons {x:X3} {t:TS} {l:List X3} {ts:List TS}:x.1=t.free->PmO x.2.1 t->x.2.2=t.que->TX l ts->TX (x::l) (t::ts)
def s3(s:SS):X3:=(s.level,s.gets,s.puts)
theorem TlL.t3{H0 H:Hp}{C:List Addr}{vs:List V}{ts:List TS}(tl:TlL H0 H C vs ts):∃l,T3 H C vs l/\TX l ts/\∀c∈C,H0 c=none:=by
 induction tl with
 | nil=>exact⟨[],.nil,.nil,λc hc=>absurd hc List.not_mem_nil⟩
 | @cons ph pq v t hd C vs ts h p _ ih=>
  obtain⟨l,t3,tx,n⟩:=ih
  obtain⟨pp,hs,qs,rfl,h1,h2,h3,h4,h5,h6,h7⟩:=h
  refine⟨((t.free,hd,t.que):X3)::l,.cons h1 h2 h3 h4 h5 t3,.cons rfl p rfl tx,λc hc=>?_⟩
  rcases List.mem_cons.mp hc with rfl | hc
  ·exact h6
  rcases List.mem_cons.mp hc with rfl | hc
  ·exact h7
  ·exact n c hc
theorem SlL.t3{H0 H:Hp}{C:List Addr}{vs:List V}{ts:List SS}(tl:SlL H0 H C vs ts):T3 H C vs (ts.map s3)/\∀c∈C,H0 c=none:=by
 induction tl with
 | nil=>exact⟨.nil,λc hc=>absurd hc List.not_mem_nil⟩
 | @cons ph pq v s C vs ts h _ ih=>
  obtain⟨t3,n⟩:=ih
  obtain⟨pp,hs,qs,rfl,h1,h2,h3,h4,h5,h6,h7⟩:=h
  refine⟨.cons (x:=s3 s) h1 h2 h3 h4 h5 t3,λc hc=>?_⟩
  rcases List.mem_cons.mp hc with rfl | hc
  ·exact h6
  rcases List.mem_cons.mp hc with rfl | hc
  ·exact h7
  ·exact n c hc
def rg(g dt ds:Addr)(AE AS:List Addr):List Addr:=g::dt::ds::(AE++AS)
structure Gd(CG CT CS:Addr)(H:Hp)(g dt ds:Addr)(AE AS:List Addr)(pr0:List (Str×Int))(pr1:List (Str×Int×Int))(es:List Ent)(ss:List EntS)(k:Nat):Prop where
 G:GoA CG CT CS H g dt ds es ss
 ok:GOk es ss k
 n0:es.map (λe=>(e.name,e.c))=pr0
 n1:ss.map (λe=>(e.name,e.s.most))=pr1.map (λp=>(p.1,p.2.2))
 aE:adE es=AE
 aS:adS ss=AS
theorem Gd.same{CG CT CS:Addr}{H H':Hp}{g dt ds:Addr}{AE AS:List Addr}{pr0:List (Str×Int)}{pr1:List (Str×Int×Int)}{es:List Ent}{ss:List EntS}{k:Nat}(s:Same H H')(X:Gd CG CT CS H g dt ds AE AS pr0 pr1 es ss k):Gd CG CT CS H' g dt ds AE AS pr0 pr1 es ss k:={X with G:=X.G.same s}
theorem Gd.fr{CG CT CS:Addr}{H H':Hp}{g dt ds:Addr}{AE AS:List Addr}{pr0:List (Str×Int)}{pr1:List (Str×Int×Int)}{es:List Ent}{ss:List EntS}{k:Nat}{cs:List Addr}(X:Gd CG CT CS H g dt ds AE AS pr0 pr1 es ss k)(f:FrG cs H H')(kt:Kt H H')(n:∀c∈rg g dt ds AE AS,c∉cs):Gd CG CT CS H' g dt ds AE AS pr0 pr1 es ss k:=by
 refine {X with G:=X.G.grow λc u hc hu=>?_}
 rw [X.aE,X.aS] at hc
 rcases hc with hc | ⟨xs,rfl⟩
 ·exact f c u (n c hc) hu
 ·exact kt c xs hu
theorem Gd.has{CG CT CS:Addr}{H:Hp}{g dt ds:Addr}{AE AS:List Addr}{pr0:List (Str×Int)}{pr1:List (Str×Int×Int)}{es:List Ent}{ss:List EntS}{k:Nat}(X:Gd CG CT CS H g dt ds AE AS pr0 pr1 es ss k):∀c∈rg g dt ds AE AS,∃u,H c=some u:=λc hc=>X.G.has c (by rw [X.aE,X.aS];exact hc)
theorem Gd.nd{CG CT CS:Addr}{H:Hp}{g dt ds:Addr}{AE AS:List Addr}{pr0:List (Str×Int)}{pr1:List (Str×Int×Int)}{es:List Ent}{ss:List EntS}{k:Nat}(X:Gd CG CT CS H g dt ds AE AS pr0 pr1 es ss k):∀e∈es,(e.t.held.map (·.1)).Nodup:=λe he=>by
 obtain⟨dx,qs,_,_,_,_,a,b,c⟩:=X.G.2.2.2.1 e he
 exact a
theorem Gd.kt{CG CT CS:Addr}{H H':Hp}{g dt ds:Addr}{AE AS:List Addr}{pr0:List (Str×Int)}{pr1:List (Str×Int×Int)}{es:List Ent}{ss:List EntS}{k:Nat}(X:Gd CG CT CS H g dt ds AE AS pr0 pr1 es ss k)(f:FrG (AE++AS) H H'):Kt H H':=λc xs hc=>f c _ (λz=>by
 rw [<-X.aE,<-X.aS] at z
 obtain⟨_,_,_,h4,h5,_⟩:=X.G
 rcases List.mem_append.mp z with z | z
 ·obtain⟨e,he,z⟩:=adE_mem z
  have:=(h4 e he).ne c xs hc
  rcases z with rfl | rfl | rfl
  ·exact this.1 rfl
  ·exact this.2.1 rfl
  ·exact this.2.2 rfl
 ·obtain⟨e,he,z⟩:=adS_mem z
  have:=(h5 e he).ne c xs hc
  rcases z with rfl | rfl | rfl
  ·exact this.1 rfl
  ·exact this.2.1 rfl
  ·exact this.2.2 rfl) hc
theorem Gd.le0{CG CT CS:Addr}{H:Hp}{g dt ds:Addr}{AE AS:List Addr}{pr0:List (Str×Int)}{pr1:List (Str×Int×Int)}{es:List Ent}{ss:List EntS}{k:Nat}(X:Gd CG CT CS H g dt ds AE AS pr0 pr1 es ss k)(b:Pr0 pr0):es.length<=6:=by have:=congrArg List.length X.n0;rw [List.length_map] at this;have:=b.1;omega
theorem Gd.le1{CG CT CS:Addr}{H:Hp}{g dt ds:Addr}{AE AS:List Addr}{pr0:List (Str×Int)}{pr1:List (Str×Int×Int)}{es:List Ent}{ss:List EntS}{k:Nat}(X:Gd CG CT CS H g dt ds AE AS pr0 pr1 es ss k)(b:Pr1 pr1):ss.length<=6:=by have:=congrArg List.length X.n1;rw [List.length_map,List.length_map] at this;have:=b.1;omega
theorem Gd.nm0{CG CT CS:Addr}{H:Hp}{g dt ds:Addr}{AE AS:List Addr}{pr0:List (Str×Int)}{pr1:List (Str×Int×Int)}{es:List Ent}{ss:List EntS}{k:Nat}(X:Gd CG CT CS H g dt ds AE AS pr0 pr1 es ss k):es.map (·.name)=pr0.map (·.1):=by rw [<-X.n0,List.map_map];rfl
theorem Gd.nm1{CG CT CS:Addr}{H:Hp}{g dt ds:Addr}{AE AS:List Addr}{pr0:List (Str×Int)}{pr1:List (Str×Int×Int)}{es:List Ent}{ss:List EntS}{k:Nat}(X:Gd CG CT CS H g dt ds AE AS pr0 pr1 es ss k):ss.map (·.name)=pr1.map (·.1):=by
 have:=congrArg (List.map (λx:Str×Int=>x.1)) X.n1
 rw [List.map_map,List.map_map] at this
 exact this
structure Bs(H:Hp)(dk s0 pp p0 p1:Addr)(ys0 ys1:List V)(pr0:List (Str×Int))(pr1:List (Str×Int×Int))(k:Int):Prop where
 D:Dk H dk s0 k
 P:Prg H pp p0 p1 ys0 ys1 pr0 pr1
 b0:Pr0 pr0
 b1:Pr1 pr1
 q0:p0∉[dk]
 q1:p1∉[dk]
def bsR(dk s0 p0 p1:Addr):List Addr:=[dk,s0,p0,p1]
theorem Bs.same{H H':Hp}{dk s0 pp p0 p1:Addr}{ys0 ys1:List V}{pr0:List (Str×Int)}{pr1:List (Str×Int×Int)}{k:Int}(s:Same H H')(B:Bs H dk s0 pp p0 p1 ys0 ys1 pr0 pr1 k):Bs H' dk s0 pp p0 p1 ys0 ys1 pr0 pr1 k:={B with D:=B.D.same s,P:=B.P.same s}
theorem Bs.fr{H H':Hp}{cs:List Addr}{dk s0 pp p0 p1:Addr}{ys0 ys1:List V}{pr0:List (Str×Int)}{pr1:List (Str×Int×Int)}{k:Int}(B:Bs H dk s0 pp p0 p1 ys0 ys1 pr0 pr1 k)(f:FrG cs H H')(kt:Kt H H')(n:∀c∈bsR dk s0 p0 p1,c∉cs):Bs H' dk s0 pp p0 p1 ys0 ys1 pr0 pr1 k:=by
 refine {B with D:=?_,P:=?_}
 ·obtain⟨ns,a,h1,h2,h3⟩:=B.D
  exact⟨ns,a,f _ _ (n _ (by simp [bsR])) h1,f _ _ (n _ (by simp [bsR])) h2,h3⟩
 ·obtain⟨⟨x2,x3,t⟩,a,b,c,d⟩:=B.P
  exact⟨⟨x2,x3,kt _ _ t⟩,f _ _ (n _ (by simp [bsR])) a,f _ _ (n _ (by simp [bsR])) b,c.keep kt,d.keep kt⟩
theorem Bs.has{H:Hp}{dk s0 pp p0 p1:Addr}{ys0 ys1:List V}{pr0:List (Str×Int)}{pr1:List (Str×Int×Int)}{k:Int}(B:Bs H dk s0 pp p0 p1 ys0 ys1 pr0 pr1 k):∀c∈bsR dk s0 p0 p1,∃u,H c=some u:=λc hc=>by
 obtain⟨ns,a,h1,h2,h3⟩:=B.D
 unfold bsR at hc
 simp only [List.mem_cons,List.not_mem_nil,or_false] at hc
 rcases hc with rfl | rfl | rfl | rfl
 ·exact⟨_,h1⟩
 ·exact⟨_,h2⟩
 ·exact⟨_,B.P.l0⟩
 ·exact⟨_,B.P.l1⟩
theorem Bs.mono{H:Hp}{dk s0 pp p0 p1:Addr}{ys0 ys1:List V}{pr0:List (Str×Int)}{pr1:List (Str×Int×Int)}{k k':Int}(B:Bs H dk s0 pp p0 p1 ys0 ys1 pr0 pr1 k)(h:k<=k'):Bs H dk s0 pp p0 p1 ys0 ys1 pr0 pr1 k':={B with D:=B.D.mono h}
theorem dj{H:Hp}{A B:List Addr}(h:∀c∈A,∃u,H c=some u)(n:∀c∈B,H c=none):(∀c∈A,c∉B)/\∀c∈B,c∉A:=by
 refine⟨λc hc z=>?_,λc hc z=>?_⟩
 ·obtain⟨u,hu⟩:=h c hc;rw [n c z] at hu;cases hu
 ·obtain⟨u,hu⟩:=h c z;rw [n c hc] at hu;cases hu
theorem can_tk(ps:List (Int×Int)):PyData.canLayAll0 (tkD ps)=true:=by
 have w:PyData.strOk "takes" =true:=by with_unfolding_all decide
 induction ps with
 | nil=>rfl
 | cons p ps ih=>
  unfold tkD at ih⊢
  simp only [List.map_cons,PyData.canLayAll0,PyData.canLay0,w,Bool.and_true,Bool.true_and]
  exact ih
theorem dep_tk(ps:List (Int×Int)):PyData.depthAll (tkD ps)<=2:=by
 induction ps with
 | nil=>simp [tkD,PyData.depthAll]
 | cons p ps ih=>
  unfold tkD at ih⊢
  simp only [List.map_cons,PyData.depthAll,PyData.depth] at ih⊢
  omega
theorem can_st(ps:List (Int×Bool×Int)):PyData.canLayAll0 (stD ps)=true:=by
 have w:∀b,PyData.strOk (wordOf b)=true:=λb=>by cases b<;>with_unfolding_all decide
 induction ps with
 | nil=>rfl
 | cons p ps ih=>
  unfold stD at ih⊢
  simp only [List.map_cons,PyData.canLayAll0,PyData.canLay0,w,Bool.and_true,Bool.true_and]
  exact ih
theorem dep_st(ps:List (Int×Bool×Int)):PyData.depthAll (stD ps)<=2:=by
 induction ps with
 | nil=>simp [stD,PyData.depthAll]
 | cons p ps ih=>
  unfold stD at ih⊢
  simp only [List.map_cons,PyData.depthAll,PyData.depth] at ih⊢
  omega
theorem can_lv{ls:List (Str×Int×List (Int×Int))}(h:∀x∈ls,PyData.strOk x.1=true):PyData.canLayAll0 (lvD ls)=true:=by
 induction ls with
 | nil=>rfl
 | cons p ps ih=>
  have ih:=ih λx hx=>h x (List.mem_cons_of_mem _ hx)
  have h0:=h p List.mem_cons_self
  have h1:=can_tk p.2.2
  unfold lvD at ih⊢
  simp only [List.map_cons,PyData.canLayAll0,PyData.canLay0,h0,h1,Bool.and_true,Bool.true_and]
  exact ih
theorem dep_lv(ls:List (Str×Int×List (Int×Int))):PyData.depthAll (lvD ls)<=5:=by
 induction ls with
 | nil=>simp [lvD,PyData.depthAll]
 | cons p ps ih=>
  have h1:=dep_tk p.2.2
  unfold lvD at ih⊢
  simp only [List.map_cons,PyData.depthAll,PyData.depth] at ih⊢
  omega
theorem Dd.sh{es es':List Ent}{ss ss':List EntS}{word nm:Str}{h n:Int}{d:PyData}(D:Dd es ss word nm h n es' ss' d)(hn:∀e∈es,PyData.strOk e.name=true):SeqAt.shaped d=true:=by
 have b2:∀{x:PyData} {l:List PyData},PyData.canLay0 x=true->PyData.depth x<=1->PyData.canLayAll0 l=true->PyData.depthAll l<=5->SeqAt.shaped (.tuple [x,.list l])=true:=λ{x l} h1 h2 h3 h4=>by
  unfold SeqAt.shaped
  have e:PyData.canLay0 (.tuple [x,.list l])=true:=by simp only [PyData.canLay0,PyData.canLayAll0,h1,h3,Bool.and_true]
  rw [e,Bool.true_and,decide_eq_true_eq]
  simp only [PyData.depth,PyData.depthAll]
  omega
 cases D with
 | take _ _ _=>rfl
 | give _ _ _=>exact b2 rfl (by simp [PyData.depth]) (can_tk _) (Nat.le_trans (dep_tk _) (by decide))
 | put _ _ _ _=>exact b2 rfl (by simp [PyData.depth]) (can_st _) (Nat.le_trans (dep_st _) (by decide))
 | get _ _ _ _=>exact b2 rfl (by simp [PyData.depth]) (can_st _) (Nat.le_trans (dep_st _) (by decide))
 | bring _ _ _ _=>exact b2 rfl (by simp [PyData.depth]) (can_st _) (Nat.le_trans (dep_st _) (by decide))
 | leave _=>
  have c:=can_lv (ls:=es.filterMap (lvI h)) λx hx=>by
   obtain⟨e,he,ee⟩:=List.mem_filterMap.mp hx
   unfold lvI at ee
   split at ee
   ·cases ee;exact hn e he
   ·cases ee
  have d:=dep_lv (es.filterMap (lvI h))
  unfold SeqAt.shaped
  have e:PyData.canLay0 (.list (lvD (es.filterMap (lvI h))))=true:=by simp only [PyData.canLay0,c]
  rw [e,Bool.true_and,decide_eq_true_eq]
  simp only [PyData.depth]
  omega
section
variable{K:PySem.W.Frag}
theorem go_ask{CG CT CS:Addr}{H:Hp}{g dt ds dp:Addr}{AE AS:List Addr}{pr0:List (Str×Int)}{pr1:List (Str×Int×Int)}{es:List Ent}{ss:List EntS}{i:Nat}{word nm:Str}{h n:Int}{Kx:VK}{E:XK}(X:Gd CG CT CS H g dt ds AE AS pr0 pr1 es ss i)(b0:Pr0 pr0)(hi:i<=110)(hd:H dp=some (.tup [.str word,.int h,.str nm,.int n]))(dd:Deed pr0 pr1 word h nm n)
 (q:∀H' v es' ss' d C,FrG (AE++AS) H H'->Kt H H'->Gd CG CT CS H' g dt ds AE AS pr0 pr1 es' ss' (i+1)->RpC H' v d C->C.Nodup->(∀c∈C,H c=none)->Dd es ss word nm h n es' ss' d->Kx v H'):spAsk CG CT CS [.ref g,.ref dp] H Kx E:=by
 have l0:=X.le0 b0
 refine⟨g,dt,ds,dp,es,ss,i,word,nm,h,n,rfl,X.G,X.ok,hi,by omega,hd,dd.1.1,dd.2.1,by rw [X.nm0,X.nm1];exact dd.2.2,λH' v es' ss' f G' af an=>?_⟩
 obtain⟨d,C,rp,nC,fC,D⟩:=an
 rw [X.aE,X.aS] at f
 exact q H' v es' ss' d C f (X.kt f) ⟨G',af.ok,af.nE.trans X.n0,af.nS.trans X.n1,af.aE.trans X.aE,af.aS.trans X.aS⟩ rp nC fC D
theorem go_drawn{H:Hp}{dk s0 pp p0 p1:Addr}{ys0 ys1:List V}{pr0:List (Str×Int)}{pr1:List (Str×Int×Int)}{k:Int}{Kx:VK}{E:XK}(B:Bs H dk s0 pp p0 p1 ys0 ys1 pr0 pr1 k)(hk:k<=10000)
 (q:∀H' dp word nm h n,FrG [dk] H H'->Kt H H'->Bs H' dk s0 pp p0 p1 ys0 ys1 pr0 pr1 (k+10)->H' dp=some (.tup [.str word,.int h,.str nm,.int n])->Deed pr0 pr1 word h nm n->Kx (.ref dp) H'):spDeed [.ref dk,.ref pp] H Kx E:=
 ⟨dk,s0,pp,p0,p1,k,ys0,ys1,pr0,pr1,rfl,B.D,hk,B.P,B.b0,B.b1,B.q0,B.q1,λH' dp word nm h n f D' hd dd=>q H' dp word nm h n f (B.D.kt f) {B with D:=D',P:=B.P.fr B.D f B.q0 B.q1} hd dd⟩
theorem go_tools{CG CT CS:Addr}{H:Hp}{g dt ds:Addr}{AE AS:List Addr}{pr0:List (Str×Int)}{pr1:List (Str×Int×Int)}{es:List Ent}{ss:List EntS}{i:Nat}{Kx:VK}{E:XK}(X:Gd CG CT CS H g dt ds AE AS pr0 pr1 es ss i)(b0:Pr0 pr0)
 (q:∀r H' vs C l,H r=none->Same H H'->H' r=some (.lst vs)->T3 (hide r H') C vs l->TX l (es.map (·.t))->C.Nodup->(∀c∈C,H c=none)->Kx (.ref r) H'):spTools CG CT [.ref g] H Kx E:=by
 have l0:=X.le0 b0
 obtain⟨⟨dx,h1⟩,h2,h3,h4,h5,_⟩:=X.G
 refine⟨g,dx,dt,_,es,rfl,h1,h2,h4,by omega,λr H' vs C hr s hv tl nC=>?_⟩
 obtain⟨l,t3,tx,n⟩:=tl.t3
 exact q r H' vs C l hr s hv t3 tx nC n
theorem go_stores{CG CT CS:Addr}{H:Hp}{g dt ds:Addr}{AE AS:List Addr}{pr0:List (Str×Int)}{pr1:List (Str×Int×Int)}{es:List Ent}{ss:List EntS}{i:Nat}{Kx:VK}{E:XK}(X:Gd CG CT CS H g dt ds AE AS pr0 pr1 es ss i)(b1:Pr1 pr1)
 (q:∀r H' vs C,H r=none->Same H H'->H' r=some (.lst vs)->T3 (hide r H') C vs ((ss.map (·.s)).map s3)->C.Nodup->(∀c∈C,H c=none)->Kx (.ref r) H'):spStores CG CS [.ref g] H Kx E:=by
 have l1:=X.le1 b1
 obtain⟨⟨dx,h1⟩,h2,h3,h4,h5,_⟩:=X.G
 refine⟨g,dx,ds,_,ss,rfl,h1,h3,h5,by omega,λr H' vs C hr s hv tl nC=>?_⟩
 obtain⟨t3,n⟩:=tl.t3
 exact q r H' vs C hr s hv t3 nC n
theorem tl2_of{H H1 H2 H3:Hp}{r a b:Addr}{C1 C2:List Addr}{vt vl:List V}{l m:List X3}(ha:H a=none)(s1:Same H H1)(va:H1 a=some (.lst vt))(t1:T3 (hide a H1) C1 vt l)(n1:∀c∈C1,H c=none)(hb:H1 b=none)(s2:Same H1 H2)(vb:H2 b=some (.lst vl))(t2:T3 (hide b H2) C2 vl m)(n2:∀c∈C2,H1 c=none)(hr:H2 r=none)(s3:Same H2 H3)(vr:H3 r=some (.lst [.ref a,.ref b])):
 Tl2 H3 r a b C1 C2 vt vl l m/\(∀c∈tlR r a b C1 C2,H c=none)/\a∉C1/\b∉C2/\∀c∈r::b::C2,c∉a::C1:=by
 have s23:=s2.trans s3
 refine⟨⟨vr,s23 _ _ va,t1.same (hide_le.trans s23),s3 _ _ vb,t2.same (hide_le.trans s3)⟩,λc hc=>?_,λz=>?_,λz=>?_,λc hc z=>?_⟩
 ·unfold tlR at hc
  rcases List.mem_cons.mp hc with rfl | hc
  ·exact s1.free (s2.free hr)
  rcases List.mem_cons.mp hc with rfl | hc
  ·exact ha
  rcases List.mem_cons.mp hc with rfl | hc
  ·exact s1.free hb
  rcases List.mem_append.mp hc with hc | hc
  ·exact n1 c hc
  ·exact s1.free (n2 c hc)
 ·obtain⟨xs,h⟩:=t1.has a z
  exact(hide_inv h).1 rfl
 ·obtain⟨xs,h⟩:=t2.has b z
  exact(hide_inv h).1 rfl
 ·have h1:H1 c=none:=by
   rcases List.mem_cons.mp hc with rfl | hc
   ·exact s2.free hr
   rcases List.mem_cons.mp hc with rfl | hc
   ·exact hb
   ·exact n2 c hc
  rcases List.mem_cons.mp z with rfl | z
  ·rw [va] at h1;cases h1
  ·obtain⟨xs,h⟩:=t1.has c z
   rw [(hide_inv h).2] at h1;cases h1
end
end K21
namespace K21
open PySem L2
theorem All2.get{α β:Type}{R:α->β->Prop}{l:List α}{m:List β}(h:All2 R l m):∀{i:Nat} {a:α},l[i]? =some a->∃b,m[i]? =some b/\b∈m/\R a b:=by
 induction h with
 | nil=>intro i a e;simp at e
 | cons r _ ih=>
  intro i a e
  cases i with
  | zero=>simp at e;subst e;exact⟨_,rfl,List.mem_cons_self,r⟩
  | succ i=>
   obtain⟨b,h1,h2,h3⟩:=ih (i:=i) (by simpa using e)
   exact⟨b,by simpa using h1,List.mem_cons_of_mem _ h2,h3⟩
def RL(e:Ent)(x:X3):Prop:=x.1=e.t.free/\(∀hd,PmO hd e.t->hd=x.2.1)/\x.2.2=e.t.que/\x.2.1.length<=200/\x.2.2.length<=200
theorem rl_tx{es:List Ent}{rows:List X3}(r:All2 RL es rows):∀{l:List X3},TX l (es.map (·.t))->l=rows:=by
 induction r with
 | nil=>intro l h;cases h;rfl
 | @cons e x es rows r _ ih=>
  intro l h
  rw [List.map_cons] at h
  cases h with
  | @cons y _ l _ a b c k=>
   have e1:y=x:=by
    obtain⟨y1,y2,y3⟩:=y
    obtain⟨x1,x2,x3⟩:=x
    obtain⟨r1,r2,r3,_⟩:=r
    simp only at a b c r1 r2 r3
    rw [a,r1,r2 _ b,c,r3]
   rw [e1,ih k]
theorem T3.snoc{H:Hp}{p ph pq:Addr}{hv qv:List V}{x:X3}(h1:H p=some (.tup [.int x.1,.ref ph,.ref pq]))(h2:H ph=some (.lst hv))(h3:Prs H hv x.2.1)(h4:H pq=some (.lst qv))(h5:Prs H qv x.2.2){C:List Addr}{vs:List V}{l:List X3}(t:T3 H C vs l):T3 H (C++[ph,pq]) (vs++[.ref p]) (l++[x]):=by
 induction t with
 | nil=>exact .cons h1 h2 h3 h4 h5 .nil
 | cons a b c d e _ ih=>exact .cons a b c d e ih
def mk3(a:Int)(b c:List (Int×Int)):X3:=(a,b,c)
def HaP(hv:List (Int×Int))(i:Nat)(ys:List V)(σ1:St)(_H':Hp):Prop:=ys=((hv.take i).map (·.1)).map V.int/\∃v0 v1,σ1= [v0,v1]
def HbP(hd:Addr)(nm:Str)(hv:List (Int×Int))(ms:List Int)(i:Nat)(ys:List V)(σ1:St)(H':Hp):Prop:=Prs H' ys ((ms.take i).map λh=>(h,sumH hv h))/\∃v0,σ1= [v0,some (.ref hd),some (.str nm)]
def SeI(g hd pp tl:Addr)(es:List Ent)(H:Hp)(i:Nat)(σ:St)(H1:Hp):Prop:=∃(vs:List V) (C:List Addr) (rows:List X3) (v4 v5 v6 v7:Option V),σ= [some (.ref g),some (.ref hd),some (.ref pp),some (.ref tl),v4,v5,v6,v7,none,none,none,none,none]/\Same H H1/\H1 tl=some (.lst vs)/\T3 H1 C vs rows/\All2 RL (es.take i) rows/\tl∉C
def Lsx(C:List Addr)(N:Nat)(H:Hp):Prop:=∀c∈C,∃xs,H c=some (.lst xs)/\xs.length<=N
theorem T3.ls{H:Hp}{C:List Addr}{vs:List V}{l:List X3}(t:T3 H C vs l)(n:∀x∈l,x.2.1.length<=200/\x.2.2.length<=200):Lsx C 200 H:=by
 induction t with
 | nil=>exact λc hc=>absurd hc List.not_mem_nil
 | @cons p ph pq hv qv x C vs l h1 h2 h3 h4 h5 _ ih=>
  intro c hc
  have nx:=n x List.mem_cons_self
  rcases List.mem_cons.mp hc with rfl | hc
  ·exact⟨_,h2,by rw [h3.length];exact nx.1⟩
  rcases List.mem_cons.mp hc with rfl | hc
  ·exact⟨_,h4,by rw [h5.length];exact nx.2⟩
  ·exact ih (λx hx=>n x (List.mem_cons_of_mem _ hx)) c hc
theorem rl_len{es:List Ent}{rows:List X3}(r:All2 RL es rows):∀x∈rows,x.2.1.length<=200/\x.2.2.length<=200:=by
 induction r with
 | nil=>exact λx hx=>absurd hx List.not_mem_nil
 | cons r _ ih=>
  intro x hx
  rcases List.mem_cons.mp hx with rfl | hx
  ·exact r.2.2.2
  ·exact ih x hx
theorem T3.row{H:Hp}{C:List Addr}{vs:List V}{l:List X3}(t:T3 H C vs l):∀{i:Nat} {v:V},vs[i]? =some v->∃p x ph pq,v= .ref p/\H p=some (.tup [.int x,.ref ph,.ref pq])/\ph∈C/\pq∈C:=by
 induction t with
 | nil=>intro i v e;simp at e
 | @cons p ph pq hv qv x C vs l h1 h2 h3 h4 h5 _ ih=>
  intro i v e
  cases i with
  | zero=>simp at e;exact⟨p,x.1,ph,pq,e.symm,h1,by simp,by simp⟩
  | succ i=>
   obtain⟨p',x',a,b,e1,e2,e3,e4⟩:=ih (i:=i) (by simpa using e)
   exact⟨p',x',a,b,e1,e2,by simp [e3],by simp [e4]⟩
structure Ms(W C:List Addr)(H7:Hp)(N:Nat)(H:Hp):Prop where
 fr:FrG W H7 H
 ls:Lsx C N H
theorem Ms.same{W C:List Addr}{H7 H H':Hp}{N:Nat}(g:Same H H')(m:Ms W C H7 N H):Ms W C H7 N H':=⟨m.fr.same g,λc hc=>by
 obtain⟨xs,a,b⟩:=m.ls c hc
 exact⟨xs,g _ _ a,b⟩⟩
theorem Ms.mu{W C:List Addr}{H7 H H':Hp}{N:Nat}{d:Addr}{xs:List V}{v:V}(m:Ms W C H7 N H)(mu:Mu H d (.lst (xs++[v])) H')(hd:d∈W)(hx:H d=some (.lst xs)):Ms W C H7 (N+1) H':=⟨λc u nc hc=>mu.old (m.fr c u nc hc) (λz=>nc (by rw [z];exact hd)),λc hc=>by
 obtain⟨ys,a,b⟩:=m.ls c hc
 by_cases z:c=d
 ·subst z
  rw [hx] at a
  cases a
  exact⟨_,mu.at_,by rw [List.length_append,List.length_singleton];omega⟩
 ·exact⟨ys,mu.old a z,by omega⟩⟩
def M1(g hd pp tl D3 r6 ta tb:Addr)(vt vl:List V)(W C:List Addr)(H7:Hp)(v4 v5 v6 v7:Option V)(i:Nat)(σ:St)(H:Hp):Prop:=∃v10 v11 v12,σ= [some (.ref g),some (.ref hd),some (.ref pp),some (.ref tl),v4,v5,v6,v7,some (.ref D3),some (.ref r6),v10,v11,v12]/\Ms W C H7 (200+50*i) H/\(i=0->H ta=some (.lst vt))/\(i<=1->H tb=some (.lst vl))
def M2(g hd pp tl D3 r6 x tb:Addr)(vx vl:List V)(i0:Nat)(W C:List Addr)(H7:Hp)(v4 v5 v6 v7:Option V)(i:Nat)(σ:St)(H:Hp):Prop:=∃v11 v12,σ= [some (.ref g),some (.ref hd),some (.ref pp),some (.ref tl),v4,v5,v6,v7,some (.ref D3),some (.ref r6),some (.ref x),v11,v12]/\Ms W C H7 (200+50*i0+2*i) H/\H x=some (.lst vx)/\(i0=0->H tb=some (.lst vl))
def M3(g hd pp tl D3 r6 x tb p z:Addr)(zs vx vl:List V)(i0 i1:Nat)(W C:List Addr)(H7:Hp)(v4 v5 v6 v7:Option V)(i:Nat)(σ:St)(H:Hp):Prop:=∃v12,σ= [some (.ref g),some (.ref hd),some (.ref pp),some (.ref tl),v4,v5,v6,v7,some (.ref D3),some (.ref r6),some (.ref x),some (.ref p),v12]/\Ms W C H7 (200+50*i0+2*i1+i) H/\H x=some (.lst vx)/\(i0=0->H tb=some (.lst vl))/\H z=some (.tup zs)
def SfP(hd:Addr)(ss:List EntS)(D:Addr)(i:Nat)(ys:List V)(σ1:St)(H':Hp):Prop:=∃C v0 v1 v2,T3 (hide D H') C ys (((ss.map (·.s)).map s3).take i)/\σ1= [v0,v1,v2,some (.ref hd)]
section
variable{P:Program}{w:World}{K:PySem.W.Frag}{mg:Str->Option Value}{base:Heap}
def spSeen(CG CT CS:Addr):Sp:=λvs H Q _=>∃(g dt ds hd pp p0 p1:Addr) (AE AS:List Addr) (ys0 ys1:List V) (pr0:List (Str×Int)) (pr1:List (Str×Int×Int)) (es:List Ent) (ss:List EntS) (ls:List LT) (ms:List LS) (k i:Nat),vs= [.ref g,.ref hd,.ref pp]/\Gd CG CT CS H g dt ds AE AS pr0 pr1 es ss i/\Hld H hd k es ss ls ms/\k<=100/\Prg H pp p0 p1 ys0 ys1 pr0 pr1/\Pr0 pr0/\Pr1 pr1/\∀H',Same H H'->Q (.bl true) H'
theorem ok_seen{CG CT CS:Addr}(D:DefAt K mg "_law_seen" s__law_seen ["goods","held","program"])(G__law_had:OkD P w K mg base 1 "_law_had" ["tool","hand"] spHad)(G_Goods_tools:OkM P w K mg base 2 CG "tools" ["self"] (spTools CG CT))(G_Goods_stores:OkM P w K mg base 2 CG "stores" ["self"] (spStores CG CS))(hsorted:mg "sorted" =none)(hset:mg "set" =none)(hisinstance:mg "isinstance" =none)(hlist:mg "list" =none):OkD P w K mg base 3 "_law_seen" ["goods","held","program"] (spSeen CG CT CS):=by
 refine D.ok sc__law_seen (λvs H Q E h=>?_) (λf cdv A outer s H vs Q E hr h=>?_)
 ·obtain⟨_,_,_,_,_,_,_,_,_,_,_,_,_,_,_,_,_,_,_,rfl,_⟩:=h;rfl
 obtain⟨g,dt,ds,hd,pp,p0,p1,AE,AS,ys0,ys1,pr0,pr1,es,ss,ls,ms,k,ik,rfl,G,X,hk,pg,b0,b1,q⟩:=h
 have hu:=hu_of hr
 have hu64:=hr.units
 have big:100000<=sizeLine:=by unfold sizeLine;decide
 have q':=PLift.up q
 clear q
 obtain⟨x2,x3,pt⟩:=pg.tu
 have hl0:=pg.l0
 have pn:=pg.n0
 have ly:=pn.length
 have pm:=pg.n1
 have lm:=pm.length
 have lb0:=b0.1
 have lb1:=b1.1
 have enm:=G.nm0
 have le0:es.length=pr0.length:=by have:=congrArg List.length enm;rw [List.length_map,List.length_map] at this;exact this
 refine⟨_,(pss_cons (ps_set (i:=3) sc__law_seen.nd rfl (Or.inl rfl) (pe_lstG pa_nil))
 (pss_cons (ps_for PassesOwn.never rfl (pi_list (pe_ix ix_g (pv 2) pe_int (λ_ _=>rfl))) (pg_tupG 2 rfl (pgs_cons (pg_name (i:=4) sc__law_seen.nd rfl (Or.inr rfl)) (pgs_cons (pg_name (i:=5) sc__law_seen.nd rfl (Or.inl rfl)) pgs_nil)))
 (pss_cons (ps_set (i:=6) sc__law_seen.nd rfl (Or.inl rfl) (pe_sortSet rfl rfl hsorted rfl hset (pa_c (pe_compN (comp_scopeN 2 (N:=["hand","n"]) (cap:=[]) rfl rfl rfl rfl (by decide +kernel) rfl rfl rfl) rfl (pi_list (pe_ix ix_g (pe_dgetG hu (pv 1) (pv 4) (λ_ _=>rfl)) pe_int (λ_ _=>rfl))) (λ_ _ _ _=>(pg_tupG 2 rfl (pgs_cons (pg_name (i:=0) (show List.Nodup (α:=Str) ["hand","n"] by decide +kernel) rfl (Or.inl (lookup_relabel_local rfl)) (Or.inr (lookup_relabel_local rfl))) (pgs_cons (pg_name (i:=1) (show List.Nodup (α:=Str) ["hand","n"] by decide +kernel) rfl (Or.inl (lookup_relabel_local rfl)) (Or.inr (lookup_relabel_local rfl))) pgs_nil)))) (λ_ _ _ _=>pts_nil) (λ_ _ _ _=>(pv 0))) pa_nil)))
 (pss_cons (ps_setCN (i:=7) sc__law_seen.nd rfl (Or.inl rfl) (comp_scopeN 1 (N:=["hand","held","name"]) (cap:=[1,4]) rfl rfl rfl rfl (by decide +kernel) rfl rfl rfl) rfl (pi_list (pv 6)) (λ_ _ _ _=>(pg_name (i:=0) (show List.Nodup (α:=Str) ["hand","held","name"] by decide +kernel) rfl (Or.inl (lookup_relabel_local rfl)) (Or.inr (lookup_relabel_local rfl)))) (λ_ _ _ _=>pts_nil) (λ_ _ _ _=>(pe_tupG (pa_c (pv 0) (pa_c (pe_def G__law_had hr rfl (pa_c (pe_dgetG hu (pv 1) (pv 2) (λ_ _=>rfl)) (pa_c (pv 0) pa_nil))) pa_nil)))))
 (pss_one (ps_expr (pe_appG (pv 3) (pe_tupG (pa_c (pe_ix ix_g (pe_dgetG hu (pv 1) (pv 4) (λ_ _=>rfl)) pe_int (λ_ _=>rfl)) (pa_c (pv 7) (pa_c (pe_ix ix_g (pe_dgetG hu (pv 1) (pv 4) (λ_ _=>rfl)) pe_int (λ_ _=>rfl)) pa_nil))))))))))
 (pss_cons (ps_setCN (i:=8) sc__law_seen.nd rfl (Or.inl rfl) (comp_scopeN 3 (N:=["name","first","most","held"]) (cap:=[1]) rfl rfl rfl rfl (by decide +kernel) rfl rfl rfl) rfl (pi_list (pe_ix ix_g (pv 2) pe_int (λ_ _=>rfl))) (λ_ _ _ _=>(pg_tupG 3 rfl (pgs_cons (pg_name (i:=0) (show List.Nodup (α:=Str) ["name","first","most","held"] by decide +kernel) rfl (Or.inl (lookup_relabel_local rfl)) (Or.inr (lookup_relabel_local rfl))) (pgs_cons (pg_name (i:=1) (show List.Nodup (α:=Str) ["name","first","most","held"] by decide +kernel) rfl (Or.inl (lookup_relabel_local rfl)) (Or.inr (lookup_relabel_local rfl))) (pgs_cons (pg_name (i:=2) (show List.Nodup (α:=Str) ["name","first","most","held"] by decide +kernel) rfl (Or.inl (lookup_relabel_local rfl)) (Or.inr (lookup_relabel_local rfl))) pgs_nil))))) (λ_ _ _ _=>pts_nil) (λ_ _ _ _=>(pe_tupG (pa_c (pe_ix ix_g (pe_dgetG hu (pv 3) (pv 0) (λ_ _=>rfl)) pe_int (λ_ _=>rfl)) (pa_c (pe_ix ix_g (pe_dgetG hu (pv 3) (pv 0) (λ_ _=>rfl)) pe_int (λ_ _=>rfl)) (pa_c (pe_ix ix_g (pe_dgetG hu (pv 3) (pv 0) (λ_ _=>rfl)) pe_int (λ_ _=>rfl)) pa_nil))))))
 (pss_cons (ps_set (i:=9) sc__law_seen.nd rfl (Or.inl rfl) (pe_lstG (pa_c (pe_meth0G G_Goods_tools hr (pv 0)) (pa_c (pe_meth0G G_Goods_stores hr (pv 0)) pa_nil))))
 (pss_cons (ps_if (pt_cmpR (op_neD hu64) (pv 9) (pe_lstG (pa_c (pv 3) (pa_c (pv 8) pa_nil))) (nomark _))
 (pss_one (ps_ret pe_bl))
 pss_nil)
 (pss_cons (ps_for PassesOwn.never rfl (pi_list (pv 9)) (pg_name (i:=10) sc__law_seen.nd rfl (Or.inl rfl))
 (pss_cons (ps_for PassesOwn.never rfl (pi_list (pv 10)) (pg_name (i:=11) sc__law_seen.nd rfl (Or.inl rfl))
 (pss_one (ps_for PassesOwn.never rfl (pi_tup (pe_slice sl_g (pv 11) (po_some pe_int) po_none)) (pg_name (i:=12) sc__law_seen.nd rfl (Or.inl rfl))
 (pss_cons (ps_if (pt_not (pt_val (pe_cB (id:="isinstance") (r:=rIsiG K) call_isinstG rfl hisinstance (by decide +kernel) (pa_c (pv 12) (pa_c (pe_type (n:="list") (T:="list") rfl hlist (by decide +kernel)) pa_nil)))))
 (pss_one (ps_ret pe_bl))
 pss_nil)
 (pss_one (ps_expr (pe_appG (pv 12) (pe_tupG (pa_c pe_int (pa_c pe_int pa_nil))))))))))
 (pss_one (ps_expr (pe_appG (pv 10) pe_int)))))
 (pss_one (ps_ret (pe_cmpR (op_eqD hu64) (pe_lstG (pa_c (pe_meth0G G_Goods_tools hr (pv 0)) (pa_c (pe_meth0G G_Goods_stores hr (pv 0)) pa_nil))) (pe_lstG (pa_c (pv 3) (pa_c (pv 8) pa_nil))) (nomark _)))))))))),?_⟩
 walk_at "rz"
 intro tl H1 htl g1 h1
 have pt1:=g1 _ _ pt
 have hl1:=g1 _ _ hl0
 clear pt hl0
 walk_at "rz"
 refine tfor_in ?_
 simp only [iList]
 walk_at "rz"
 refine⟨⟨_,SqL.of hl1⟩,?_⟩
 refine for_list (xs:=ys0) (SeI g hd pp tl es H) ?_ ?_ ?_ ?_
 ·exact⟨[],[],[],_,_,_,_,rfl,g1,h1,.nil,.nil,List.not_mem_nil⟩
 ·rintro i σ H2 hi ⟨vs,C,rows,v4,v5,v6,v7,rfl,g2,_⟩
  exact SqL.of (g2 _ _ pg.l0)
 ·rintro i x σ H2 hx ⟨vs,C,rows,v4,v5,v6,v7,rfl,g2,h2,t2,r2,nt⟩
  obtain⟨p,nm,cn,rfl,ep,hp⟩:=pn.get hx
  have hi:i<es.length:=by have:=(List.getElem?_eq_some_iff.mp ep).1;omega
  obtain⟨e,he,en⟩:∃e,es[i]? =some e/\e.name=nm:=by
   have z:(es.map (·.name))[i]? =(pr0.map (·.1))[i]?:=by rw [enm]
   rw [List.getElem?_map,List.getElem?_map,ep,List.getElem?_eq_getElem hi] at z
   exact⟨es[i],List.getElem?_eq_getElem hi,by injection z⟩
  subst en
  obtain⟨l,_,ml,ce⟩:=X.t.get he
  have ndh:=G.nd e (List.mem_of_getElem? he)
  have hv:=val_kvA X.nn (show(l.name,l.a)∈_ from List.mem_append_left _ (List.mem_map.mpr ⟨l,ml,rfl⟩))
  rw [<-ce.nm] at hv
  have hp2:=g2 _ _ hp
  have X2:=g2 _ _ X.d
  have A2:=g2 _ _ ce.ht.A
  obtain⟨vb,hb,pb⟩:=ce.ht.B
  have hb2:=g2 _ _ hb
  have pb2:=pb.mono λ_ _ hc=>g2 _ _ hc
  have lb:=pb2.length
  have cle:=ce.le
  have he':=PLift.up he
  clear ep hx hl1 pt1 h1 hp he hb pb
  walk_at "rz"
  refine tcomp_in ?_
  simp only [iList]
  walk_at "rz"
  refine⟨⟨_,SqL.of hb2⟩,compJ_list hb2 (by omega) (HaP l.hv) (λH' _=>⟨rfl,_,_,rfl⟩) ?_ ?_⟩
  ·rintro D' i' v ys σ1 H3 hx at1 ⟨rfl,v0,v1,rfl⟩
   obtain⟨p',k',x',rfl,ek,hp'⟩:=pb2.get hx
   have hp3:=at1.same _ _ hp'
   have kT:Put vb H2 D' (HaP l.hv) i' [some (.int k'),some (.int x')] (.int k') H3:=at1.put (Same.refl _) λH5 mu=>⟨by rw [take_snoc ek,List.map_append,List.map_append];rfl,_,_,rfl⟩
   have at1':=PLift.up at1
   clear hx ek at1 hb2
   walk_at "rz"
   try exact kT
  ·rintro D' ys σ1 H3 hD g3 hy hle ⟨rfl,v0,v1,rfl⟩
   rw [List.take_of_length_le (by omega)] at hy
   refine⟨D',rfl,l.hv.map (·.1),trivial,hy,by rw [List.length_map];omega,λk' hk'=>?_,λD2 H4 zs hD2 g4 h4 nz mz pz=>?_⟩
   ·obtain⟨p',hp',rfl⟩:=List.mem_map.mp hk'
    exact ce.ta.hh p' hp'
   have g24:=g3.trans g4
   have X4:=g24 _ _ X2
   have A4:=g24 _ _ A2
   have h24:=g24 _ _ h2
   have lz:zs.length<=7:=by
    have:zs.length<=hs7.length:=nd_le nz λx hx=>by
     obtain⟨p',hp',rfl⟩:=List.mem_map.mp ((mz x).mp hx)
     exact ce.ta.hh p' hp'
    exact this
   have heq:∀hd',PmO hd' e.t->hd'=zs.map λh=>(h,sumH l.hv h):=λhd' pm'=>having_eq ce.ta ndh pm' nz mz pz
   have heq':=PLift.up heq
   have t4:=t2.same g24
   have h24':=PLift.up h2
   have mz':=PLift.up mz
   clear X2 A2 hb2 h2 hy heq mz pz
   simp only [List.set_cons_zero,List.set_cons_succ]
   walk_at "rz"
   refine tcomp_in ?_
   simp only [iList]
   walk_at "rz"
   refine⟨⟨_,SqL.of h4⟩,compJ_list h4 (by rw [List.length_map];omega) (HbP hd e.name l.hv zs) (λH' _=>⟨.nil,_,rfl⟩) ?_ ?_⟩
   ·rintro D5 i5 v ys σ1 H5 hx at1 ⟨pr,v0,rfl⟩
    obtain⟨z,ez,rfl⟩:∃z,zs[i5]? =some z/\V.int z=v:=by
     rw [List.getElem?_map] at hx
     cases y:zs[i5]? with
     | none=>rw [y] at hx;cases hx
     | some z=>rw [y] at hx;cases hx;exact⟨z,rfl,rfl⟩
    have X5:=at1.same _ _ X4
    have lD:=at1.lst
    have at1':=PLift.up at1
    have ht5:=ce.ht.same ((g2.trans g24).trans at1.same)
    clear hx at1 X4 A4 h4
    walk_at "rz"
    refine⟨l.a,l.b,l.q,e.t.free,l.hv,e.t.que,z,rfl,ht5,by omega,λH6 g6=>?_⟩
    walk_at "rz"
    intro t7 H7 ht7 g7 h7
    refine at1'.down.put (g6.trans g7) λH8 mu=>⟨?_,_,rfl⟩
    have lD7:=g7 _ _ (g6 _ _ lD)
    rw [take_snoc ez,List.map_append]
    exact(pr.mono λc xs hc=>mu.old (g7 _ _ (g6 _ _ hc)) (λy=>by rw [y,lD] at hc;cases hc)).snoc (mu.old h7 (λy=>by rw [y,lD7] at h7;cases h7))
   ·rintro D5 ys σ1 H5 hD5 g5 hy5 hle5 ⟨pr,v0,rfl⟩
    rw [List.length_map,List.take_of_length_le (Nat.le_refl _)] at pr
    have X5:=g5 _ _ X4
    have A5:=g5 _ _ A4
    have h25:=g5 _ _ h24
    have t5:=t4.same g5
    clear X4 A4 h4 h24
    walk_at "rz"
    intro p6 H6 hp6 g6 h6
    have lv:=t2.length
    have lr:=r2.length
    rw [List.length_take] at lr
    refine⟨vs,g6 _ _ h25,by omega,λH7 m7=>?_⟩
    have h26:=g6 _ _ h25
    have f7:FrG [tl] H6 H7:=λc u nc hc=>m7.old hc (λz=>nc (by rw [z];simp))
    have k7:Kt H6 H7:=λc xs hc=>m7.old hc (λz=>by rw [z,h26] at hc;cases hc)
    have nD:D5≠tl:=(ne_of_none (g24 _ _ h24'.down) hD5).symm
    obtain⟨vq,hq,pq⟩:=ce.ht.Q
    have nq:l.q≠tl:=ne_of_none hq htl
    have g06:Same H H6:=((g2.trans g24).trans g5).trans g6
    have np6:p6≠tl:=(ne_of_none h25 hp6).symm
    refine⟨vs++[.ref p6],C++[D5,l.q],rows++[mk3 e.t.free (zs.map λh=>(h,sumH l.hv h)) e.t.que],_,_,_,_,rfl,λc u hc=>m7.old (g06 _ _ hc) (ne_of_none hc htl),m7.at_,?_,?_,λz=>?_⟩
    ·exact T3.snoc (x:=mk3 e.t.free (zs.map λh=>(h,sumH l.hv h)) e.t.que) (m7.old h6 np6) (m7.old (g6 _ _ hy5) nD) ((pr.mono (Kt.of g6)).mono k7) (m7.old (g06 _ _ hq) nq) ((pq.mono (Kt.of g06)).mono k7) ((t5.same g6).fr f7 k7 λc hc z=>nt (by rw [<-List.mem_singleton.mp z];exact hc))
    ·rw [take_snoc he'.down]
     exact r2.snoc ⟨rfl,heq'.down,rfl,by show(zs.map _).length<=200;rw [List.length_map];omega,by show e.t.que.length<=200;omega⟩
    ·rcases List.mem_append.mp z with z | z
     ·exact nt z
     ·simp only [List.mem_cons,List.not_mem_nil,or_false] at z
      rcases z with z | z
      ·exact nD z.symm
      ·exact nq z.symm
 ·rintro σ H2 ⟨vs,C,rows,v4,v5,v6,v7,rfl,g2,h2,t2,r2,nt⟩
  rw [List.take_of_length_le (by omega)] at r2
  obtain⟨x2,x3,pt⟩:=pg.tu
  have pt2:=g2 _ _ pt
  have hl2:=g2 _ _ pg.l1
  have X2:=g2 _ _ X.d
  have les:ss.length=pr1.length:=by have:=congrArg List.length G.nm1;rw [List.length_map,List.length_map] at this;exact this
  have enm1:=G.nm1
  clear pt pt1 hl1 h1
  walk_at "rz"
  refine tcomp_in ?_
  simp only [iList]
  walk_at "rz"
  refine⟨⟨_,SqL.of hl2⟩,compJD_list hl2 (by omega) (SfP hd ss) (λD' H' _ _ _=>⟨[],_,_,_,.nil,rfl⟩) ?_ ?_⟩
  ·rintro D3 i x ys σ1 H3 hx at1 ⟨C3,v0,v1,v2',t3,rfl⟩
   obtain⟨p,nm,c1,c2,rfl,ep,hp⟩:=pm.get hx
   have hi:i<ss.length:=by have:=(List.getElem?_eq_some_iff.mp ep).1;omega
   obtain⟨e,he,en⟩:∃e,ss[i]? =some e/\e.name=nm:=by
    have z:(ss.map (·.name))[i]? =(pr1.map (·.1))[i]?:=by rw [enm1]
    rw [List.getElem?_map,List.getElem?_map,ep,List.getElem?_eq_getElem hi] at z
    exact⟨ss[i],List.getElem?_eq_getElem hi,by injection z⟩
   subst en
   obtain⟨l,_,ml,ce⟩:=X.s.get he
   have hv:=val_kvA X.nn (show(l.name,l.a)∈_ from List.mem_append_right _ (List.mem_map.mpr ⟨l,ml,rfl⟩))
   rw [<-ce.nm] at hv
   have g03:=g2.trans at1.same
   have hp3:=g03 _ _ hp
   have X3:=at1.same _ _ X2
   have A3:=g03 _ _ ce.hs.A
   have lD:=at1.lst
   have nD:=at1.new
   have at1':=PLift.up at1
   have ek:((ss.map (·.s)).map s3)[i]? =some (s3 e.s):=by rw [List.getElem?_map,List.getElem?_map,he];rfl
   have ek':=PLift.up ek
   clear hx ep at1 X2 pt2 hl2 he hp ek
   walk_at "rz"
   intro p4 H4 hp4 g4 h4
   have nD4:p4≠D3:=(ne_of_none lD hp4).symm
   obtain⟨vb,hb,pb⟩:=ce.hs.B
   obtain⟨vc,hc,pc⟩:=ce.hs.C
   refine at1'.down.put g4 λH5 mu=>⟨C3++[l.b,l.c],_,_,_,?_,rfl⟩
   have nb:l.b≠D3:=ne_of_none (g2 _ _ hb) nD
   have nc:l.c≠D3:=ne_of_none (g2 _ _ hc) nD
   have g04:=g03.trans g4
   have ktH:Kt H (hide D3 H5):=λc xs hc=>hide_of (ne_of_none (g2 _ _ hc) nD) (mu.old (g04 _ _ hc) (ne_of_none (g2 _ _ hc) nD))
   rw [take_snoc ek'.down]
   refine T3.snoc (x:=s3 e.s) (hide_of nD4 (mu.old h4 nD4)) (hide_of nb (mu.old (g04 _ _ hb) nb)) (pb.mono ktH) (hide_of nc (mu.old (g04 _ _ hc) nc)) (pc.mono ktH) (t3.same λc u hcu=>?_)
   exact hide_of (hide_inv hcu).1 (mu.old (g4 _ _ (hide_inv hcu).2) (hide_inv hcu).1)
  ·rintro D3 ys σ1 H3 hD3 g3 hy3 hle3 ⟨C3,v0,v1,v2',t3,rfl⟩
   have le:((ss.map (·.s)).map s3).length=ys1.length:=by rw [List.length_map,List.length_map];omega
   rw [List.take_of_length_le (Nat.le_of_eq le)] at t3
   have t3':=t3.same hide_le
   have h23:=g3 _ _ h2
   have t23:=t2.same g3
   have G3:=G.same (g2.trans g3)
   have nDtl:D3≠tl:=(ne_of_none h2 hD3).symm
   have nDC:D3∉C3:=λz=>by obtain⟨xs,y⟩:=t3.has _ z;exact(hide_inv y).1 rfl
   have lvs:=t2.length
   have lrs:=r2.length
   have lys:=t3.length
   clear pt2 hl2 X2 h2 t3
   obtain⟨⟨dx,hg3⟩,_⟩:=id G3.G
   walk_at "rz"
   refine go_tools G3 b0 λta H4 vt C1 l1 hta g4 hvt tt tx nC1 fC1=>?_
   have hg4:=g4 _ _ hg3
   walk_at "rz"
   refine go_stores (G3.same g4) b1 λtb H5 vl C2 htb g5 hvl tl3 nC2 fC2=>?_
   try walk_at "rz"
   intro r6 H6 hr6 g6 h6
   obtain⟨T6,fr6,na1,nb2,dj6⟩:=tl2_of hta g4 hvt tt fC1 htb g5 hvl tl3 fC2 hr6 g6 h6
   have er:=rl_tx r2 tx
   subst er
   have g36:=(g4.trans g5).trans g6
   have hD6:=g36 _ _ hy3
   have htl6:=g36 _ _ h23
   have hr6':=T6.hr
   walk_at "rz"
   intro o7 H7 ho7 g7 h7
   refine ne_same (d:=tlD l1 ((ss.map (·.s)).map s3)) (T6.same g7).rp (.lst h7 (.cons (.lst (g7 _ _ htl6) (t23.same (g36.trans g7)).rp) (.cons (.lst (g7 _ _ hD6) (t3'.same (g36.trans g7)).rp) .nil))) (sh_tl _ _) ?_
   have T7:=T6.same g7
   have g37:=g36.trans g7
   have W3:∀c∈ta::tb::(C1++C2),H3 c=none:=λc hc=>fr6 c (by unfold tlR;exact List.mem_cons_of_mem _ hc)
   have lsS:∀x∈(ss.map (·.s)).map s3,x.2.1.length<=200/\x.2.2.length<=200:=λx hx=>by
    obtain⟨y,hy,rfl⟩:=List.mem_map.mp hx
    obtain⟨e,he,rfl⟩:=List.mem_map.mp hy
    obtain⟨j,hj⟩:=List.getElem?_of_mem he
    obtain⟨l,_,_,ce⟩:=X.s.get hj
    exact⟨ce.hs.l1,ce.hs.l2⟩
   have ls7:Lsx (C1++C2) 200 H7:=λc hc=>(List.mem_append.mp hc).elim (T7.ta.ls (rl_len r2) c) (T7.tb.ls lsS c)
   have nta:ta∉C1++C2:=λz=>(List.mem_append.mp z).elim na1 λy=>dj6 ta (List.mem_cons_of_mem _ (List.mem_cons_of_mem _ y)) List.mem_cons_self
   have ntb:tb∉C1++C2:=λz=>(List.mem_append.mp z).elim (λy=>dj6 tb (by simp) (List.mem_cons_of_mem _ y)) nb2
   have ntab:ta≠tb:=λz=>dj6 tb (by simp) (by rw [z];simp)
   have kt7:∀{Hx:Hp},FrG (ta::tb::(C1++C2)) H7 Hx->Kt H7 Hx:=λ{Hx} f c xs hc=>f c _ (λz=>by
    rcases List.mem_cons.mp z with z | z
    ·rw [z,T7.ha] at hc;cases hc
    rcases List.mem_cons.mp z with z | z
    ·rw [z,T7.hb] at hc;cases hc
    ·obtain⟨xs',y,_⟩:=ls7 c z
     rw [y] at hc;cases hc) hc
   have hr7:=T7.hr
   have lvt:=T7.ta.length
   have lvl:=T7.tb.length
   have nr:r6∉ta::tb::(C1++C2):=λz=>by
    have ex:∃u,H5 r6=some u:=by
     rcases List.mem_cons.mp z with z | z
     ·rw [z];exact⟨_,g5 _ _ hvt⟩
     rcases List.mem_cons.mp z with z | z
     ·rw [z];exact⟨_,hvl⟩
     rcases List.mem_append.mp z with z | z
     ·obtain⟨xs,y⟩:=tt.has _ z;exact⟨_,g5 _ _ (hide_inv y).2⟩
     ·obtain⟨xs,y⟩:=tl3.has _ z;exact⟨_,(hide_inv y).2⟩
    obtain⟨u,hu⟩:=ex
    rw [hr6] at hu;cases hu
   have hyb:=PLift.up hy3
   have h23b:=PLift.up h23
   clear hr6' hD6 htl6 hg3 hg4 h6 h7 hvt hvl hy3 h23
   walk_at "rz"
   refine tfor_in ?_
   simp only [iList]
   walk_at "rz"
   refine⟨⟨_,SqL.of hr7⟩,?_⟩
   refine for_list (xs:=[.ref ta,.ref tb]) (M1 g hd pp tl D3 r6 ta tb vt vl (ta::tb::(C1++C2)) (C1++C2) H7 v4 v5 v6 v7) ?_ ?_ ?_ ?_
   ·exact⟨_,_,_,rfl,⟨FrG.refl,ls7⟩,λ_=>T7.ha,λ_=>T7.hb⟩
   ·rintro i σ H8 hi ⟨v10,v11,v12,rfl,m8,_⟩
    exact SqL.of (m8.fr _ _ nr T7.hr)
   ·rintro i0 x σ H8 hx ⟨v10,v11,v12,rfl,m8,ha8,hb8⟩
    have i01:i0<2:=by have:=(List.getElem?_eq_some_iff.mp hx).1;exact this
    obtain⟨x,vx,Cx,rx,rfl,hx8,tx7,inC,nxC,xW,xl,xtb⟩:∃y vx Cx rx,x= .ref y/\H8 y=some (.lst vx)/\T3 H7 Cx vx rx/\(∀c∈Cx,c∈C1++C2)/\y∉C1++C2/\y∈ta::tb::(C1++C2)/\vx.length<=6/\(i0=0->y≠tb):=by
     match i0,i01 with
     | 0,_=>cases hx;exact⟨ta,vt,C1,_,rfl,ha8 rfl,T7.ta,λc hc=>List.mem_append_left _ hc,nta,by simp,by omega,λ_=>ntab⟩
     | 1,_=>cases hx;exact⟨tb,vl,C2,_,rfl,hb8 (by omega),T7.tb,λc hc=>List.mem_append_right _ hc,ntb,by simp,by rw [lvl,List.length_map,List.length_map];omega,λz=>by cases z⟩
    have hb8':i0=0->H8 tb=some (.lst vl):=λz=>hb8 (by omega)
    clear hx ha8 hb8 hr7
    walk_at "rz"
    refine tfor_in ?_
    simp only [iList]
    walk_at "rz"
    refine⟨⟨_,SqL.of hx8⟩,?_⟩
    refine for_list (xs:=vx) (M2 g hd pp tl D3 r6 x tb vx vl i0 (ta::tb::(C1++C2)) (C1++C2) H7 v4 v5 v6 v7) ?_ ?_ ?_ ?_
    ·exact⟨_,_,rfl,m8,hx8,hb8'⟩
    ·rintro i σ H9 hi ⟨v11,v12,rfl,m9,hx9,_⟩
     exact SqL.of hx9
    ·rintro i1 y σ H9 hy ⟨v11,v12,rfl,m9,hx9,hb9⟩
     obtain⟨p,xi,ph,pq,rfl,hp7,mh,mq⟩:=tx7.row hy
     have hp9:=kt7 m9.fr _ _ hp7
     have i16:i1<6:=by have:=(List.getElem?_eq_some_iff.mp hy).1;omega
     clear hx8 hy
     walk_at "rz"
     refine tfor_in ?_
     simp only [iTup]
     walk_at "rz"
     intro z10 H10 hz10 g10 h10
     have ec:cutV [.int xi,.ref ph,.ref pq] (some 1) none= [.ref ph,.ref pq]:=by simp [cutV,HT.sIx]
     rw [ec] at h10
     refine⟨z10,rfl,⟨_,SqT.of h10⟩,?_⟩
     refine for_tup (xs:=[.ref ph,.ref pq]) (M3 g hd pp tl D3 r6 x tb p z10 [.ref ph,.ref pq] vx vl i0 i1 (ta::tb::(C1++C2)) (C1++C2) H7 v4 v5 v6 v7) ?_ ?_ ?_ ?_
     ·exact⟨_,rfl,m9.same g10,g10 _ _ hx9,λz=>g10 _ _ (hb9 z),h10⟩
     ·rintro i σ H11 hi ⟨v12,rfl,m11,hx11,hb11,hz11⟩
      exact SqT.of hz11
     ·rintro i2 y σ H11 hy ⟨v12,rfl,m11,hx11,hb11,hz11⟩
      obtain⟨c,rfl,hc⟩:∃c,y= .ref c/\c∈C1++C2:=by
       have i22:i2<2:=(List.getElem?_eq_some_iff.mp hy).1
       match i2,i22 with
       | 0,_=>cases hy;exact⟨ph,rfl,inC _ mh⟩
       | 1,_=>cases hy;exact⟨pq,rfl,inC _ mq⟩
      have i22:i2<2:=(List.getElem?_eq_some_iff.mp hy).1
      obtain⟨xs,hc11,lc⟩:=m11.ls c hc
      have ncx:x≠c:=λz=>nxC (by rw [z];exact hc)
      have nct:tb≠c:=λz=>ntb (by rw [z];exact hc)
      clear hx9 h10 hp9 hy
      walk_at "rz"
      intro t12 H12 ht12 g12 h12
      have hc12:=g12 _ _ hc11
      refine⟨xs,hc12,by omega,λH13 m13=>?_⟩
      have ncz:z10≠c:=λz=>by rw [<-z,hz11] at hc11;cases hc11
      exact⟨_,rfl,(m11.same g12).mu m13 (List.mem_cons_of_mem _ (List.mem_cons_of_mem _ hc)) hc12,m13.old (g12 _ _ hx11) ncx,λz=>m13.old (g12 _ _ (hb11 z)) nct,m13.old (g12 _ _ hz11) ncz⟩
     ·rintro σ H11 ⟨v12,rfl,m11,hx11,hb11,hz11⟩
      exact⟨_,_,rfl,m11,hx11,hb11⟩
    ·rintro σ H9 ⟨v11,v12,rfl,m9,hx9,hb9⟩
     clear hx8
     walk_at "rz"
     refine⟨by omega,λH10 m10=>?_⟩
     have mm:=m9.mu m10 xW hx9
     refine⟨_,_,_,rfl,⟨mm.fr,λc hc=>?_⟩,λz=>by omega,λz=>m10.old (hb9 (by omega)) (Ne.symm (xtb (by omega)))⟩
     obtain⟨xs,a,b⟩:=mm.ls c hc
     exact⟨xs,a,by omega⟩
   ·rintro σ H8 ⟨v10,v11,v12,rfl,m8,_,_⟩
    have f8:=m8.fr
    have k8:=kt7 f8
    have G8:=(G3.same g37).fr f8 k8 λc hc z=>by
     obtain⟨u,hu⟩:=G3.has c hc
     rw [W3 c z] at hu;cases hu
    have off:∀{c u},H3 c=some u->c∉ta::tb::(C1++C2):=λ{c u} hc z=>by rw [W3 c z] at hc;cases hc
    have same8:Same H H8:=λc u hc=>f8 c u (off ((g2.trans g3) _ _ hc)) (g37 _ _ ((g2.trans g3) _ _ hc))
    have t8:=(t23.same g37).fr f8 k8 λc hc=>by obtain⟨xs,y⟩:=t23.has c hc;exact off y
    have s8:=(t3'.same g37).fr f8 k8 λc hc=>by obtain⟨xs,y⟩:=t3'.has c hc;exact off y
    have tl8:=f8 _ _ (off h23b.down) (g37 _ _ h23b.down)
    have D8:=f8 _ _ (off hyb.down) (g37 _ _ hyb.down)
    obtain⟨⟨dx,hg8⟩,_⟩:=id G8.G
    clear hr7 m8 f8
    walk_at "rz"
    refine go_tools G8 b0 λta H9 vt C1 l2 hta g9 hvt tt tx nC1 fC1=>?_
    have hg9:=g9 _ _ hg8
    walk_at "rz"
    refine go_stores (G8.same g9) b1 λtb H10 vl C2 htb g10 hvl tl3 nC2 fC2=>?_
    try walk_at "rz"
    intro r11 H11 hr11 g11 h11
    obtain⟨T11,_⟩:=tl2_of hta g9 hvt tt fC1 htb g10 hvl tl3 fC2 hr11 g11 h11
    have er:=rl_tx r2 tx
    subst er
    have g811:=(g9.trans g10).trans g11
    have htl11:=g811 _ _ tl8
    have hD11:=g811 _ _ D8
    walk_at "rz"
    intro o12 H12 ho12 g12 h12
    refine eq_same (d:=tlD l2 ((ss.map (·.s)).map s3)) (T11.same g12).rp (.lst h12 (.cons (.lst (g12 _ _ htl11) (t8.same (g811.trans g12)).rp) (.cons (.lst (g12 _ _ hD11) (s8.same (g811.trans g12)).rp) .nil))) (sh_tl _ _) ?_
    exact q'.down H12 ((same8.trans g811).trans g12)
end
end K21
namespace K21
open PySem L2
inductive Sz:Nat->PyData->Prop
 | bool {n:Nat} (b:Bool):Sz n (.bool b)
 | int {n:Nat} (i:Int):Sz n (.int i)
 | str {n:Nat} (s:Str):Sz n (.str s)
 | list {n:Nat} {l:List PyData}:l.length<=1000->(∀x∈l,Sz n x)->Sz (n+1) (.list l)
 | tuple {n:Nat} {l:List PyData}:l.length<=1000->(∀x∈l,Sz n x)->Sz (n+1) (.tuple l)
theorem RpCL.length{H:Hp}{vs:List V}{ds:List PyData}{C:List Addr}:RpCL H vs ds C->vs.length=ds.length
 | .nil=>rfl
 | .cons _ t=>by rw [List.length_cons,List.length_cons,t.length]
theorem RpCL.get{H:Hp}{vs:List V}{ds:List PyData}{C:List Addr}:RpCL H vs ds C->∀{i:Nat} {v:V},vs[i]? =some v->∃d C1,ds[i]? =some d/\RpC H v d C1
 | .nil,i,v,e=>by simp at e
 | .cons h t,i,v,e=>by
  cases i with
  | zero=>simp at e;subst e;exact⟨_,_,rfl,h⟩
  | succ i=>
   obtain⟨d,C1,a,b⟩:=t.get (i:=i) (v:=v) (by simpa using e)
   exact⟨d,C1,by simpa using a,b⟩
theorem RpCL.snoc{H:Hp}{v:V}{d:PyData}{C1:List Addr}(r:RpC H v d C1){vs:List V}{ds:List PyData}{C:List Addr}:RpCL H vs ds C->RpCL H (vs++[v]) (ds++[d]) (C++C1)
 | .nil=>by
  have:=RpCL.cons r .nil
  rw [List.append_nil] at this
  exact this
 | .cons h t=>by
  have:=RpCL.cons h (t.snoc r)
  rw [List.append_assoc]
  exact this
def CpP(H:Hp)(ds:List PyData)(D:Addr)(i:Nat)(ys:List V)(σ1:St)(H':Hp):Prop:=∃C' v0,RpCL (hide D H') ys (ds.take i) C'/\(∀c∈C',H c=none)/\σ1= [v0]
def spCp(n:Nat):Sp:=λvs H Q _=>∃(v:V) (d:PyData) (C:List Addr),vs= [v]/\RpC H v d C/\Sz n d/\∀(H':Hp) (v':V) (C':List Addr),Same H H'->RpC H' v' d C'->(∀c∈C',H c=none)->Q v' H'
def spCp':Nat->Sp
 | 0=>λ_ _ _ _=>False
 | n+1=>spCp n
section
variable{P:Program}{w:World}{K:PySem.W.Frag}{mg:Str->Option Value}{base:Heap}
theorem cp_step{n:Nat}(D:DefAt K mg "_law_copied" s__law_copied ["thing"])(hisinstance:mg "isinstance" =none)(hlist:mg "list" =none)(htuple:mg "tuple" =none)(G__law_copied:OkD P w K mg base (n+1) "_law_copied" ["thing"] (spCp' n)):OkD P w K mg base (n+2) "_law_copied" ["thing"] (spCp n):=by
 refine D.ok sc__law_copied (λvs H Q E h=>?_) (λf cdv A outer s H vs Q E hr h=>?_)
 ·obtain⟨_,_,_,rfl,_⟩:=h;rfl
 obtain⟨v,d,C,rfl,rc,sz,q⟩:=h
 have hu:=hu_of hr
 have big:100000<=sizeLine:=by unfold sizeLine;decide
 have q':=PLift.up q
 clear q
 refine⟨_,(pss_cons (ps_if (pt_val (pe_cB (id:="isinstance") (r:=rIsiG K) call_isinstG rfl hisinstance (by decide +kernel) (pa_c (pv 0) (pa_c (pe_type (n:="list") (T:="list") rfl hlist (by decide +kernel)) pa_nil))))
 (pss_one (ps_ret (pe_compN (comp_scopeN 1 (N:=["part"]) (cap:=[]) rfl rfl rfl rfl (by decide +kernel) rfl rfl rfl) rfl (pi_seq (pv 0)) (λ_ _ _ _=>(pg_name (i:=0) (show List.Nodup (α:=Str) ["part"] by decide +kernel) rfl (Or.inl (lookup_relabel_local rfl)) (Or.inr (lookup_relabel_local rfl)))) (λ_ _ _ _=>pts_nil) (λ_ _ _ _=>(pe_def G__law_copied hr rfl (pa_c (pv 0) pa_nil))))))
 pss_nil)
 (pss_cons (ps_if (pt_val (pe_cB (id:="isinstance") (r:=rIsiG K) call_isinstG rfl hisinstance (by decide +kernel) (pa_c (pv 0) (pa_c (pe_type (n:="tuple") (T:="tuple") rfl htuple (by decide +kernel)) pa_nil))))
 (pss_one (ps_ret (pe_cTy call_tupL rfl htuple (by decide +kernel) (pa_c (pe_compN (comp_scopeN 1 (N:=["part"]) (cap:=[]) rfl rfl rfl rfl (by decide +kernel) rfl rfl rfl) rfl (pi_seq (pv 0)) (λ_ _ _ _=>(pg_name (i:=0) (show List.Nodup (α:=Str) ["part"] by decide +kernel) rfl (Or.inl (lookup_relabel_local rfl)) (Or.inr (lookup_relabel_local rfl)))) (λ_ _ _ _=>pts_nil) (λ_ _ _ _=>(pe_def G__law_copied hr rfl (pa_c (pv 0) pa_nil)))) pa_nil))))
 pss_nil)
 (pss_one (ps_ret (pv 0))))),?_⟩
 cases rc with
 | bl b=>
  have fin:=q'.down H _ _ (Same.refl _) (.bl b) λc hc=>absurd hc List.not_mem_nil
  walk_at "rz"
  try exact fin
 | int i=>
  have fin:=q'.down H _ _ (Same.refl _) (.int i) λc hc=>absurd hc List.not_mem_nil
  walk_at "rz"
  try exact fin
 | str i=>
  have fin:=q'.down H _ _ (Same.refl _) (.str i) λc hc=>absurd hc List.not_mem_nil
  walk_at "rz"
  try exact fin
 | @lst a vs ds C ha t=>
  cases sz with
  | @list n _ ln sz=>
   have lt:=t.length
   walk_at "rz"
   refine tcomp_in ?_
   simp only [iSeq]
   walk_at "rz"
   refine .inl ⟨⟨_,SqL.of ha⟩,compJD_list ha (by omega) (CpP H ds) (λD' H' _ _ _=>⟨[],_,.nil,λc hc=>absurd hc List.not_mem_nil,rfl⟩) ?_ ?_⟩
   ·rintro D' i v ys σ1 H3 hx at1 ⟨C',v0,t3,fr,rfl⟩
    obtain⟨d,C1,ed,rv⟩:=t.get hx
    have rv3:=rv.same at1.same
    have szd:=sz d (List.mem_of_getElem? ed)
    have lD:=at1.lst
    have at1':=PLift.up at1
    have ed':=PLift.up ed
    clear at1 hx ed
    walk_at "rz"
    refine⟨v,d,C1,rfl,rv3,szd,λH4 v' C4 g4 r4 f4=>?_⟩
    refine at1'.down.put g4 λH5 mu=>⟨C'++C4,_,?_,λc hc=>?_,rfl⟩
    ·rw [take_snoc ed'.down]
     have lD4:=g4 _ _ lD
     refine RpCL.snoc (r4.fr (cs:=[D']) (λc u nc hc=>?_) (λc xs hc=>?_) λc hc z=>?_) (t3.same λc u hcu=>hide_of (hide_inv hcu).1 (mu.old (g4 _ _ (hide_inv hcu).2) (hide_inv hcu).1))
     ·have n:c≠D':=λz=>nc (by rw [z];simp)
      exact hide_of n (mu.old hc n)
     ·have n:c≠D':=λz=>by rw [z,lD4] at hc;cases hc
      exact hide_of n (mu.old hc n)
     ·have:=f4 c hc
      rw [List.mem_singleton.mp z,lD] at this;cases this
    ·rcases List.mem_append.mp hc with z | z
     ·exact fr c z
     ·exact at1'.down.same.free (f4 c z)
   ·rintro D' ys σ1 H3 hD g3 hy hle ⟨C',v0,t3,fr,rfl⟩
    rw [List.take_of_length_le (by omega)] at t3
    exact q'.down H3 (.ref D') (D'::C') g3 (.lst hy (t3.same hide_le)) λc hc=>(List.mem_cons.mp hc).elim (λz=>by rw [z];exact hD) (fr c)
 | @tup a vs ds C ha t=>
  cases sz with
  | @tuple n _ ln sz=>
   have lt:=t.length
   walk_at "rz"
   refine tcomp_in ?_
   simp only [iSeq]
   walk_at "rz"
   refine .inr ⟨⟨_,SqT.of ha⟩,compJD_tup ha (by omega) (CpP H ds) (λD' H' _ _ _=>⟨[],_,.nil,λc hc=>absurd hc List.not_mem_nil,rfl⟩) ?_ ?_⟩
   ·rintro D' i v ys σ1 H3 hx at1 ⟨C',v0,t3,fr,rfl⟩
    obtain⟨d,C1,ed,rv⟩:=t.get hx
    have rv3:=rv.same at1.same
    have szd:=sz d (List.mem_of_getElem? ed)
    have lD:=at1.lst
    have at1':=PLift.up at1
    have ed':=PLift.up ed
    clear at1 hx ed
    walk_at "rz"
    refine⟨v,d,C1,rfl,rv3,szd,λH4 v' C4 g4 r4 f4=>?_⟩
    refine at1'.down.put g4 λH5 mu=>⟨C'++C4,_,?_,λc hc=>?_,rfl⟩
    ·rw [take_snoc ed'.down]
     have lD4:=g4 _ _ lD
     refine RpCL.snoc (r4.fr (cs:=[D']) (λc u nc hc=>?_) (λc xs hc=>?_) λc hc z=>?_) (t3.same λc u hcu=>hide_of (hide_inv hcu).1 (mu.old (g4 _ _ (hide_inv hcu).2) (hide_inv hcu).1))
     ·have n:c≠D':=λz=>nc (by rw [z];simp)
      exact hide_of n (mu.old hc n)
     ·have n:c≠D':=λz=>by rw [z,lD4] at hc;cases hc
      exact hide_of n (mu.old hc n)
     ·have:=f4 c hc
      rw [List.mem_singleton.mp z,lD] at this;cases this
    ·rcases List.mem_append.mp hc with z | z
     ·exact fr c z
     ·exact at1'.down.same.free (f4 c z)
   ·rintro D' ys σ1 H3 hD g3 hy hle ⟨C',v0,t3,fr,rfl⟩
    rw [List.take_of_length_le (by omega)] at t3
    exact⟨D',rfl,ys,trivial,hy,λp H4 hp g4 h4=>q'.down H4 (.ref p) C' (g3.trans g4) (.tup h4 ((t3.same hide_le).same g4)) fr⟩
theorem ok_cp(D:DefAt K mg "_law_copied" s__law_copied ["thing"])(hisinstance:mg "isinstance" =none)(hlist:mg "list" =none)(htuple:mg "tuple" =none):∀n,OkD P w K mg base (n+2) "_law_copied" ["thing"] (spCp n)
 | 0=>cp_step D hisinstance hlist htuple (D.ok sc__law_copied (λvs H Q E h=>h.elim) λf cdv A outer s H vs Q E hr h=>h.elim)
 | n+1=>cp_step D hisinstance hlist htuple (ok_cp D hisinstance hlist htuple n)
end
end K21
namespace K21
open PySem L2
theorem tyG_lst{H:Hp}{a:Addr}{xs:List V}(h:H a=some (.lst xs)):tyG H (.ref a)=some "list":=by rw [tyG_r,h];rfl
theorem tyG_tup{H:Hp}{a:Addr}{xs:List V}(h:H a=some (.tup xs)):tyG H (.ref a)=some "tuple":=by rw [tyG_r,h];rfl
def LsI(v:V)(H:Hp)(vs:List V)(ds:List PyData)(X C:List Addr)(i:Nat)(σ:St)(H':Hp):Prop:=∃(A B:List Addr) (r:Addr) (v2:Option V),σ= [some v,some (.ref r),v2]/\Same H H'/\C=A++B/\RpCL H (vs.drop i) (ds.drop i) B/\H' r=some (.lst ((X++A).map V.ref))/\H r=none
theorem RpCL.head{H:Hp}{vs:List V}{ds:List PyData}{B:List Addr}{i:Nat}{v:V}(t:RpCL H (vs.drop i) (ds.drop i) B)(e:vs[i]? =some v):∃d C1 B',d∈ds/\RpC H v d C1/\RpCL H (vs.drop (i+1)) (ds.drop (i+1)) B'/\B=C1++B':=by
 obtain⟨lt,ev⟩:=List.getElem?_eq_some_iff.mp e
 rw [List.drop_eq_getElem_cons lt,ev] at t
 cases hd:ds.drop i with
 | nil=>rw [hd] at t;cases t
 | cons d ds'=>
  rw [hd] at t
  have e2:ds.drop (i+1)=ds':=by
   rw [<-List.drop_drop,hd];rfl
  cases t with
  | cons h r=>exact⟨d,_,_,List.mem_of_mem_drop (i:=i) (by rw [hd];exact List.mem_cons_self),h,by rw [e2];exact r,rfl⟩
def spLs(n:Nat):Sp:=λvs H Q _=>∃(v:V) (d:PyData) (C:List Addr),vs= [v]/\RpC H v d C/\Sz n d/\C.length<=50000/\∀(H':Hp) (r:Addr),Same H H'->H r=none->H' r=some (.lst (C.map V.ref))->Q (.ref r) H'
def spLs':Nat->Sp
 | 0=>λ_ _ _ _=>False
 | n+1=>spLs n
section
variable{P:Program}{w:World}{K:PySem.W.Frag}{mg:Str->Option Value}{base:Heap}
theorem ls_step{n:Nat}(D:DefAt K mg "_law_lists" s__law_lists ["thing"])(hisinstance:mg "isinstance" =none)(hlist:mg "list" =none)(htuple:mg "tuple" =none)(G__law_lists:OkD P w K mg base (n+1) "_law_lists" ["thing"] (spLs' n)):OkD P w K mg base (n+2) "_law_lists" ["thing"] (spLs n):=by
 refine D.ok sc__law_lists (λvs H Q E h=>?_) (λf cdv A outer s H vs Q E hr h=>?_)
 ·obtain⟨_,_,_,rfl,_⟩:=h;rfl
 obtain⟨v,d,C,rfl,rc,sz,lc,q⟩:=h
 have hu:=hu_of hr
 have big:100000<=sizeLine:=by unfold sizeLine;decide
 have q':=PLift.up q
 clear q
 refine⟨_,(pss_cons (ps_set (i:=1) sc__law_lists.nd rfl (Or.inl rfl) (pe_lstG pa_nil))
 (pss_cons (ps_if (pt_val (pe_cB (id:="isinstance") (r:=rIsiG K) call_isinstG rfl hisinstance (by decide +kernel) (pa_c (pv 0) (pa_c (pe_type (n:="list") (T:="list") rfl hlist (by decide +kernel)) pa_nil))))
 (pss_one (ps_expr (pe_appG (pv 1) (pv 0))))
 pss_nil)
 (pss_cons (ps_if (pt_val (pe_cB (id:="isinstance") (r:=rIsiT K) call_isinstT rfl hisinstance (by decide +kernel) (pa_c (pv 0) (pa_c (pe_tupG (pa_c (pe_type (n:="list") (T:="list") rfl hlist (by decide +kernel)) (pa_c (pe_type (n:="tuple") (T:="tuple") rfl htuple (by decide +kernel)) pa_nil))) pa_nil))))
 (pss_one (ps_for PassesOwn.never rfl (pi_seq (pv 0)) (pg_name (i:=2) sc__law_lists.nd rfl (Or.inl rfl))
 (pss_one (ps_set (i:=1) sc__law_lists.nd rfl (Or.inl rfl) (pe_op op_catG (pv 1) (pe_def G__law_lists hr rfl (pa_c (pv 2) pa_nil)))))))
 pss_nil)
 (pss_one (ps_ret (pv 1)))))),?_⟩
 cases rc with
 | bl b=>
  walk_at "rz"
  intro r H1 hr1 g1 h1
  walk_at "rz"
  intro t2 H2 ht2 g2 h2
  have fin:=q'.down H2 r (g1.trans g2) hr1 (g2 _ _ h1)
  walk_at "rz"
  refine⟨_,t2,_,_,_,_,rfl,h2,rfl,rfl,?_⟩
  walk_at "rz"
  try exact fin
 | int i=>
  walk_at "rz"
  intro r H1 hr1 g1 h1
  walk_at "rz"
  intro t2 H2 ht2 g2 h2
  have fin:=q'.down H2 r (g1.trans g2) hr1 (g2 _ _ h1)
  walk_at "rz"
  refine⟨_,t2,_,_,_,_,rfl,h2,rfl,rfl,?_⟩
  walk_at "rz"
  try exact fin
 | str i=>
  walk_at "rz"
  intro r H1 hr1 g1 h1
  walk_at "rz"
  intro t2 H2 ht2 g2 h2
  have fin:=q'.down H2 r (g1.trans g2) hr1 (g2 _ _ h1)
  walk_at "rz"
  refine⟨_,t2,_,_,_,_,rfl,h2,rfl,rfl,?_⟩
  walk_at "rz"
  try exact fin
 | @lst a vs ds C ha t=>
  cases sz with
  | @list n _ ln sz=>
   have lt:=t.length
   walk_at "rz"
   intro r H1 hr1 g1 h1
   have ha1:=g1 _ _ ha
   walk_at "rz"
   refine⟨by omega,λH2 m2=>?_⟩
   have g2:Same H H2:=λc u hc=>m2.old (g1 _ _ hc) (ne_of_none hc hr1)
   have h2a:H2 r=some (.lst [.ref a]):=m2.at_
   clear h1 ha1 m2
   walk_at "rz"
   intro t3 H3 ht3 g3 h3
   have g2':=g2.trans g3
   have h12:H3 r=some (.lst (([a]++[]).map V.ref)):=g3 _ _ h2a
   have h1:=h12
   have h2:=h12
   walk_at "rz"
   refine⟨_,t3,_,_,_,_,rfl,h3,tyG_lst (g2' _ _ ha),rfl,?_⟩
   have ha3:=g2' _ _ ha
   walk_at "rz"
   refine tfor_in ?_
   simp only [iSeq]
   walk_at "rz"
   refine .inl ⟨⟨_,SqL.of (g2' _ _ ha)⟩,?_⟩
   refine for_list (xs:=vs) (LsI (.ref a) H vs ds [a] C) ?_ ?_ ?_ ?_
   ·exact⟨[],C,r,_,rfl,g2',rfl,t,h12,hr1⟩
   ·rintro i σ H3 hi ⟨A,B,r3,v2,rfl,g3,_⟩
    exact SqL.of (g3 _ _ ha)
   ·rintro i v σ H3 hx ⟨A,B,r3,v2,rfl,g3,rfl,t3,h3,hr3⟩
    obtain⟨d,C1,B',md,rv,t4,rfl⟩:=t3.head hx
    have rv3:=rv.same g3
    have szd:=sz d md
    simp only [List.length_append,List.length_cons] at lc
    clear hx h1 h2
    walk_at "rz"
    refine⟨v,d,C1,rfl,rv3,szd,by omega,λH4 r4 g4 hr4 h4=>?_⟩
    have h34:=g4 _ _ h3
    walk_at "rz"
    refine⟨by simp only [List.length_map,List.length_append,List.length_cons,List.length_nil];omega,λr5 H5 hr5 g5 h5=>?_⟩
    exact⟨A++C1,B',r5,_,rfl,(g3.trans g4).trans g5,by rw [List.append_assoc],t4,by rw [h5];simp,(g3.trans g4).free hr5⟩
   ·rintro σ H3 ⟨A,B,r3,v2,rfl,g3,eC,t3,h3,hr3⟩
    rw [List.drop_of_length_le (Nat.le_refl _),List.drop_of_length_le (by omega)] at t3
    cases t3
    rw [List.append_nil] at eC
    have fin:=q'.down H3 r3 g3 hr3 (by rw [eC];exact h3)
    clear h1 h2
    walk_at "rz"
    try exact fin
 | @tup a vs ds C ha t=>
  cases sz with
  | @tuple n _ ln sz=>
   have lt:=t.length
   walk_at "rz"
   intro r H1 hr1 g1 h1
   have ha1:=g1 _ _ ha
   walk_at "rz"
   intro t3 H3 ht3 g3 h3
   have g2':=g1.trans g3
   have h12:H3 r=some (.lst (([]++[]:List Addr).map V.ref)):=g3 _ _ h1
   clear h1
   have h1:=h12
   have h2:=h12
   walk_at "rz"
   refine⟨_,t3,_,_,_,_,rfl,h3,tyG_tup (g2' _ _ ha),rfl,?_⟩
   have ha3:=g2' _ _ ha
   walk_at "rz"
   refine tfor_in ?_
   simp only [iSeq]
   walk_at "rz"
   refine .inr ⟨⟨_,SqT.of (g2' _ _ ha)⟩,?_⟩
   refine for_tup (xs:=vs) (LsI (.ref a) H vs ds [] C) ?_ ?_ ?_ ?_
   ·exact⟨[],C,r,_,rfl,g2',rfl,t,h12,hr1⟩
   ·rintro i σ H3 hi ⟨A,B,r3,v2,rfl,g3,_⟩
    exact SqT.of (g3 _ _ ha)
   ·rintro i v σ H3 hx ⟨A,B,r3,v2,rfl,g3,rfl,t3,h3,hr3⟩
    obtain⟨d,C1,B',md,rv,t4,rfl⟩:=t3.head hx
    have rv3:=rv.same g3
    have szd:=sz d md
    simp only [List.length_append,List.length_cons] at lc
    clear hx h1 h2
    walk_at "rz"
    refine⟨v,d,C1,rfl,rv3,szd,by omega,λH4 r4 g4 hr4 h4=>?_⟩
    have h34:=g4 _ _ h3
    walk_at "rz"
    refine⟨by simp only [List.length_map,List.length_append,List.length_cons,List.length_nil];omega,λr5 H5 hr5 g5 h5=>?_⟩
    exact⟨A++C1,B',r5,_,rfl,(g3.trans g4).trans g5,by rw [List.append_assoc],t4,by rw [h5];simp,(g3.trans g4).free hr5⟩
   ·rintro σ H3 ⟨A,B,r3,v2,rfl,g3,eC,t3,h3,hr3⟩
    rw [List.drop_of_length_le (Nat.le_refl _),List.drop_of_length_le (by omega)] at t3
    cases t3
    rw [List.append_nil] at eC
    have fin:=q'.down H3 r3 g3 hr3 (by rw [eC];exact h3)
    clear h1 h2
    walk_at "rz"
    try exact fin
theorem ok_ls(D:DefAt K mg "_law_lists" s__law_lists ["thing"])(hisinstance:mg "isinstance" =none)(hlist:mg "list" =none)(htuple:mg "tuple" =none):∀n,OkD P w K mg base (n+2) "_law_lists" ["thing"] (spLs n)
 | 0=>ls_step D hisinstance hlist htuple (D.ok sc__law_lists (λvs H Q E h=>h.elim) λf cdv A outer s H vs Q E hr h=>h.elim)
 | n+1=>ls_step D hisinstance hlist htuple (ok_ls D hisinstance hlist htuple n)
end
end K21
namespace K21
open PySem L2
mutual
theorem RpC.len{H:Hp}{v:V}{d:PyData}{C:List Addr}:RpC H v d C->∀{n:Nat},Sz n d->∀c∈C,∃xs,H c=some (.lst xs)/\xs.length<=1000
 | .bl b,_,_,c,h=>absurd h List.not_mem_nil
 | .int i,_,_,c,h=>absurd h List.not_mem_nil
 | .str s,_,_,c,h=>absurd h List.not_mem_nil
 | .tup ha t,_,.tuple _ z,c,h=>t.len z c h
 | .lst ha t,_,.list l z,c,h=>by
  rcases List.mem_cons.mp h with e | e
  ·exact⟨_,by rw [e];exact ha,by rw [t.length];exact l⟩
  ·exact t.len z c e
theorem RpCL.len{H:Hp}{vs:List V}{ds:List PyData}{C:List Addr}:RpCL H vs ds C->∀{n:Nat},(∀x∈ds,Sz n x)->∀c∈C,∃xs,H c=some (.lst xs)/\xs.length<=1000
 | .nil,_,_,c,h=>absurd h List.not_mem_nil
 | .cons r t,_,z,c,h=>(List.mem_append.mp h).elim (r.len (z _ List.mem_cons_self) c) (t.len (λx hx=>z x (List.mem_cons_of_mem _ hx)) c)
end
def lsAt(H:Hp)(c:Addr):List V:=match H c with | some (.lst xs)=>xs | _=>[]
theorem lsAt_eq{H:Hp}{c:Addr}{xs:List V}(h:H c=some (.lst xs)):lsAt H c=xs:=by unfold lsAt;rw [h]
def iD(ns:List Int):List PyData:=ns.map .int
theorem sh_iD(ns:List Int):SeqAt.shaped (.list (iD ns))=true:=by
 refine sh_of ?_ ?_
 ·induction ns with
  | nil=>rfl
  | cons p ps ih=>
   unfold iD at ih⊢
   simp only [List.map_cons,PyData.canLayAll0,PyData.canLay0,Bool.and_true,Bool.true_and]
   exact ih
 ·induction ns with
  | nil=>simp [iD,PyData.depthAll]
  | cons p ps ih=>
   unfold iD at ih⊢
   simp only [List.map_cons,PyData.depthAll,PyData.depth] at ih⊢
   omega
theorem rp_iD{K:PySem.W.Frag}{H:Hp}:∀(ns:List Int),RpL K H (ns.map V.int) (iD ns)
 | []=>.nil
 | n::ns=>.cons (.int n) (rp_iD ns)
def OwP(C:List Addr)(g:Addr->Int)(i:Nat)(ys:List V)(σ1:St)(_H':Hp):Prop:=ys=((C.take i).map g).map V.int/\∃v0,σ1= [v0]
def OwQ(ns:List Int)(i:Nat)(ys:List V)(σ1:St)(_H':Hp):Prop:=ys=((ns.take i).map (· +1)).map V.int/\∃v0,σ1= [v0]
def OwI(td r z:Addr)(C:List Addr)(H:Hp)(i:Nat)(σ:St)(H':Hp):Prop:=∃(v3:Option V),σ= [some (.ref td),some (.ref r),some (.ref z),v3]/\FrG C H H'/\(∀c∈C.take i,H' c=some (.lst (lsAt H c++[.int 0])))/\(∀c∈C.drop i,H' c=some (.lst (lsAt H c)))
section
variable{P:Program}{w:World}{K:PySem.W.Frag}{mg:Str->Option Value}{base:Heap}
def spOwn(n:Nat):Sp:=λvs H Q _=>∃(td:Addr) (d:PyData) (C:List Addr),vs= [.ref td]/\RpC H (.ref td) d C/\Sz n d/\C.Nodup/\C.length<=50000/\∀H',FrG C H H'->Q (.bl true) H'
theorem ok_own{n:Nat}(D:DefAt K mg "_law_own" s__law_own ["told"])(G__law_lists:OkD P w K mg base (n+2) "_law_lists" ["thing"] (spLs n))(hlen:mg "len" =none):OkD P w K mg base (n+3) "_law_own" ["told"] (spOwn n):=by
 refine D.ok sc__law_own (λvs H Q E h=>?_) (λf cdv A outer s H vs Q E hr h=>?_)
 ·obtain⟨_,_,_,rfl,_⟩:=h;rfl
 obtain⟨td,d,C,rfl,rc,sz,nC,lc,q⟩:=h
 have hu:=hu_of hr
 have hu64:=hr.units
 have big:100000<=sizeLine:=by unfold sizeLine;decide
 have q':=PLift.up q
 clear q
 have ex:∀c∈C,H c=some (.lst (lsAt H c))/\(lsAt H c).length<=1000:=λc hc=>by
  obtain⟨xs,a,b⟩:=rc.len sz c hc
  rw [lsAt_eq a];exact⟨a,b⟩
 refine⟨_,(pss_cons (ps_set (i:=1) sc__law_own.nd rfl (Or.inl rfl) (pe_def G__law_lists hr rfl (pa_c (pv 0) pa_nil)))
 (pss_cons (ps_setCN (i:=2) sc__law_own.nd rfl (Or.inl rfl) (comp_scopeN 1 (N:=["some"]) (cap:=[]) rfl rfl rfl rfl (by decide +kernel) rfl rfl rfl) rfl (pi_list (pv 1)) (λ_ _ _ _=>(pg_name (i:=0) (show List.Nodup (α:=Str) ["some"] by decide +kernel) rfl (Or.inl (lookup_relabel_local rfl)) (Or.inr (lookup_relabel_local rfl)))) (λ_ _ _ _=>pts_nil) (λ_ _ _ _=>(pe_cB call_lenG rfl hlen PySem.boot_len (pa_c (pv 0) pa_nil))))
 (pss_cons (ps_for PassesOwn.never rfl (pi_list (pv 1)) (pg_name (i:=3) sc__law_own.nd rfl (Or.inl rfl))
 (pss_one (ps_expr (pe_appG (pv 3) pe_int))))
 (pss_one (ps_ret (pe_cmpR (op_eqD hu64) (pe_compN (comp_scopeN 1 (N:=["some"]) (cap:=[]) rfl rfl rfl rfl (by decide +kernel) rfl rfl rfl) rfl (pi_list (pv 1)) (λ_ _ _ _=>(pg_name (i:=0) (show List.Nodup (α:=Str) ["some"] by decide +kernel) rfl (Or.inl (lookup_relabel_local rfl)) (Or.inr (lookup_relabel_local rfl)))) (λ_ _ _ _=>pts_nil) (λ_ _ _ _=>(pe_cB call_lenG rfl hlen PySem.boot_len (pa_c (pv 0) pa_nil)))) (pe_compN (comp_scopeN 1 (N:=["size"]) (cap:=[]) rfl rfl rfl rfl (by decide +kernel) rfl rfl rfl) rfl (pi_list (pv 2)) (λ_ _ _ _=>(pg_name (i:=0) (show List.Nodup (α:=Str) ["size"] by decide +kernel) rfl (Or.inl (lookup_relabel_local rfl)) (Or.inr (lookup_relabel_local rfl)))) (λ_ _ _ _=>pts_nil) (λ_ _ _ _=>(pe_op op_add (pv 0) pe_int))) (nomark _))))))),?_⟩
 walk_at "rz"
 refine⟨.ref td,d,C,rfl,rc,sz,lc,λH1 r g1 hr1 h1=>?_⟩
 walk_at "rz"
 refine tcomp_in ?_
 simp only [iList]
 walk_at "rz"
 have lm:(C.map V.ref).length=C.length:=List.length_map _
 refine⟨⟨_,SqL.of h1⟩,compJ_list h1 (by omega) (OwP C λc=>((lsAt H c).length:Int)) (λH' _=>⟨rfl,_,rfl⟩) ?_ ?_⟩
 ·rintro D' i v ys σ1 H2 hx at1 ⟨rfl,v0,rfl⟩
  obtain⟨c,ec,rfl⟩:∃c,C[i]? =some c/\V.ref c=v:=by
   rw [List.getElem?_map] at hx
   cases y:C[i]? with
   | none=>rw [y] at hx;cases hx
   | some z=>rw [y] at hx;cases hx;exact⟨z,rfl,rfl⟩
  have hc2:=at1.same _ _ (g1 _ _ (ex c (List.mem_of_getElem? ec)).1)
  have kT:Put (C.map V.ref) H1 D' (OwP C λc=>((lsAt H c).length:Int)) i [some (.ref c)] (.int (lsAt H c).length) H2:=at1.put (Same.refl _) λH5 mu=>⟨by rw [take_snoc ec,List.map_append,List.map_append];rfl,_,rfl⟩
  have at1':=PLift.up at1
  clear hx at1 h1 ec
  walk_at "rz"
  try exact kT
 ·rintro z ys σ1 H2 hz g2 hy hle ⟨rfl,v0,rfl⟩
  rw [lm,List.take_of_length_le (Nat.le_refl _)] at hy
  have h2:=g2 _ _ h1
  have g12:=g1.trans g2
  clear h1
  try walk_at "rz"
  refine tfor_in ?_
  simp only [iList]
  walk_at "rz"
  refine⟨⟨_,SqL.of h2⟩,?_⟩
  have nrC:r∉C:=λz=>by have:=(ex r z).1;rw [hr1] at this;cases this
  have nzC:z∉C:=λy=>by have:=g1 _ _ (ex z y).1;rw [hz] at this;cases this
  refine for_list (xs:=C.map V.ref) (λi σ H'=>OwI td r z C H2 i σ H') ?_ ?_ ?_ ?_
  ·exact⟨_,rfl,FrG.refl,λc hc=>by simp at hc,λc hc=>by rw [List.drop_zero] at hc;have:=g12 _ _ (ex c hc).1;rw [lsAt_eq this];exact this⟩
  ·rintro i σ H3 hi ⟨v3,rfl,f3,_⟩
   exact SqL.of (f3 _ _ nrC h2)
  ·rintro i x σ H3 hx ⟨v3,rfl,f3,d3,u3⟩
   obtain⟨c,ec,rfl⟩:∃c,C[i]? =some c/\V.ref c=x:=by
    rw [List.getElem?_map] at hx
    cases y:C[i]? with
    | none=>rw [y] at hx;cases hx
    | some z=>rw [y] at hx;cases hx;exact⟨z,rfl,rfl⟩
   obtain⟨lt,ev⟩:=List.getElem?_eq_some_iff.mp ec
   have mc:=List.mem_of_getElem? ec
   have hc3:=u3 c (by rw [List.drop_eq_getElem_cons lt,ev];exact List.mem_cons_self)
   have l2:lsAt H2 c=lsAt H c:=lsAt_eq (g12 _ _ (ex c mc).1)
   have lk:=(ex c mc).2
   rw [l2] at hc3
   have nd:=nC
   rw [<-List.take_append_drop i C,List.drop_eq_getElem_cons lt,ev,List.nodup_append,List.nodup_cons] at nd
   clear hx h2 hy
   walk_at "rz"
   refine⟨by omega,λH4 m4=>?_⟩
   refine⟨_,rfl,λc' u nc hc=>m4.old (f3 c' u nc hc) (λy=>nc (by rw [y];exact mc)),λc' hc=>?_,λc' hc=>m4.old (u3 c' (by rw [List.drop_eq_getElem_cons lt];exact List.mem_cons_of_mem _ hc)) (λy=>nd.2.1.1 (by rw [<-y];exact hc))⟩
   rw [take_snoc ec] at hc
   rcases List.mem_append.mp hc with y | y
   ·exact m4.old (d3 c' y) (λw=>nd.2.2 c' y c (by simp) w)
   ·rw [List.mem_singleton.mp y,l2];exact m4.at_
  ·rintro σ H3 ⟨v3,rfl,f3,d3,u3⟩
   rw [lm,List.take_of_length_le (Nat.le_refl _)] at d3
   have h3:=f3 _ _ nrC h2
   have hy3:=f3 _ _ nzC hy
   clear h2 hy
   try walk_at "rz"
   refine tcomp_in ?_
   simp only [iList]
   walk_at "rz"
   refine⟨⟨_,SqL.of h3⟩,compJ_list h3 (by omega) (OwP C λc=>((lsAt H c).length:Int)+1) (λH' _=>⟨rfl,_,rfl⟩) ?_ ?_⟩
   ·rintro D' i v ys σ1 H4 hx at1 ⟨rfl,v0,rfl⟩
    obtain⟨c,ec,rfl⟩:∃c,C[i]? =some c/\V.ref c=v:=by
     rw [List.getElem?_map] at hx
     cases y:C[i]? with
     | none=>rw [y] at hx;cases hx
     | some z=>rw [y] at hx;cases hx;exact⟨z,rfl,rfl⟩
    have mc:=List.mem_of_getElem? ec
    have l2:lsAt H2 c=lsAt H c:=lsAt_eq (g12 _ _ (ex c mc).1)
    have hc4:=at1.same _ _ (d3 c mc)
    rw [l2] at hc4
    have kT:Put (C.map V.ref) H3 D' (OwP C λc=>((lsAt H c).length:Int)+1) i [some (.ref c)] (.int ((lsAt H c++[V.int 0]).length)) H4:=at1.put (Same.refl _) λH5 mu=>⟨by rw [take_snoc ec,List.map_append,List.map_append,List.length_append,List.length_singleton];simp,_,rfl⟩
    have at1':=PLift.up at1
    clear hx at1 h3 ec hy3
    walk_at "rz"
    try exact kT
   ·rintro y1 ys σ1 H4 hy1 g4 hy4 hle4 ⟨rfl,v0,rfl⟩
    rw [lm,List.take_of_length_le (Nat.le_refl _)] at hy4
    have hz4:=g4 _ _ hy3
    clear hy3 h3
    try walk_at "rz"
    refine tcomp_in ?_
    simp only [iList]
    walk_at "rz"
    obtain⟨ns,hns⟩:∃ns,ns=C.map λc=>((lsAt H c).length:Int):=⟨_,rfl⟩
    rw [<-hns] at hz4
    have ln:ns.length=C.length:=by rw [hns,List.length_map]
    have ln2:(ns.map V.int).length=ns.length:=List.length_map _
    have e1:(C.map λc=>((lsAt H c).length:Int)+1)=ns.map (· +1):=by rw [hns,List.map_map];rfl
    rw [e1] at hy4
    refine⟨⟨_,SqL.of hz4⟩,compJ_list hz4 (by omega) (OwQ ns) (λH' _=>⟨rfl,_,rfl⟩) ?_ ?_⟩
    ·rintro D' i v ys σ1 H5 hx at1 ⟨rfl,v0,rfl⟩
     obtain⟨x,ex',rfl⟩:∃x,ns[i]? =some x/\V.int x=v:=by
      rw [List.getElem?_map] at hx
      cases y:ns[i]? with
      | none=>rw [y] at hx;cases hx
      | some z=>rw [y] at hx;cases hx;exact⟨z,rfl,rfl⟩
     have kT:Put (ns.map V.int) H4 D' (OwQ ns) i [some (.int x)] (.int (x+1)) H5:=at1.put (Same.refl _) λH6 mu=>⟨by rw [take_snoc ex',List.map_append,List.map_append];rfl,_,rfl⟩
     have at1':=PLift.up at1
     have hns':=PLift.up hns
     have e1':=PLift.up e1
     clear hx at1 ex' hns e1
     walk_at "rz"
     try exact kT
    ·rintro y2 ys σ1 H5 hy2 g5 hy5 hle5 ⟨rfl,v0,rfl⟩
     rw [ln2,List.take_of_length_le (Nat.le_refl _)] at hy5
     refine eq_same (d:=.list (iD (ns.map (· +1)))) (.lst (g5 _ _ hy4) (rp_iD _)) (.lst hy5 (rp_iD _)) (sh_iD _) ?_
     refine q'.down H5 λc u nc hc=>?_
     exact g5 _ _ (g4 _ _ (f3 c u nc (g12 _ _ hc)))
end
end K21
namespace K21
open PySem L2
theorem T3.rc{H:Hp}{C:List Addr}{vs:List V}{l:List X3}(t:T3 H C vs l):RpCL H vs (d3 l) C:=by
 induction t with
 | nil=>exact .nil
 | @cons p ph pq hv qv x C vs l h1 h2 h3 h4 h5 _ ih=>
  have r:RpC H (.ref p) (.tuple [.int x.1,.list (p2D x.2.1),.list (p2D x.2.2)]) [ph,pq]:=.tup h1 (.cons (.int _) (.cons (.lst h2 h3.rc) (.cons (.lst h4 h5.rc) .nil)))
  exact RpCL.cons r ih
theorem RpCL.drop{H:Hp}{vs:List V}{ds:List PyData}{C:List Addr}:RpCL H vs ds C->∀j,∃A B,C=A++B/\RpCL H (vs.drop j) (ds.drop j) B
 | .nil,j=>⟨[],[],rfl,by rw [List.drop_nil,List.drop_nil];exact .nil⟩
 | .cons h t,0=>⟨[],_,rfl,.cons h t⟩
 | .cons h t,j+1=>by
  obtain⟨A,B,e,r⟩:=t.drop j
  exact⟨_++A,B,by rw [e,List.append_assoc],r⟩
inductive Nl:PyData->Prop
 | bool (b:Bool):Nl (.bool b)
 | int (i:Int):Nl (.int i)
 | str (s:Str):Nl (.str s)
 | tuple {l:List PyData}:(∀x∈l,Nl x)->Nl (.tuple l)
mutual
theorem RpC.nl{H:Hp}{v:V}{d:PyData}{C:List Addr}:RpC H v d C->Nl d->C= []
 | .bl b,_=>rfl
 | .int i,_=>rfl
 | .str s,_=>rfl
 | .tup _ t,.tuple z=>t.nl z
theorem RpCL.nl{H:Hp}{vs:List V}{ds:List PyData}{C:List Addr}:RpCL H vs ds C->(∀x∈ds,Nl x)->C= []
 | .nil,_=>rfl
 | .cons r t,z=>by rw [r.nl (z _ List.mem_cons_self),t.nl λx hx=>z x (List.mem_cons_of_mem _ hx)];rfl
end
theorem nl_tk(l:List (Int×Int)):∀x∈tkD l,Nl x:=λx hx=>by
 obtain⟨p,_,rfl⟩:=List.mem_map.mp hx
 exact .tuple λy hy=>by
  simp only [List.mem_cons,List.not_mem_nil,or_false] at hy
  rcases hy with rfl | rfl | rfl
  ·exact .int _
  ·exact .str _
  ·exact .int _
theorem nl_st(l:List (Int×Bool×Int)):∀x∈stD l,Nl x:=λx hx=>by
 obtain⟨p,_,rfl⟩:=List.mem_map.mp hx
 exact .tuple λy hy=>by
  simp only [List.mem_cons,List.not_mem_nil,or_false] at hy
  rcases hy with rfl | rfl | rfl
  ·exact .int _
  ·exact .str _
  ·exact .int _
theorem c_pair{H:Hp}{v:V}{x:PyData}{l:List PyData}{C:List Addr}(r:RpC H v (.tuple [x,.list l]) C)(hx:Nl x)(hl:∀y∈l,Nl y):C.length<=1:=by
 cases r with
 | tup _ t=>
 cases t with
 | cons a t=>
 cases t with
 | cons b t=>
 cases t
 rw [a.nl hx]
 cases b with
 | lst _ t=>rw [t.nl hl];simp
theorem c_lv{H:Hp}:∀{vs:List V} {l:List (Str×Int×List (Int×Int))} {C:List Addr},RpCL H vs (lvD l) C->C.length<=l.length
 | _,[],_,.nil=>Nat.le_refl _
 | _,x::l,_,.cons r t=>by
  have i:=c_lv (l:=l) t
  rw [List.length_append,List.length_cons]
  have:∀{v:V} {C:List Addr},RpC H v (.tuple [.str x.1,.int x.2.1,.list (tkD x.2.2)]) C->C.length<=1:=λ{v C} r=>by
   cases r with
   | tup _ t=>
   cases t with
   | cons a t=>
   cases a
   cases t with
   | cons b t=>
   cases b
   cases t with
   | cons c t=>
   cases t
   cases c with
   | lst _ t=>rw [t.nl (nl_tk _)];simp
  have:=this r
  omega
theorem Dd.cells{es es':List Ent}{ss ss':List EntS}{word nm:Str}{h n:Int}{d:PyData}(D:Dd es ss word nm h n es' ss' d){H:Hp}{v:V}{C:List Addr}(r:RpC H v d C):C.length<=1+es.length:=by
 cases D with
 | take=>cases r;simp
 | give=>have:=c_pair r (.int _) (nl_tk _);omega
 | put=>have:=c_pair r (.bool _) (nl_st _);omega
 | get=>have:=c_pair r (.bool _) (nl_st _);omega
 | bring=>have:=c_pair r (.int _) (nl_st _);omega
 | leave=>
  cases r with
  | lst _ t=>
   have:=c_lv t
   have:=List.length_filterMap_le (lvI h) es
   rw [List.length_cons];omega
theorem d3_cells{H:Hp}{C:List Addr}{vs:List V}{l:List X3}(t:T3 H C vs l):C.length=2*l.length:=by
 induction t with
 | nil=>rfl
 | cons _ _ _ _ _ _ ih=>rw [List.length_cons,List.length_cons,List.length_cons,ih];omega
theorem srv_len:∀(q:List (Int×Int)) (t:TS),(srv q t).1.length<=q.length
 | [],_=>Nat.le_refl _
 | (h,n)::q,t=>by
  by_cases c:n<=t.free
  ·rw [srv_cons c,List.length_cons,List.length_cons]
   have:=srv_len q (outS ⟨t.free,t.held,q⟩ h n)
   omega
  ·rw [show srv ((h,n)::q) t=([],t) from if_neg c];simp
theorem sbt_len{s s':SS}{its:List (Int×Bool×Int)}(h:Sbt s its s'):its.length<=s.gets.length+s.puts.length:=by
 induction h with
 | done _=>simp
 | step e _ ih=>
  rcases stp_some e with ⟨_,a,b,_⟩ | ⟨_,a,b,_⟩
  ·have:=congrArg List.length a
   rw [List.length_cons] at this⊢
   rw [b] at ih;omega
  ·have:=congrArg List.length a
   rw [List.length_cons] at this⊢
   rw [b] at ih;omega
theorem sz_tk(n:Nat)(l:List (Int×Int)):∀x∈tkD l,Sz (n+1) x:=λx hx=>by
 obtain⟨p,_,rfl⟩:=List.mem_map.mp hx
 exact .tuple (by simp) λy hy=>by
  simp only [List.mem_cons,List.not_mem_nil,or_false] at hy
  rcases hy with rfl | rfl | rfl
  ·exact .int _
  ·exact .str _
  ·exact .int _
theorem sz_st(n:Nat)(l:List (Int×Bool×Int)):∀x∈stD l,Sz (n+1) x:=λx hx=>by
 obtain⟨p,_,rfl⟩:=List.mem_map.mp hx
 exact .tuple (by simp) λy hy=>by
  simp only [List.mem_cons,List.not_mem_nil,or_false] at hy
  rcases hy with rfl | rfl | rfl
  ·exact .int _
  ·exact .str _
  ·exact .int _
theorem sz_p2(n:Nat)(l:List (Int×Int)):∀x∈p2D l,Sz (n+1) x:=λx hx=>by
 obtain⟨p,_,rfl⟩:=List.mem_map.mp hx
 exact .tuple (by simp) λy hy=>by
  simp only [List.mem_cons,List.not_mem_nil,or_false] at hy
  rcases hy with rfl | rfl
  ·exact .int _
  ·exact .int _
theorem sz_d3(n:Nat){l:List X3}(b:∀x∈l,x.2.1.length<=200/\x.2.2.length<=200)(ln:l.length<=200):Sz (n+4) (.list (d3 l)):=by
 refine .list (by unfold d3;rw [List.length_map];omega) λy hy=>?_
 obtain⟨x,hx,rfl⟩:=List.mem_map.mp hy
 have bx:=b x hx
 exact .tuple (by simp) λy hy=>by
  simp only [List.mem_cons,List.not_mem_nil,or_false] at hy
  rcases hy with rfl | rfl | rfl
  ·exact .int _
  ·exact .list (by unfold p2D;rw [List.length_map];omega) (sz_p2 n _)
  ·exact .list (by unfold p2D;rw [List.length_map];omega) (sz_p2 n _)
theorem sz_pair(n:Nat){x:PyData}{l:List PyData}(hx:Sz (n+2) x)(hl:∀y∈l,Sz (n+1) y)(ln:l.length<=1000):Sz (n+3) (.tuple [x,.list l]):=.tuple (by simp) λy hy=>by
 simp only [List.mem_cons,List.not_mem_nil,or_false] at hy
 rcases hy with rfl | rfl
 ·exact hx
 ·exact .list ln hl
theorem Sz.up{n:Nat}{d:PyData}(h:Sz n d):Sz (n+1) d:=by
 induction h with
 | bool b=>exact .bool b
 | int b=>exact .int b
 | str b=>exact .str b
 | list l _ ih=>exact .list l ih
 | tuple l _ ih=>exact .tuple l ih
theorem Dd.sz{es es':List Ent}{ss ss':List EntS}{word nm:Str}{h n:Int}{d:PyData}(D:Dd es ss word nm h n es' ss' d)(b0:∀e∈es,e.t.que.length<=200)(l0:es.length<=200)(b1:∀e∈ss,e.s.gets.length<=200/\e.s.puts.length<=200):Sz 5 d:=by
 have gl:∀e∈es,∀n,(giveS e.t h n).1.length<=200:=λe he n=>Nat.le_trans (srv_len _ _) (b0 e he)
 cases D with
 | take=>exact .bool _
 | @give l1 l2 e e1 e2 e3=>
  exact(sz_pair 1 (.int _) (sz_tk 1 _) (by unfold tkD;rw [List.length_map];have:=gl e (by rw [e2];simp) n;omega)).up
 | @put l1 l2 e b its s' e1 e2 e3 pr=>
  have bx:=b1 e (by rw [e2];simp)
  refine(sz_pair 1 (.bool _) (sz_st 1 _) ?_).up
  unfold stD;rw [List.length_map]
  unfold PutR at pr
  split at pr
  ·rw [pr.2.1];simp
  ·have:=sbt_len pr.2;simp only at this;omega
 | @get l1 l2 e b its s' e1 e2 e3 pr=>
  have bx:=b1 e (by rw [e2];simp)
  refine(sz_pair 1 (.bool _) (sz_st 1 _) ?_).up
  unfold stD;rw [List.length_map]
  unfold GetR at pr
  split at pr
  ·rw [pr.2.1];simp
  ·have:=sbt_len pr.2;simp only at this;omega
 | @bring l1 l2 e its s' e1 e2 e3 pr=>
  have bx:=b1 e (by rw [e2];simp)
  refine(sz_pair 1 (.int _) (sz_st 1 _) ?_).up
  unfold stD;rw [List.length_map]
  have:=sbt_len pr;simp only at this;omega
 | leave e1=>
  refine .list (by unfold lvD;rw [List.length_map];have:=List.length_filterMap_le (lvI h) es;omega) λy hy=>?_
  obtain⟨x,hx,rfl⟩:=List.mem_map.mp hy
  obtain⟨e,he,ee⟩:=List.mem_filterMap.mp hx
  have lx:x.2.2.length<=200:=by
   unfold lvI at ee
   split at ee
   ·cases ee;exact gl e he _
   ·cases ee
  exact .tuple (by simp) λy hy=>by
   simp only [List.mem_cons,List.not_mem_nil,or_false] at hy
   rcases hy with rfl | rfl | rfl
   ·exact .str _
   ·exact .int _
   ·exact .list (by unfold tkD;rw [List.length_map];omega) (sz_tk 1 _)
theorem Dd.cd{es es':List Ent}{ss ss':List EntS}{word nm:Str}{h n:Int}{d:PyData}(D:Dd es ss word nm h n es' ss' d)(hn:∀e∈es,PyData.strOk e.name=true):PyData.canLay0 d=true/\PyData.depth d<=8:=by
 refine⟨sh_can (D.sh hn),?_⟩
 have b2:∀{x:PyData} {l:List PyData},PyData.depth x<=1->PyData.depthAll l<=5->PyData.depth (.tuple [x,.list l])<=8:=λ{x l} h2 h4=>by
  simp only [PyData.depth,PyData.depthAll]
  omega
 cases D with
 | take _ _ _=>simp [PyData.depth]
 | give _ _ _=>exact b2 (by simp [PyData.depth]) (Nat.le_trans (dep_tk _) (by decide))
 | put _ _ _ _=>exact b2 (by simp [PyData.depth]) (Nat.le_trans (dep_st _) (by decide))
 | get _ _ _ _=>exact b2 (by simp [PyData.depth]) (Nat.le_trans (dep_st _) (by decide))
 | bring _ _ _ _=>exact b2 (by simp [PyData.depth]) (Nat.le_trans (dep_st _) (by decide))
 | leave _=>
  have d:=dep_lv (es.filterMap (lvI h))
  simp only [PyData.depth]
  omega
def toldD(d:PyData)(l m:List X3):PyData:=.tuple [d,.list (d3 l),.list (d3 m)]
structure Tk(d:PyData):Prop where
 can:PyData.canLay0 d=true
 dep:PyData.depth d<=10
 sz:Sz 6 d
theorem tk_told{d:PyData}{l m:List X3}(c:PyData.canLay0 d=true/\PyData.depth d<=8)(z:Sz 5 d)(b:∀x∈l,x.2.1.length<=200/\x.2.2.length<=200)(ln:l.length<=200)(b':∀x∈m,x.2.1.length<=200/\x.2.2.length<=200)(ln':m.length<=200):Tk (toldD d l m):=by
 refine⟨?_,?_,?_⟩
 ·unfold toldD
  simp only [PyData.canLay0,PyData.canLayAll0,c.1,can_d3 l,can_d3 m,Bool.and_true]
 ·have d1:=dep_d3 l
  have d2:=dep_d3 m
  have:=c.2
  unfold toldD
  simp only [PyData.depth,PyData.depthAll]
  omega
 ·exact .tuple (by simp) λy hy=>by
   simp only [List.mem_cons,List.not_mem_nil,or_false] at hy
   rcases hy with rfl | rfl | rfl
   ·exact z
   ·exact(sz_d3 0 b ln).up
   ·exact(sz_d3 0 b' ln').up
theorem tk_all{ds:List PyData}(h:∀d∈ds,Tk d):PyData.canLayAll0 ds=true/\PyData.depthAll ds<=12:=by
 induction ds with
 | nil=>exact⟨rfl,by simp [PyData.depthAll]⟩
 | cons d ds ih=>
  obtain⟨i1,i2⟩:=ih λx hx=>h x (List.mem_cons_of_mem _ hx)
  have k:=h d List.mem_cons_self
  refine⟨by simp only [PyData.canLayAll0,k.can,i1,Bool.and_true],?_⟩
  have:=k.dep
  simp only [PyData.depthAll]
  omega
theorem tk_sh{ds:List PyData}(h:∀d∈ds,Tk d):SeqAt.shaped (.list ds)=true:=by
 obtain⟨i1,i2⟩:=tk_all h
 unfold SeqAt.shaped
 have e:PyData.canLay0 (.list ds)=true:=by simp only [PyData.canLay0,i1]
 rw [e,Bool.true_and,decide_eq_true_eq]
 simp only [PyData.depth]
 omega
end K21
namespace K21
open PySem L2
theorem cd_nD{pr:List (Str×Int)}(h:∀p∈pr,PyData.strOk p.1=true):PyData.canLayAll0 (nD pr)=true/\PyData.depthAll (nD pr)<=2:=by
 induction pr with
 | nil=>exact⟨rfl,by simp [nD,PyData.depthAll]⟩
 | cons p ps ih=>
  obtain⟨i1,i2⟩:=ih λx hx=>h x (List.mem_cons_of_mem _ hx)
  have h0:=h p List.mem_cons_self
  unfold nD at i1 i2⊢
  refine⟨?_,?_⟩
  ·simp only [List.map_cons,PyData.canLayAll0,PyData.canLay0,h0,Bool.and_true,Bool.true_and];exact i1
  ·simp only [List.map_cons,PyData.depthAll,PyData.depth] at i2⊢;omega
theorem cd_mD{pr:List (Str×Int×Int)}(h:∀p∈pr,PyData.strOk p.1=true):PyData.canLayAll0 (mD pr)=true/\PyData.depthAll (mD pr)<=2:=by
 induction pr with
 | nil=>exact⟨rfl,by simp [mD,PyData.depthAll]⟩
 | cons p ps ih=>
  obtain⟨i1,i2⟩:=ih λx hx=>h x (List.mem_cons_of_mem _ hx)
  have h0:=h p List.mem_cons_self
  unfold mD at i1 i2⊢
  refine⟨?_,?_⟩
  ·simp only [List.map_cons,PyData.canLayAll0,PyData.canLay0,h0,Bool.and_true,Bool.true_and];exact i1
  ·simp only [List.map_cons,PyData.depthAll,PyData.depth] at i2⊢;omega
def hdD(pr0:List (Str×Int))(pr1:List (Str×Int×Int)):PyData:=.tuple [.list (nD pr0),.list (mD pr1),.list [],.list [.tuple [.str "h",.list [],.list []]]]
theorem sh_hd{pr0:List (Str×Int)}{pr1:List (Str×Int×Int)}(b0:Pr0 pr0)(b1:Pr1 pr1):SeqAt.shaped (hdD pr0 pr1)=true:=by
 obtain⟨a1,a2⟩:=cd_nD (pr:=pr0) λp hp=>ok_T _ (b0.2.2 p hp).2.2
 obtain⟨c1,c2⟩:=cd_mD (pr:=pr1) λp hp=>ok_S _ (b1.2.2 p hp).2.2.2.2
 have w:PyData.strOk "h" =true:=by with_unfolding_all decide
 unfold SeqAt.shaped hdD
 have e:PyData.canLay0 (.tuple [.list (nD pr0),.list (mD pr1),.list [],.list [.tuple [.str "h",.list [],.list []]]])=true:=by
  simp only [PyData.canLay0,PyData.canLayAll0,a1,c1,w,Bool.and_true]
 rw [e,Bool.true_and,decide_eq_true_eq]
 simp only [PyData.depth,PyData.depthAll]
 omega
def fourL(ys0 ys1:List V)(t:Addr):List (List V):=[ys0,ys1,[],[.ref t]]
def HnP(H:Hp)(L:List (List V))(D:Addr)(i:Nat)(ys:List V)(σ1:St)(H':Hp):Prop:=∃(hs:List Addr) (v0:Option V),ys=hs.map V.ref/\All2 (λ(xs:List V) (h:Addr)=>hide D H' h=some (.lst xs)) (L.take i) hs/\(∀h∈hs,H h=none)/\σ1= [v0]
theorem go_make{CG CT CS:Addr}{H:Hp}{pp p0 p1:Addr}{ys0 ys1:List V}{pr0:List (Str×Int)}{pr1:List (Str×Int×Int)}{Kx:Addr->Hp->Prop}{E:XK}(PG:Prg H pp p0 p1 ys0 ys1 pr0 pr1)(b0:Pr0 pr0)(b1:Pr1 pr1)(q:∀g H' dt ds es ss,Same H H'->Gd CG CT CS H' g dt ds (adE es) (adS ss) pr0 pr1 es ss 0->es.map (λe=>(e.name,e.c,e.t))=pr0.map (λp=>(p.1,p.2,⟨p.2,[],[]⟩))->ss.map (λe=>(e.name,e.s))=pr1.map (λp=>(p.1,⟨p.2.1,p.2.2,[],[]⟩))->(∀c∈rg g dt ds (adE es) (adS ss),H c=none)->Kx g H'):
 ∀(g dx:Addr) (H1:Hp),H g=none->H dx=none->Same H H1->H1 g=some (HO.ins CG dx [])->H1 dx=some (HO.own g)->spGoodsI CG CT CS [V.ref g,V.ref pp] H1 (λv H2=>v=V.non/\Kx g H2) E:=by
 intro g dx H1 hg hdx s1 h1 h2
 obtain⟨⟨x2,x3,t⟩,y0,y1,pn,pm⟩:=PG.same s1
 refine⟨g,dx,pp,p0,p1,x2,x3,ys0,ys1,pr0,pr1,rfl,h1,t,y0,pn,⟨by have:=b0.1;omega,b0.2.1⟩,y1,pm,⟨by have:=b1.1;omega,b1.2.1⟩,λH5 dt ds es ss f5 G5 m0 m1 fr=>⟨rfl,?_⟩⟩
 refine q g H5 dt ds es ss (λc u hc=>f5 _ _ (ne_of_none hc hg) (s1 _ _ hc)) ⟨G5,⟨λe he=>?_,λe he=>?_⟩,?_,?_,rfl,rfl⟩ m0 m1 λc hc=>?_
 ·have:(e.name,e.c,e.t)∈pr0.map (λp=>(p.1,p.2,(⟨p.2,[],[]⟩:TS))):=by rw [<-m0];exact List.mem_map_of_mem (f:=λe:Ent=>(e.name,e.c,e.t)) he
  obtain⟨p,hp,z⟩:=List.mem_map.mp this
  have zt:e.t=⟨p.2,[],[]⟩:=(congrArg (λx=>x.2.2) z).symm
  rw [zt]
  exact⟨⟨λp hp=>absurd hp List.not_mem_nil,λp hp=>absurd hp List.not_mem_nil⟩,Nat.le_refl _⟩
 ·have:(e.name,e.s)∈pr1.map (λp=>(p.1,(⟨p.2.1,p.2.2,[],[]⟩:SS))):=by rw [<-m1];exact List.mem_map_of_mem (f:=λe:EntS=>(e.name,e.s)) he
  obtain⟨p,hp,z⟩:=List.mem_map.mp this
  have zt:e.s=⟨p.2.1,p.2.2,[],[]⟩:=(congrArg (λx=>x.2) z).symm
  rw [zt]
  exact⟨Nat.le_refl _,Nat.le_refl _⟩
 ·have:=congrArg (List.map (λx:Str×Int×TS=>(x.1,x.2.1))) m0
  rw [List.map_map,List.map_map] at this
  refine this.trans ?_
  show pr0.map (λp=>(p.1,p.2))=pr0
  simp
 ·have:=congrArg (List.map (λx:Str×SS=>(x.1,x.2.most))) m1
  rw [List.map_map,List.map_map] at this
  exact this
 ·unfold rg at hc
  rcases List.mem_cons.mp hc with rfl | hc
  ·exact hg
  ·exact s1.free (fr c hc)
theorem hld_begin{H:Hp}{hd:Addr}{pr0:List (Str×Int)}{pr1:List (Str×Int×Int)}{es:List Ent}{ss:List EntS}{ls:List LT}{ms:List LS}(b0:Pr0 pr0)(b1:Pr1 pr1)(m0:es.map (λe=>(e.name,e.c,e.t))=pr0.map (λp=>(p.1,p.2,⟨p.2,[],[]⟩)))(m1:ss.map (λe=>(e.name,e.s))=pr1.map (λp=>(p.1,⟨p.2.1,p.2.2,[],[]⟩)))(d:H hd=some (.dK (kvA (prL ls++prM ms))))(t:All2 (B0 H) pr0 ls)(s:All2 (B1 H) pr1 ms)(nd:(hd::(adL ls++adM ms)).Nodup):Hld H hd 0 es ss ls ms:=by
 have h0:∀{pr:List (Str×Int)} {ls:List LT},All2 (B0 H) pr ls->∀{es:List Ent},es.map (λe=>(e.name,e.c,e.t))=pr.map (λp=>(p.1,p.2,⟨p.2,[],[]⟩))->All2 (Tr H 0) es ls:=λt=>by
  induction t with
  | nil=>intro es h;cases es with | nil=>exact .nil | cons e es=>simp at h
  | @cons p l pr ls r _ ih=>
   intro es h
   cases es with
   | nil=>simp at h
   | cons e es=>
    rw [List.map_cons,List.map_cons] at h
    injection h with h1 h2
    have e1:e.name=p.1:=congrArg (λx:Str×Int×TS=>x.1) h1
    have e3:e.t=⟨p.2,[],[]⟩:=congrArg (λx:Str×Int×TS=>x.2.2) h1
    refine .cons ⟨e1.trans r.1.symm,?_,?_,?_⟩ (ih h2)
    ·rw [e3,r.2.1];exact r.2.2
    ·rw [e3,r.2.1]
     exact⟨λh=>rfl,λp hp=>absurd hp List.not_mem_nil,λp hp=>absurd hp List.not_mem_nil,λp hp=>absurd hp List.not_mem_nil⟩
    ·rw [e3,r.2.1];exact Nat.le_refl _
 have h1:∀{pr:List (Str×Int×Int)} {ls:List LS},All2 (B1 H) pr ls->(∀p∈pr,p.2.1<=p.2.2)->∀{es:List EntS},es.map (λe=>(e.name,e.s))=pr.map (λp=>(p.1,⟨p.2.1,p.2.2,[],[]⟩))->All2 (Sr H) es ls:=λt=>by
  induction t with
  | nil=>intro _ es h;cases es with | nil=>exact .nil | cons e es=>simp at h
  | @cons p l pr ls r _ ih=>
   intro le es h
   cases es with
   | nil=>simp at h
   | cons e es=>
    rw [List.map_cons,List.map_cons] at h
    injection h with h1 h2
    have e1:e.name=p.1:=congrArg (λx:Str×SS=>x.1) h1
    have e3:e.s=⟨p.2.1,p.2.2,[],[]⟩:=congrArg (λx:Str×SS=>x.2) h1
    refine .cons ⟨e1.trans r.1.symm,?_,?_⟩ (ih (λp hp=>le p (List.mem_cons_of_mem _ hp)) h2)
    ·rw [e3];exact r.2
    ·rw [e3];exact⟨le p List.mem_cons_self,λp hp=>absurd hp List.not_mem_nil⟩
 refine⟨d,h0 t m0,h1 s (λp hp=>(b1.2.2 p hp).2.1) m1,nd,?_⟩
 rw [List.map_append,nm0 t,nm1 s,List.nodup_append]
 refine⟨b0.2.1,b1.2.1,λx hx y hy e=>?_⟩
 obtain⟨p,hp,rfl⟩:=List.mem_map.mp hx
 obtain⟨r,hr,rfl⟩:=List.mem_map.mp hy
 exact nm_ne _ (b0.2.2 p hp).2.2 _ (b1.2.2 r hr).2.2.2.2 e
def Dj(A B:List Addr):Prop:=∀c∈A,c∉B
theorem Dj.new{H:Hp}{A B:List Addr}(n:∀c∈A,H c=none)(h:∀c∈B,∃u,H c=some u):Dj A B:=λc hc z=>by
 obtain⟨u,hu⟩:=h c z
 rw [n c hc] at hu;cases hu
end K21
namespace K21
open PySem L2
theorem tx_len{l:List X3}{ts:List TS}(t:TX l ts):(∀t∈ts,(t.held.map (·.1)).Nodup/\HsOk t/\t.que.length<=200)->(∀x∈l,x.2.1.length<=200/\x.2.2.length<=200)/\l.length=ts.length:=by
 induction t with
 | nil=>exact λ_=>⟨λx hx=>absurd hx List.not_mem_nil,rfl⟩
 | @cons x t l ts a b c _ ih=>
  intro k
  obtain⟨i1,i2⟩:=ih λt ht=>k t (List.mem_cons_of_mem _ ht)
  obtain⟨k1,k2,k3⟩:=k t List.mem_cons_self
  refine⟨λy hy=>?_,by rw [List.length_cons,List.length_cons,i2]⟩
  rcases List.mem_cons.mp hy with rfl | hy
  ·refine⟨?_,by rw [c];exact k3⟩
   rw [b.1.length_eq]
   have:=held_len k1 k2
   have:=List.length_filter_le (λp:Int×Int=>decide (0<p.2)) t.held
   omega
  ·exact i1 y hy
theorem cut_tail(xs:List V):∃j,cutV xs (some (-12)) none=xs.drop j:=by
 refine⟨HT.sIx xs.length 0 (some (-12)),?_⟩
 unfold cutV
 rw [HT.sIx_none]
 exact List.take_of_length_le (by rw [List.length_drop];exact Nat.le_refl _)
structure La(CG CT CS:Addr)(H:Hp)(dk s0 pp p0 p1 g dt ds hd td kp:Addr)(AE AS:List Addr)(ys0 ys1:List V)(pr0:List (Str×Int))(pr1:List (Str×Int×Int))(es:List Ent)(ss:List EntS)(ls:List LT)(ms:List LS)(tv kv:List V)(tds:List PyData)(TC KC:List Addr)(i:Nat):Prop where
 B:Bs H dk s0 pp p0 p1 ys0 ys1 pr0 pr1 (100+10*i)
 X:Gd CG CT CS H g dt ds AE AS pr0 pr1 es ss i
 Y:Hld H hd i es ss ls ms
 ht:H td=some (.lst tv)
 rt:RpCL H tv tds TC
 hk:H kp=some (.lst kv)
 rk:RpCL H kv tds KC
 lt:tv.length=i
 nT:TC.Nodup
 lT:TC.length<=40*i
 tk:∀d∈tds,Tk d
 d1:Dj (bsR dk s0 p0 p1) (rg g dt ds AE AS)
 d2:Dj (Hld.cells hd ls ms) (bsR dk s0 p0 p1)
 d3:Dj (Hld.cells hd ls ms) (rg g dt ds AE AS)
 d4:Dj [td,kp] (bsR dk s0 p0 p1)
 d5:Dj [td,kp] (rg g dt ds AE AS)
 d6:Dj [td,kp] (Hld.cells hd ls ms)
 d7:Dj (TC++KC) (bsR dk s0 p0 p1)
 d8:Dj (TC++KC) (rg g dt ds AE AS)
 d9:Dj (TC++KC) (Hld.cells hd ls ms)
 d0:Dj (TC++KC) [td,kp]
 nk:td≠kp
theorem La.same{CG CT CS:Addr}{H H':Hp}{dk s0 pp p0 p1 g dt ds hd td kp:Addr}{AE AS:List Addr}{ys0 ys1:List V}{pr0:List (Str×Int)}{pr1:List (Str×Int×Int)}{es:List Ent}{ss:List EntS}{ls:List LT}{ms:List LS}{tv kv:List V}{tds:List PyData}{TC KC:List Addr}{i:Nat}(s:Same H H')(L:La CG CT CS H dk s0 pp p0 p1 g dt ds hd td kp AE AS ys0 ys1 pr0 pr1 es ss ls ms tv kv tds TC KC i):La CG CT CS H' dk s0 pp p0 p1 g dt ds hd td kp AE AS ys0 ys1 pr0 pr1 es ss ls ms tv kv tds TC KC i:=
 {L with B:=L.B.same s,X:=L.X.same s,Y:=L.Y.same s,ht:=s _ _ L.ht,rt:=L.rt.same s,hk:=s _ _ L.hk,rk:=L.rk.same s}
def LzI(CG CT CS a dk s0 pp p0 p1 hdt g dt ds hd td kp:Addr)(AE AS:List Addr)(ys0 ys1:List V)(pr0:List (Str×Int))(pr1:List (Str×Int×Int))(ms:List LS)(i:Nat)(σ:St)(H:Hp):Prop:=∃(es:List Ent) (ss:List EntS) (ls:List LT) (tv kv:List V) (tds:List PyData) (TC KC:List Addr) (v8 v9 v10:Option V),σ= [some (.ref a),some (.ref dk),some (.ref pp),some (.ref hdt),some (.ref g),some (.ref hd),some (.ref td),some (.ref kp),v8,v9,v10]/\La CG CT CS H dk s0 pp p0 p1 g dt ds hd td kp AE AS ys0 ys1 pr0 pr1 es ss ls ms tv kv tds TC KC i
section
variable{P:Program}{w:World}{K:PySem.W.Frag}{mg:Str->Option Value}{base:Heap}
theorem ok_law{CG CT CS:Addr}{fa:Addr}{fd:FuncData}(F:Fun K "law" "law" s_law fa fd)(G__law_program:OkD P w K mg base 2 "_law_program" ["deck"] spPrg)(G_Goods:OkC P w K mg base 4 "Goods" CG ["self","program"] (spGoodsI CG CT CS))(G__law_begun:OkD P w K mg base 1 "_law_begun" ["program"] spBg)(G__law_seen:OkD P w K mg base 3 "_law_seen" ["goods","held","program"] (spSeen CG CT CS))(G__law_deed:OkD P w K mg base 2 "_law_deed" ["deck","program"] spDeed)(G__law_asked:OkD P w K mg base 5 "_law_asked" ["goods","deed"] (spAsk CG CT CS))(G__law_same:OkD P w K mg base 1 "_law_same" ["found","due"] spSame)(G__law_due:OkD P w K mg base 3 "_law_due" ["held","program","deed"] spDue)(G_Goods_tools:OkM P w K mg base 2 CG "tools" ["self"] (spTools CG CT))(G_Goods_stores:OkM P w K mg base 2 CG "stores" ["self"] (spStores CG CS))(G__law_copied:OkD P w K mg base 8 "_law_copied" ["thing"] (spCp 6))(G__law_own:OkD P w K mg base 10 "_law_own" ["told"] (spOwn 7))(hrange:mg "range" =none)(hlen:mg "len" =none)(hlist:mg "list" =none)(htuple:mg "tuple" =none):FnOk P w K mg base CX0 11 fa fd ["script"] (spLaw K):=by
 refine F.ok sc_law (λvs H Q E h=>?_) (λcdv A outer s H vs Q E hr h=>?_)
 ·obtain⟨a,ns,rfl,_⟩:=h;rfl
 obtain⟨a,ns,rfl,hS,h63,q⟩:=h
 have hu:=hu_of hr
 have hu64:=hr.units
 have big:100000<=sizeLine:=by unfold sizeLine;decide
 have q':=PLift.up q
 clear q
 refine⟨_,(pss_cons (ps_set (i:=1) sc_law.nd rfl (Or.inl rfl) (pe_lstG (pa_c (pe_slice sl_k (pv 0) po_none (po_some pe_int)) (pa_c pe_int pa_nil))))
 (pss_cons (ps_set (i:=2) sc_law.nd rfl (Or.inl rfl) (pe_def G__law_program hr rfl (pa_c (pv 1) pa_nil)))
 (pss_cons (ps_set (i:=3) sc_law.nd rfl (Or.inl rfl) (pe_cTy call_tupL rfl htuple (by decide +kernel) (pa_c (pe_compN (comp_scopeN 1 (N:=["part"]) (cap:=[]) rfl rfl rfl rfl (by decide +kernel) rfl rfl rfl) rfl (pi_tup (pv 2)) (λ_ _ _ _=>(pg_name (i:=0) (show List.Nodup (α:=Str) ["part"] by decide +kernel) rfl (Or.inl (lookup_relabel_local rfl)) (Or.inr (lookup_relabel_local rfl)))) (λ_ _ _ _=>pts_nil) (λ_ _ _ _=>(pe_cTy call_listG rfl hlist (by decide +kernel) (pa_c (pv 0) pa_nil)))) pa_nil)))
 (pss_cons (ps_set (i:=4) sc_law.nd rfl (Or.inl rfl) (pe_makeG G_Goods hr rfl (pa_c (pv 3) pa_nil)))
 (pss_cons (ps_set (i:=5) sc_law.nd rfl (Or.inl rfl) (pe_def G__law_begun hr rfl (pa_c (pv 2) pa_nil)))
 (pss_cons (ps_if (PW.pt (pw_or (pt_not (pt_val (pe_def G__law_seen hr rfl (pa_c (pv 4) (pa_c (pv 5) (pa_c (pv 2) pa_nil)))))) (pw_or1 (pt_cmpR (op_neD hu64) (pv 3) (pv 2) (nomark _)))))
 (pss_one (ps_ret pe_bl))
 pss_nil)
 (pss_cons (ps_expr (pe_bm0 PySem.F.plainAttrs_list PySem.F.slot_list_clear PySem.F.type_list_clear mt_clearG (pe_ix ix_g (pv 3) pe_int (λ_ _=>rfl))))
 (pss_cons (ps_expr (pe_bm0 PySem.F.plainAttrs_list PySem.F.slot_list_clear PySem.F.type_list_clear mt_clearG (pe_ix ix_g (pv 3) pe_int (λ_ _=>rfl))))
 (pss_cons (ps_set (i:=6) sc_law.nd rfl (Or.inl rfl) (pe_lstG pa_nil))
 (pss_cons (ps_set (i:=7) sc_law.nd rfl (Or.inl rfl) (pe_lstG pa_nil))
 (pss_cons (ps_for PassesOwn.never rfl (pi_range1 rfl hrange (pa_c (pe_cB call_len_seq rfl hlen PySem.boot_len (pa_c (pe_slice sl_k (pv 0) po_none (po_some pe_int)) pa_nil)) pa_nil)) (pg_name (i:=8) sc_law.nd rfl (Or.inl rfl))
 (pss_cons (ps_set (i:=9) sc_law.nd rfl (Or.inl rfl) (pe_def G__law_deed hr rfl (pa_c (pv 1) (pa_c (pv 2) pa_nil))))
 (pss_cons (ps_set (i:=10) sc_law.nd rfl (Or.inl rfl) (pe_def G__law_asked hr rfl (pa_c (pv 4) (pa_c (pv 9) pa_nil))))
 (pss_cons (ps_if (pt_not (pt_val (pe_def G__law_same hr rfl (pa_c (pv 10) (pa_c (pe_def G__law_due hr rfl (pa_c (pv 5) (pa_c (pv 2) (pa_c (pv 9) pa_nil)))) pa_nil)))))
 (pss_one (ps_ret pe_bl))
 pss_nil)
 (pss_cons (ps_expr (pe_appG (pv 6) (pe_tupG (pa_c (pv 10) (pa_c (pe_meth0G G_Goods_tools hr (pv 4)) (pa_c (pe_meth0G G_Goods_stores hr (pv 4)) pa_nil))))))
 (pss_cons (ps_expr (pe_appG (pv 7) (pe_def G__law_copied hr rfl (pa_c (pe_ix ix_g (pv 6) (pe_un un_neg pe_int) (λ_ _=>rfl)) pa_nil))))
 (pss_one (ps_if (pt_not (pt_val (pe_def G__law_seen hr rfl (pa_c (pv 4) (pa_c (pv 5) (pa_c (pv 2) pa_nil))))))
 (pss_one (ps_ret pe_bl))
 pss_nil))))))))
 (pss_one (ps_ret (pe_and (pe_cmpR (op_eqD hu64) (pv 6) (pv 7) (nomark _)) (pe_and (pe_def G__law_own hr rfl (pa_c (pe_slice sl_g (pv 6) (po_some (pe_un un_neg pe_int)) po_none) pa_nil)) (pe_one (pe_def G__law_seen hr rfl (pa_c (pv 4) (pa_c (pv 5) (pa_c (pv 2) pa_nil)))))))))))))))))))),?_⟩
 walk_at "rz"
 refine⟨a,_,rfl,hS,λs0 H1 hs0 g1 h1=>?_⟩
 walk_at "rz"
 intro dk H2 hdk g2 h2
 walk_at "rz"
 have ec:cutV (ns.map V.int) none (some 63)=ns.map V.int:=by
  unfold cutV HT.sIx
  simp only [List.length_map]
  rw [show min (Int.toNat 63) ns.length=ns.length by omega]
  simp
  exact List.take_of_length_le (by rw [List.length_map];exact Nat.le_refl _)
 rw [ec] at h1
 have D2:Dk H2 dk s0 0:=⟨ns,0,h2,g2 _ _ h1,⟨by decide,by decide⟩,h63⟩
 refine⟨dk,s0,0,rfl,D2,by decide,λH3 pp p0 p1 ys0 ys1 pr0 pr1 f3 D3 P3 b0 b1 hp0 hp1 P23=>?_⟩
 have B3:Bs H3 dk s0 pp p0 p1 ys0 ys1 pr0 pr1 100:=⟨D3,P3,b0,b1,D2.off hp0,D2.off hp1⟩
 obtain⟨c2,c3,t,u1,u2,tp3,k2,k3,kt,ku1,ku2⟩:=P23
 have l03:=P3.l0
 have l13:=P3.l1
 have pn3:=P3.n0
 have pm3:=P3.n1
 have ln0:=pn3.length
 have ln1:=pm3.length
 have lb0:=b0.1
 have lb1:=b1.1
 clear h1 h2 D3 P3
 walk_at "rz"
 refine tcomp_in ?_
 simp only [iTup]
 walk_at "rz"
 refine⟨⟨_,SqT.of tp3⟩,compJD_tup tp3 (by simp;omega) (HnP H3 (fourL ys0 ys1 t)) (λD' H' _ _ _=>⟨[],_,rfl,.nil,λh hh=>absurd hh List.not_mem_nil,rfl⟩) ?_ ?_⟩
 ·rintro D' i v ys σ1 H4 hx at1 ⟨hs,v0,rfl,al,fr,rfl⟩
  obtain⟨c,xs,rfl,ex,hc,lx⟩:∃c xs,v= .ref c/\(fourL ys0 ys1 t)[i]? =some xs/\H3 c=some (.lst xs)/\xs.length<=100:=by
   have i4:i<4:=(List.getElem?_eq_some_iff.mp hx).1
   match i,i4 with
   | 0,_=>cases hx;exact⟨_,_,rfl,rfl,l03,by omega⟩
   | 1,_=>cases hx;exact⟨_,_,rfl,rfl,l13,by omega⟩
   | 2,_=>cases hx;exact⟨_,_,rfl,rfl,k2,by simp⟩
   | 3,_=>cases hx;exact⟨_,_,rfl,rfl,k3,by simp⟩
  have hc4:=at1.same _ _ hc
  have lD:=at1.lst
  have at1':=PLift.up at1
  have ex':=PLift.up ex
  clear hx at1 ex hc tp3 l03 l13 k2 k3 kt ku1 ku2
  walk_at "rz"
  intro l H5 hl g5 h5
  have nl:l≠D':=(ne_of_none lD hl).symm
  refine at1'.down.put g5 λH6 mu=>⟨hs++[l],_,by rw [List.map_append];rfl,?_,λh hh=>?_,rfl⟩
  ·rw [take_snoc ex'.down]
   exact(al.imp λxs h _ r=>hide_of (hide_inv r).1 (mu.old (g5 _ _ (hide_inv r).2) (hide_inv r).1)).snoc (hide_of nl (mu.old h5 nl))
  ·rcases List.mem_append.mp hh with z | z
   ·exact fr h z
   ·rw [List.mem_singleton.mp z];exact at1'.down.same.free hl
 ·rintro D' ys σ1 H4 hD g4 hy hle ⟨hs,v0,rfl,al,fr,rfl⟩
  obtain⟨q0,q1,q2,q3,rfl,a0,a1,a2,a3⟩:∃q0 q1 q2 q3,hs= [q0,q1,q2,q3]/\H4 q0=some (.lst ys0)/\H4 q1=some (.lst ys1)/\H4 q2=some (.lst [])/\H4 q3=some (.lst [.ref t]):=by
   unfold fourL at al
   cases al with | cons r0 al=>
   cases al with | cons r1 al=>
   cases al with | cons r2 al=>
   cases al with | cons r3 al=>
   cases al
   exact⟨_,_,_,_,rfl,(hide_inv r0).2,(hide_inv r1).2,(hide_inv r2).2,(hide_inv r3).2⟩
  refine⟨D',rfl,_,trivial,hy,λht H5 hht g5 h5=>?_⟩
  have g35:=g4.trans g5
  have B5:=B3.same g35
  have PH5:Prg H5 ht q0 q1 ys0 ys1 pr0 pr1:=⟨⟨.ref q2,.ref q3,h5⟩,g5 _ _ a0,g5 _ _ a1,pn3.keep λ_ _ hc=>g35 _ _ hc,pm3.keep λ_ _ hc=>g35 _ _ hc⟩
  have h5':=PLift.up h5
  have fq0:H3 q0=none:=fr q0 (by simp)
  have fq1:H3 q1=none:=fr q1 (by simp)
  have rpP:PLift (∀{Hx:Hp},Same H3 Hx->Rp K Hx (.ref pp) (hdD pr0 pr1)):=⟨λ{Hx} g=>.tup (g _ _ tp3) (.cons (.lst (g _ _ l03) (PrN.rp (pn3.keep λ_ _ hc=>g _ _ hc))) (.cons (.lst (g _ _ l13) (PrM.rp (pm3.keep λ_ _ hc=>g _ _ hc))) (.cons (.lst (g _ _ k2) .nil) (.cons (.lst (g _ _ k3) (.cons (.tup (g _ _ kt) (.cons (.str _) (.cons (.lst (g _ _ ku1) .nil) (.cons (.lst (g _ _ ku2) .nil) .nil)))) .nil)) .nil))))⟩
  have rpH:PLift (∀{Hx:Hp},Same H5 Hx->Rp K Hx (.ref ht) (hdD pr0 pr1)):=⟨λ{Hx} g=>.tup (g _ _ h5) (.cons (.lst (g _ _ (g5 _ _ a0)) (PrN.rp (pn3.keep λ_ _ hc=>g _ _ (g35 _ _ hc)))) (.cons (.lst (g _ _ (g5 _ _ a1)) (PrM.rp (pm3.keep λ_ _ hc=>g _ _ (g35 _ _ hc)))) (.cons (.lst (g _ _ (g5 _ _ a2)) .nil) (.cons (.lst (g _ _ (g5 _ _ a3)) (.cons (.tup (g _ _ (g35 _ _ kt)) (.cons (.str _) (.cons (.lst (g _ _ (g35 _ _ ku1)) .nil) (.cons (.lst (g _ _ (g35 _ _ ku2)) .nil) .nil)))) .nil)) .nil))))⟩
  have a0':=PLift.up (g5 _ _ a0)
  have a1':=PLift.up (g5 _ _ a1)
  clear hy tp3 l03 l13 k2 k3 kt ku1 ku2 h5 a0 a1 a2 a3
  walk_at "rz"
  refine go_make PH5 b0 b1 λg H6 dt ds es ss g6 X6 m0 m1 n6=>?_
  have B6:=B5.same g6
  have PH6:=PH5.same g6
  walk_at "rz"
  refine⟨pp,p0,p1,ys0,ys1,pr0,pr1,rfl,B6.P,b0,b1,λhd H7 ls ms hhd g7 hd7 t7 s7 nd7 fr7=>?_⟩
  have Y7:=hld_begin b0 b1 m0 m1 hd7 t7 s7 nd7
  have X7:=X6.same g7
  have B7:=B6.same g7
  have g57:=g6.trans g7
  clear PH6 PH5
  walk_at "rz"
  refine⟨g,dt,ds,hd,pp,p0,p1,_,_,ys0,ys1,pr0,pr1,es,ss,ls,ms,0,0,rfl,X7,Y7,by omega,B7.P,b0,b1,λH8 g8=>?_⟩
  have g58:=g57.trans g8
  have h8:=g58 _ _ h5'.down
  have e0:=g58 _ _ a0'.down
  have e1:=g58 _ _ a1'.down
  have B8:=B7.same g8
  have X8:=X7.same g8
  have Y8:=Y7.same g8
  walk_at "rz"
  refine ne_same (rpH.down g58) (rpP.down (g35.trans g58)) (sh_hd b0 b1) ?_
  have in3:∀{c:Addr} {u:HO},H3 c=some u->c∉[q0,q1]:=λ{c u} hc z=>by
   rcases List.mem_cons.mp z with z | z
   ·rw [z,fq0] at hc;cases hc
   ·rw [List.mem_singleton.mp z,fq1] at hc;cases hc
  have offX:∀c∈rg g dt ds (adE es) (adS ss),c∉[q0,q1]:=λc hc z=>by
   have hn:=n6 c hc
   rcases List.mem_cons.mp z with z | z
   ·rw [z,a0'.down] at hn;cases hn
   ·rw [List.mem_singleton.mp z,a1'.down] at hn;cases hn
  have cn6:∀c∈Hld.cells hd ls ms,H6 c=none:=λc hc=>(List.mem_cons.mp hc).elim (λz=>by rw [z];exact hhd) (fr7 c)
  have offY:∀c∈Hld.cells hd ls ms,c∉[q0,q1]:=λc hc z=>by
   have hn:=cn6 c hc
   rcases List.mem_cons.mp z with z | z
   ·rw [z,g6 _ _ a0'.down] at hn;cases hn
   ·rw [List.mem_singleton.mp z,g6 _ _ a1'.down] at hn;cases hn
  have dBX:Dj (bsR dk s0 p0 p1) (rg g dt ds (adE es) (adS ss)):=(dj B5.has n6).1
  have dYB:Dj (Hld.cells hd ls ms) (bsR dk s0 p0 p1):=Dj.new cn6 B6.has
  have dYX:Dj (Hld.cells hd ls ms) (rg g dt ds (adE es) (adS ss)):=Dj.new cn6 X6.has
  walk_at "rz"
  refine⟨⟨_,SqL.of e0⟩,q0,ys0,rfl,rfl,e0,λH9 m9=>?_⟩
  have f9:FrG [q0,q1] H8 H9:=λc u nc hc=>m9.old hc (λz=>nc (by rw [z];simp))
  have k9:Kt H8 H9:=λc xs hc=>m9.old hc (λz=>by rw [z,e0] at hc;cases hc)
  have h9:=k9 _ _ h8
  obtain⟨z1,e9⟩:∃xs,H9 q1=some (.lst xs):=by
   by_cases z:q1=q0
   ·exact⟨_,by rw [z];exact m9.at_⟩
   ·exact⟨_,m9.old e1 z⟩
  clear h8 e0 e1 m9
  walk_at "rz"
  refine⟨⟨_,SqL.of e9⟩,q1,_,rfl,rfl,e9,λH10 m10=>?_⟩
  have f10:FrG [q0,q1] H8 H10:=λc u nc hc=>m10.old (f9 c u nc hc) (λz=>nc (by rw [z];simp))
  have k10:Kt H8 H10:=λc xs hc=>m10.old (k9 _ _ hc) (λz=>by have:=k9 _ _ hc;rw [z,e9] at this;cases this)
  have B10:=B8.fr f10 k10 λc hc=>by obtain⟨u,hu⟩:=B3.has c hc;exact in3 hu
  have X10:=X8.fr f10 k10 offX
  have Y10:=Y8.fr f10 k10 offY
  have S10:SqL K H10 a (ns.map V.int):=by
   have go:∀{u:HO},H a=some u->H10 a=some u:=λ{u} h=>by
    have nd:a∉[dk]:=λz=>by rw [<-List.mem_singleton.mp z,g1 _ _ h] at hdk;cases hdk
    have h3:=f3 a u nd (g2 _ _ (g1 _ _ h))
    exact f10 _ _ (in3 h3) (g58 _ _ (g35 _ _ h3))
   rcases hS with (h | ⟨o,h⟩) | h
   ·exact .inl (.inl (go h))
   ·exact .inl (.inr ⟨o,go h⟩)
   ·exact .inr h
  clear h9 e9 m10 B8 X8 Y8 B7 X7 Y7 B6 B5 B3
  walk_at "rz"
  intro td H11 htd g11 h11
  walk_at "rz"
  intro kp H12 hkp g12 h12
  have g1012:=g11.trans g12
  have fk:∀c∈[td,kp],H10 c=none:=λc hc=>by
   simp only [List.mem_cons,List.not_mem_nil,or_false] at hc
   rcases hc with rfl | rfl
   ·exact htd
   ·exact g11.free hkp
  have yex:∀c∈Hld.cells hd ls ms,∃u,H10 c=some u:=λc hc=>Option.ne_none_iff_exists'.mp (Y10.has c hc).1
  have L0:La CG CT CS H12 dk s0 pp p0 p1 g dt ds hd td kp (adE es) (adS ss) ys0 ys1 pr0 pr1 es ss ls ms [] [] [] [] [] 0:=⟨(B10.same g1012).mono (by omega),X10.same g1012,Y10.same g1012,g12 _ _ h11,.nil,h12,.nil,rfl,List.nodup_nil,Nat.le_refl _,λd hd=>absurd hd List.not_mem_nil,dBX,dYB,dYX,Dj.new fk B10.has,Dj.new fk X10.has,Dj.new fk yex,λc hc=>absurd hc List.not_mem_nil,λc hc=>absurd hc List.not_mem_nil,λc hc=>absurd hc List.not_mem_nil,λc hc=>absurd hc List.not_mem_nil,ne_of_none h11 hkp⟩
  have S12:SqL K H12 a (ns.map V.int):=by
   rcases S10 with (h | ⟨o,h⟩) | h
   ·exact .inl (.inl (g1012 _ _ h))
   ·exact .inl (.inr ⟨o,g1012 _ _ h⟩)
   ·exact .inr h
  clear h11 h12
  try walk_at "rz"
  refine tfor_in ?_
  simp only [iRng1]
  walk_at "rd"
  refine⟨a,_,rfl,S12,λp6 H13 hp6 g13 h13=>⟨p6,rfl,_,.inl (SqL.of h13),?_⟩⟩
  rw [ec,List.length_map,Int.toNat_natCast]
  have L13:=L0.same g13
  clear L0 h13
  refine⟨by omega,by omega,for_range (LzI CG CT CS a dk s0 pp p0 p1 ht g dt ds hd td kp (adE es) (adS ss) ys0 ys1 pr0 pr1 ms) ?_ ?_ ?_⟩
  ·exact⟨es,ss,ls,[],[],[],[],[],_,_,_,rfl,L13⟩
  ·rintro i σ H14 hi ⟨es7,ss7,ls7,tv,kv,tds,TC,KC,v8,v9,v10,rfl,L⟩
   walk_at "rz"
   refine go_drawn L.B (by omega) λH15 dp word nm h n f15 k15 B15 hdp dd=>?_
   have oX:∀c∈rg g dt ds (adE es) (adS ss),c∉[dk]:=λc hc z=>L.d1 dk (by simp [bsR]) (by rw [<-List.mem_singleton.mp z];exact hc)
   have dkB:dk∈bsR dk s0 p0 p1:=by simp [bsR]
   have X15:=L.X.fr f15 k15 oX
   have Y15:=L.Y.fr f15 k15 λc hc z=>L.d2 c hc (by rw [List.mem_singleton.mp z];exact dkB)
   have ht15:=f15 _ _ (λz=>L.d4 td (by simp) (by rw [List.mem_singleton.mp z];exact dkB)) L.ht
   have hk15:=f15 _ _ (λz=>L.d4 kp (by simp) (by rw [List.mem_singleton.mp z];exact dkB)) L.hk
   have rt15:=L.rt.fr f15 k15 λc hc z=>L.d7 c (List.mem_append_left _ hc) (by rw [List.mem_singleton.mp z];exact dkB)
   have rk15:=L.rk.fr f15 k15 λc hc z=>L.d7 c (List.mem_append_right _ hc) (by rw [List.mem_singleton.mp z];exact dkB)
   have inR:∀{c:Addr},c∈adE es++adS ss->c∈rg g dt ds (adE es) (adS ss):=λz=>List.mem_cons_of_mem _ (List.mem_cons_of_mem _ (List.mem_cons_of_mem _ z))
   have y15x:∀c∈Hld.cells hd ls7 ms,∃u,H15 c=some u:=λc hc=>Option.ne_none_iff_exists'.mp (Y15.has c hc).1
   try walk_at "rz"
   refine go_ask X15 b0 (by omega) hdp dd λH16 v es8 ss8 d C f16 k16 X16 rv nC fC DD=>?_
   have B16:=B15.fr f16 k16 λc hc z=>L.d1 c hc (inR z)
   have Y16:=Y15.fr f16 k16 λc hc z=>L.d3 c hc (inR z)
   have ht16:=f16 _ _ (λz=>L.d5 td (by simp) (inR z)) ht15
   have hk16:=f16 _ _ (λz=>L.d5 kp (by simp) (inR z)) hk15
   have rt16:=rt15.fr f16 k16 λc hc z=>L.d8 c (List.mem_append_left _ hc) (inR z)
   have rk16:=rk15.fr f16 k16 λc hc z=>L.d8 c (List.mem_append_right _ hc) (inR z)
   have hdp16:=k16 _ _ hdp
   try walk_at "rz"
   refine⟨hd,pp,p0,p1,dp,ys0,ys1,pr0,pr1,es7,ss7,ls7,ms,i,es8,ss8,d,word,nm,h,n,rfl,B16.P,b0.1,L.X.nm0,Y16,by omega,λz=>L.d2 p0 z (by simp [bsR]),hdp16,dd.1.2,dd.2.1,DD,λe he=>by have:=L.X.ok.st e he;omega,λH17 v2 ls8 f17 r2x Y17 C17=>?_⟩
   obtain⟨C2,r2⟩:=r2x
   have k17:=Y16.kt f17
   have B17:=B16.fr f17 k17 λc hc z=>L.d2 c z hc
   have X17:=X16.fr f17 k17 λc hc z=>L.d3 c z hc
   have dCY:Dj C (Hld.cells hd ls7 ms):=Dj.new fC y15x
   have rv17:=rv.fr f17 k17 dCY
   have ht17:=f17 _ _ (L.d6 td (by simp)) ht16
   have hk17:=f17 _ _ (L.d6 kp (by simp)) hk16
   have rt17:=rt16.fr f17 k17 λc hc=>L.d9 c (List.mem_append_left _ hc)
   have rk17:=rk16.fr f17 k17 λc hc=>L.d9 c (List.mem_append_right _ hc)
   have sok:∀e∈es7,PyData.strOk e.name=true:=λe he=>by
    have:e.name∈pr0.map (·.1):=by rw [<-L.X.nm0];exact List.mem_map_of_mem (f:=(·.name)) he
    obtain⟨p,hp,ep⟩:=List.mem_map.mp this
    rw [<-ep];exact ok_T _ (b0.2.2 p hp).2.2
   refine⟨v,v2,d,C,C2,rfl,rv17,r2,DD.knd,DD.sh sok,λH18 g18=>?_⟩
   obtain⟨⟨dx,hg17⟩,_⟩:=id X17.G
   have hg18:=g18 _ _ hg17
   walk_at "rz"
   refine⟨tv,g18 _ _ ht17,?_⟩
   have X18:=X17.same g18
   have B18:=B17.same g18
   have Y18:=Y17.same g18
   have ht18:=g18 _ _ ht17
   have hk18:=g18 _ _ hk17
   have rt18:=rt17.same g18
   have rk18:=rk17.same g18
   have rv18:=rv17.same g18
   simp only [List.set_cons_zero,List.set_cons_succ]
   walk_at "rz"
   refine go_tools X18 b0 λta H19 vt C1 l1 hta g19 hvt tt tx nC1 fC1=>?_
   have hg19:=g19 _ _ hg18
   walk_at "rz"
   refine go_stores (X18.same g19) b1 λtb H20 vl C2 htb g20 hvl tl3 nC2 fC2=>?_
   try walk_at "rz"
   intro t21 H21 ht21 g21 h21
   have g1821:=(g19.trans g20).trans g21
   have lt:=L.lt
   refine⟨tv,g1821 _ _ ht18,by omega,λH22 m22=>?_⟩
   have fN:∀c∈(ta::C1)++((tb::C2)++[]),H18 c=none:=λc hc=>by
    rw [List.append_nil] at hc
    rcases List.mem_append.mp hc with z | z
    ·exact(List.mem_cons.mp z).elim (λy=>by rw [y];exact hta) (fC1 c)
    ·exact g19.free ((List.mem_cons.mp z).elim (λy=>by rw [y];exact htb) (fC2 c))
   have exC:∀c∈C,∃u,H18 c=some u:=λc hc=>by obtain⟨xs,y⟩:=rv18.has c hc;exact⟨_,y⟩
   have exT:∀c∈TC++KC,∃u,H18 c=some u:=λc hc=>(List.mem_append.mp hc).elim (λz=>by obtain⟨xs,y⟩:=rt18.has c z;exact⟨_,y⟩) λz=>by obtain⟨xs,y⟩:=rk18.has c z;exact⟨_,y⟩
   have exT15:∀c∈TC++KC,∃u,H15 c=some u:=λc hc=>(List.mem_append.mp hc).elim (λz=>by obtain⟨xs,y⟩:=rt15.has c z;exact⟨_,y⟩) λz=>by obtain⟨xs,y⟩:=rk15.has c z;exact⟨_,y⟩
   have exY:∀c∈Hld.cells hd ls8 ms,∃u,H18 c=some u:=λc hc=>Option.ne_none_iff_exists'.mp (Y18.has c hc).1
   have exK:∀c∈[td,kp],∃u,H18 c=some u:=λc hc=>by
    simp only [List.mem_cons,List.not_mem_nil,or_false] at hc
    rcases hc with rfl | rfl
    ·exact⟨_,ht18⟩
    ·exact⟨_,hk18⟩
   have exK15:∀c∈[td,kp],∃u,H15 c=some u:=λc hc=>by
    simp only [List.mem_cons,List.not_mem_nil,or_false] at hc
    rcases hc with rfl | rfl
    ·exact⟨_,ht15⟩
    ·exact⟨_,hk15⟩
   have djN:∀{Z:List Addr},Dj C Z->(∀c∈Z,∃u,H18 c=some u)->Dj (C++((ta::C1)++((tb::C2)++[]))) Z:=λ{Z} h1 h2 c hc=>(List.mem_append.mp hc).elim (h1 c) (Dj.new fN h2 c)
   have dCY8:Dj C (Hld.cells hd ls8 ms):=λc hc z=>(C17.1 c z).elim (dCY c hc) λy=>by obtain⟨xs,w⟩:=rv.has c hc;rw [w] at y;cases y
   have yex16:∀{c:Addr},c∈Hld.cells hd ls8 ms->∀{u:HO},H16 c=some u->c∈Hld.cells hd ls7 ms:=λ{c} z {u} hc=>(C17.1 c z).elim id λy=>by rw [hc] at y;cases y
   have dNB:=djN (Dj.new fC B15.has) B18.has
   have dNX:=djN (Dj.new fC X15.has) X18.has
   have dNY:=djN dCY8 exY
   have dNK:=djN (Dj.new fC exK15) exK
   have dNT:=djN (Dj.new fC exT15) exT
   have nN:(C++((ta::C1)++((tb::C2)++[]))).Nodup:=by
    refine List.nodup_append.mpr ⟨nC,?_,λc hc e he z=>?_⟩
    ·rw [List.append_nil]
     refine List.nodup_append.mpr ⟨List.nodup_cons.mpr ⟨λz=>by obtain⟨xs,y⟩:=tt.has _ z;exact(hide_inv y).1 rfl,nC1⟩,List.nodup_cons.mpr ⟨λz=>by obtain⟨xs,y⟩:=tl3.has _ z;exact(hide_inv y).1 rfl,nC2⟩,λc hc e he z=>?_⟩
     have n19:H19 e=none:=(List.mem_cons.mp he).elim (λy=>by rw [y];exact htb) (fC2 e)
     rw [<-z] at n19
     rcases List.mem_cons.mp hc with y | y
     ·rw [y,hvt] at n19;cases n19
     ·obtain⟨xs,y⟩:=tt.has c y;rw [(hide_inv y).2] at n19;cases n19
    ·obtain⟨u,hu⟩:=exC c hc
     rw [z,fN e he] at hu;cases hu
   have r21:RpC H21 (.ref t21) (toldD d l1 ((ss8.map (·.s)).map s3)) (C++((ta::C1)++((tb::C2)++[]))):=.tup h21 (.cons (rv18.same g1821) (.cons (.lst (g21 _ _ (g20 _ _ hvt)) (tt.rc.same (hide_le.trans (g20.trans g21)))) (.cons (.lst (g21 _ _ hvl) (tl3.rc.same (hide_le.trans g21))) .nil)))
   have f22:FrG [td] H21 H22:=λc u nc hc=>m22.old hc (λz=>nc (by rw [z];simp))
   have ht21':=g1821 _ _ ht18
   have k22:Kt H21 H22:=λc xs hc=>m22.old hc (λz=>by rw [z,ht21'] at hc;cases hc)
   have inK:td∈[td,kp]:=by simp
   have r22:=r21.fr f22 k22 λc hc z=>dNK c hc (by rw [List.mem_singleton.mp z];exact inK)
   have h22:H22 td=some (.lst (tv++[.ref t21])):=m22.at_
   have le7:=L.X.le0 b0
   have le8:=X18.le0 b0
   have ls8':=X18.le1 b1
   have txl:=tx_len tx λt ht=>by
    obtain⟨e,he,rfl⟩:=List.mem_map.mp ht
    obtain⟨_,qs,_,_,_,_,x1,x2,x3⟩:=X18.G.2.2.2.1 e he
    exact⟨x1,x2,x3⟩
   have ll1:l1.length=es8.length:=by rw [txl.2,List.length_map]
   have stb:∀x∈(ss8.map (·.s)).map s3,x.2.1.length<=200/\x.2.2.length<=200:=λx hx=>by
    obtain⟨y,hy,rfl⟩:=List.mem_map.mp hx
    obtain⟨e,he,rfl⟩:=List.mem_map.mp hy
    have:=X18.ok.st e he
    exact⟨by show e.s.gets.length<=200;omega,by show e.s.puts.length<=200;omega⟩
   have tkN:Tk (toldD d l1 ((ss8.map (·.s)).map s3)):=tk_told (DD.cd sok) (DD.sz (λe he=>by have:=(L.X.ok.tk e he).2;omega) (by omega) λe he=>by have:=L.X.ok.st e he;exact⟨by omega,by omega⟩) txl.1 (by omega) stb (by rw [List.length_map,List.length_map];omega)
   have lC:=DD.cells rv
   have lC1:=d3_cells tt
   have lC2:=d3_cells tl3
   rw [List.length_map,List.length_map] at lC2
   have B22:=(B18.same g1821).fr f22 k22 λc hc z=>L.d4 td inK (by rw [<-List.mem_singleton.mp z];exact hc)
   have X22:=(X18.same g1821).fr f22 k22 λc hc z=>L.d5 td inK (by rw [<-List.mem_singleton.mp z];exact hc)
   have dKY8:Dj [td,kp] (Hld.cells hd ls8 ms):=λc hc z=>by
    have:∃u,H16 c=some u:=by
     simp only [List.mem_cons,List.not_mem_nil,or_false] at hc
     rcases hc with rfl | rfl
     ·exact⟨_,ht16⟩
     ·exact⟨_,hk16⟩
    obtain⟨u,hu⟩:=this
    exact L.d6 c hc (yex16 z hu)
   have dTY8:Dj (TC++KC) (Hld.cells hd ls8 ms):=λc hc z=>by
    have:∃u,H16 c=some u:=(List.mem_append.mp hc).elim (λz=>by obtain⟨xs,y⟩:=rt16.has c z;exact⟨_,y⟩) λz=>by obtain⟨xs,y⟩:=rk16.has c z;exact⟨_,y⟩
    obtain⟨u,hu⟩:=this
    exact L.d9 c hc (yex16 z hu)
   have dYB8:Dj (Hld.cells hd ls8 ms) (bsR dk s0 p0 p1):=λc z hc=>by
    obtain⟨u,hu⟩:=B16.has c hc
    exact L.d2 c (yex16 z hu) hc
   have dYX8:Dj (Hld.cells hd ls8 ms) (rg g dt ds (adE es) (adS ss)):=λc z hc=>by
    obtain⟨u,hu⟩:=X16.has c hc
    exact L.d3 c (yex16 z hu) hc
   have Y22:=(Y18.same g1821).fr f22 k22 λc hc z=>dKY8 td inK (by rw [<-List.mem_singleton.mp z];exact hc)
   have rt22:=(rt18.same g1821).fr f22 k22 λc hc z=>L.d0 c (List.mem_append_left _ hc) (by rw [List.mem_singleton.mp z];exact inK)
   have rk22:=(rk18.same g1821).fr f22 k22 λc hc z=>L.d0 c (List.mem_append_right _ hc) (by rw [List.mem_singleton.mp z];exact inK)
   have hk22:=m22.old (g1821 _ _ hk18) (Ne.symm L.nk)
   have lst22:atI (tv++[V.ref t21]) (-1)=some (.ref t21):=by
    have:=atI_last tv (.ref t21)
    exact this
   clear m22 hg17 hg18 hg19 hvt hvl h21 ht18 ht17 ht16 hk18 hk17 hk16 ht21'
   walk_at "rz"
   refine⟨.ref t21,_,_,rfl,r22,tkN.sz,λH23 v' C' g23 rc' fc'=>?_⟩
   have hk23:=g23 _ _ hk22
   have lkv:kv.length=i:=by
    have x1:=rt22.length
    have x2:=rk22.length
    omega
   refine⟨kv,hk23,by omega,λH24 m24=>?_⟩
   have f24:FrG [kp] H23 H24:=λc u nc hc=>m24.old hc (λz=>nc (by rw [z];simp))
   have k24:Kt H23 H24:=λc xs hc=>m24.old hc (λz=>by rw [z,hk23] at hc;cases hc)
   have inK2:kp∈[td,kp]:=by simp
   have exK22:∀c∈[td,kp],∃u,H22 c=some u:=λc hc=>by
    simp only [List.mem_cons,List.not_mem_nil,or_false] at hc
    rcases hc with rfl | rfl
    ·exact⟨_,h22⟩
    ·exact⟨_,hk22⟩
   have dC'K:Dj C' [td,kp]:=Dj.new fc' exK22
   have B24:=(B22.same g23).fr f24 k24 λc hc z=>L.d4 kp inK2 (by rw [<-List.mem_singleton.mp z];exact hc)
   have X24:=(X22.same g23).fr f24 k24 λc hc z=>L.d5 kp inK2 (by rw [<-List.mem_singleton.mp z];exact hc)
   have Y24:=(Y22.same g23).fr f24 k24 λc hc z=>dKY8 kp inK2 (by rw [<-List.mem_singleton.mp z];exact hc)
   have rt24:=(rt22.same g23).fr f24 k24 λc hc z=>L.d0 c (List.mem_append_left _ hc) (by rw [List.mem_singleton.mp z];exact inK2)
   have rk24:=(rk22.same g23).fr f24 k24 λc hc z=>L.d0 c (List.mem_append_right _ hc) (by rw [List.mem_singleton.mp z];exact inK2)
   have r24:=(r22.same g23).fr f24 k24 λc hc z=>dNK c hc (by rw [List.mem_singleton.mp z];exact inK2)
   have rc24:=rc'.fr f24 k24 λc hc z=>dC'K c hc (by rw [List.mem_singleton.mp z];exact inK2)
   have h24:=m24.old (g23 _ _ h22) L.nk
   have hk24:H24 kp=some (.lst (kv++[v'])):=m24.at_
   have exY22:∀c∈Hld.cells hd ls8 ms,∃u,H22 c=some u:=λc hc=>Option.ne_none_iff_exists'.mp (Y22.has c hc).1
   have four:∀{Z:List Addr},Dj (TC++KC) Z->Dj (C++((ta::C1)++((tb::C2)++[]))) Z->Dj C' Z->Dj ((TC++(C++((ta::C1)++((tb::C2)++[]))))++(KC++C')) Z:=λ{Z} z1 z2 z3 c hc=>by
    rcases List.mem_append.mp hc with y | y
    ·exact(List.mem_append.mp y).elim (λw=>z1 c (List.mem_append_left _ w)) (z2 c)
    ·exact(List.mem_append.mp y).elim (λw=>z1 c (List.mem_append_right _ w)) (z3 c)
   have LN:La CG CT CS H24 dk s0 pp p0 p1 g dt ds hd td kp (adE es) (adS ss) ys0 ys1 pr0 pr1 es8 ss8 ls8 ms (tv++[.ref t21]) (kv++[v']) (tds++[toldD d l1 ((ss8.map (·.s)).map s3)]) (TC++(C++((ta::C1)++((tb::C2)++[])))) (KC++C') (i+1):=
    ⟨B24.mono (by omega),X24,Y24,h24,rt24.snoc r24,hk24,rk24.snoc rc24,by rw [List.length_append,List.length_singleton];omega,List.nodup_append.mpr ⟨L.nT,nN,λc hc e he z=>dNT e he (by rw [<-z];exact List.mem_append_left _ hc)⟩,by
     have:=L.lT
     simp only [List.length_append,List.length_cons,List.length_nil]
     omega,λx hx=>(List.mem_append.mp hx).elim (L.tk x) λy=>by rw [List.mem_singleton.mp y];exact tkN,L.d1,dYB8,dYX8,L.d4,L.d5,dKY8,four L.d7 dNB (Dj.new fc' B22.has),four L.d8 dNX (Dj.new fc' X22.has),four dTY8 dNY (Dj.new fc' exY22),four L.d0 dNK dC'K,L.nk⟩
   clear h22 hk22 hk23 m24 lst22
   walk_at "rz"
   refine⟨g,dt,ds,hd,pp,p0,p1,_,_,ys0,ys1,pr0,pr1,es8,ss8,ls8,ms,i+1,i+1,rfl,X24,Y24,by omega,B24.P,b0,b1,λH25 g25=>?_⟩
   have fin:LzI CG CT CS a dk s0 pp p0 p1 ht g dt ds hd td kp (adE es) (adS ss) ys0 ys1 pr0 pr1 ms (i+1) [some (.ref a),some (.ref dk),some (.ref pp),some (.ref ht),some (.ref g),some (.ref hd),some (.ref td),some (.ref kp),some (.int (0+(i:Int))),some (.ref dp),some v] H25:=⟨es8,ss8,ls8,_,_,_,_,_,_,_,_,rfl,LN.same g25⟩
   walk_at "rz"
   try exact fin
  ·rintro σ H14 ⟨es7,ss7,ls7,tv,kv,tds,TC,KC,v8,v9,v10,rfl,L⟩
   have ht14:=L.ht
   have hk14:=L.hk
   have lt:=L.lt
   have ltd:=L.rt.length
   have lT:=L.lT
   walk_at "rz"
   refine eq_same (d:=.list tds) (.lst L.ht L.rt.rp) (.lst L.hk L.rk.rp) (tk_sh L.tk) ?_
   walk_at "rz"
   intro sl H15 hsl g15 h15
   obtain⟨j,ej⟩:=cut_tail tv
   rw [ej] at h15
   obtain⟨A,Bc,eT,rB⟩:=L.rt.drop j
   have inT:∀c∈Bc,c∈TC:=λc hc=>by rw [eT];exact List.mem_append_right _ hc
   have nB:Bc.Nodup:=by have:=L.nT;rw [eT,List.nodup_append] at this;exact this.2.1
   have lB:Bc.length<=TC.length:=by rw [eT,List.length_append];omega
   have nsl:sl∉Bc:=λz=>by obtain⟨xs,y⟩:=rB.has _ z;rw [hsl] at y;cases y
   have B15:=L.B.same g15
   have X15:=L.X.same g15
   have Y15:=L.Y.same g15
   try walk_at "rz"
   refine⟨sl,.list (tds.drop j),sl::Bc,rfl,.lst h15 (rB.same g15),.list (by rw [List.length_drop];omega) λx hx=>(L.tk x (List.mem_of_mem_drop hx)).sz,List.nodup_cons.mpr ⟨nsl,nB⟩,by rw [List.length_cons];omega,λH16 f16=>?_⟩
   have k16:Kt H15 H16:=λc xs hc=>f16 c _ (λz=>by
    rcases List.mem_cons.mp z with z | z
    ·rw [z,h15] at hc;cases hc
    ·obtain⟨ys,y⟩:=rB.has c z;rw [g15 _ _ y] at hc;cases hc) hc
   have off:∀{Z:List Addr},Dj (TC++KC) Z->(∀c∈Z,∃u,H14 c=some u)->∀c∈Z,c∉sl::Bc:=λ{Z} z1 z2 c hc z=>by
    rcases List.mem_cons.mp z with y | y
    ·obtain⟨u,hu⟩:=z2 c hc
     rw [y,hsl] at hu;cases hu
    ·exact z1 c (List.mem_append_left _ (inT c y)) hc
   have B16:=B15.fr f16 k16 (off L.d7 L.B.has)
   have X16:=X15.fr f16 k16 (off L.d8 L.X.has)
   have Y16:=Y15.fr f16 k16 (off L.d9 λc hc=>Option.ne_none_iff_exists'.mp (L.Y.has c hc).1)
   clear ht14 hk14 h15
   walk_at "rz"
   refine⟨g,dt,ds,hd,pp,p0,p1,_,_,ys0,ys1,pr0,pr1,es7,ss7,ls7,ms,ns.length,ns.length,rfl,X16,Y16,by omega,B16.P,b0,b1,λH17 g17=>?_⟩
   exact q'.down H17
end
end K21
namespace K21
open PySem L2
def sees:List Nat:=[0,5,6,7,8,9,10,11,12,14,15,16,17,18,19,20,21,22,23,24,25,26,27,28,29]
noncomputable def see(p:Program)(K:PySem.W.Frag):=(sees.map λi=>HD.defLook K (p.main.body.getD i (.Pass ⟨0,0,0,0⟩)),HD.All [HD.isNo K "len",
 HD.isNo K "int",
 HD.isNo K "min",
 HD.isNo K "max",
 HD.isNo K "range",
 HD.isNo K "list",
 HD.isNo K "dict",
 HD.isNo K "sorted",
 HD.isNo K "sum",
 HD.isNo K "set",
 HD.isNo K "bool",
 HD.isNo K "tuple",
 HD.isNo K "isinstance",
 HD.isRef K "Tool",
 HD.clsLook K (HD.adr K "Tool") ["free","held","queue"],
 HD.isRef K "Store",
 HD.clsLook K (HD.adr K "Store") ["level","most","getters","putters"],
 HD.isRef K "Goods",
 HD.clsLook K (HD.adr K "Goods") ["by_tool","by_store"]],
 HD.metLook K (HD.adr K "Tool") "__init__" "Tool.__init__",
 HD.metLook K (HD.adr K "Store") "__init__" "Store.__init__",
 HD.metLook K (HD.adr K "Goods") "__init__" "Goods.__init__",
 HD.mthLook K (HD.adr K "Goods") "take" "Goods.take",
 HD.mthLook K (HD.adr K "Goods") "give" "Goods.give",
 HD.mthLook K (HD.adr K "Goods") "put" "Goods.put",
 HD.mthLook K (HD.adr K "Goods") "get" "Goods.get",
 HD.mthLook K (HD.adr K "Goods") "bring" "Goods.bring",
 HD.mthLook K (HD.adr K "Goods") "leave" "Goods.leave",
 HD.mthLook K (HD.adr K "Goods") "tools" "Goods.tools",
 HD.mthLook K (HD.adr K "Goods") "stores" "Goods.stores")
noncomputable def saw(p:Program)(w:World):=(sees.map λi=>HD.fnSaw (HD.defName (p.main.body.getD i (.Pass ⟨0,0,0,0⟩))) (HD.defName (p.main.body.getD i (.Pass ⟨0,0,0,0⟩))) (p.main.body.getD i (.Pass ⟨0,0,0,0⟩)),true,
 (HD.fnSaw "__init__" "Tool.__init__" (inClass (p.main.body.getD 2 (.Pass ⟨0,0,0,0⟩)) 0):HD.FnSeen),
 (HD.fnSaw "__init__" "Store.__init__" (inClass (p.main.body.getD 3 (.Pass ⟨0,0,0,0⟩)) 0):HD.FnSeen),
 (HD.fnSaw "__init__" "Goods.__init__" (inClass (p.main.body.getD 4 (.Pass ⟨0,0,0,0⟩)) 0):HD.FnSeen),
 (HD.fnSaw "take" "Goods.take" (inClass (p.main.body.getD 4 (.Pass ⟨0,0,0,0⟩)) 1):HD.FnSeen),
 (HD.fnSaw "give" "Goods.give" (inClass (p.main.body.getD 4 (.Pass ⟨0,0,0,0⟩)) 2):HD.FnSeen),
 (HD.fnSaw "put" "Goods.put" (inClass (p.main.body.getD 4 (.Pass ⟨0,0,0,0⟩)) 3):HD.FnSeen),
 (HD.fnSaw "get" "Goods.get" (inClass (p.main.body.getD 4 (.Pass ⟨0,0,0,0⟩)) 4):HD.FnSeen),
 (HD.fnSaw "bring" "Goods.bring" (inClass (p.main.body.getD 4 (.Pass ⟨0,0,0,0⟩)) 5):HD.FnSeen),
 (HD.fnSaw "leave" "Goods.leave" (inClass (p.main.body.getD 4 (.Pass ⟨0,0,0,0⟩)) 6):HD.FnSeen),
 (HD.fnSaw "tools" "Goods.tools" (inClass (p.main.body.getD 4 (.Pass ⟨0,0,0,0⟩)) 7):HD.FnSeen),
 (HD.fnSaw "stores" "Goods.stores" (inClass (p.main.body.getD 4 (.Pass ⟨0,0,0,0⟩)) 8):HD.FnSeen))
theorem all_mk{l:PySem.W.OpenLaw}{w:World}{K:PySem.W.Frag}{h:Heap}{mg:Str->Option Value}{fa:Addr}(S:see PySem.Challenge.pw_rerunyard_k21_whole_goods_by_the_words K=saw PySem.Challenge.pw_rerunyard_k21_whole_goods_by_the_words w)(X:K.In h)(G:h.Ns mainGlobals mg)(hfa:mg "law" =some (.ref fa)):
 ∃fd:FuncData,(∀(s:Shared) (v:Value),BindsTo s fd ⟨[v],[]⟩ [("script",v)])/\∀base:Heap,K.In base->base.Ns mainGlobals mg->FnOk l.prog w K mg base CX0 11 fa fd ["script"] (spLaw K):=by
 have E:=congrArg Prod.fst S
 have B:=congrArg (λx=>x.2.1) S
 have C0:=congrArg (λx=>x.2.2.1) S
 have C1:=congrArg (λx=>x.2.2.2.1) S
 have C2:=congrArg (λx=>x.2.2.2.2.1) S
 have C3:=congrArg (λx=>x.2.2.2.2.2.1) S
 have C4:=congrArg (λx=>x.2.2.2.2.2.2.1) S
 have C5:=congrArg (λx=>x.2.2.2.2.2.2.2.1) S
 have C6:=congrArg (λx=>x.2.2.2.2.2.2.2.2.1) S
 have C7:=congrArg (λx=>x.2.2.2.2.2.2.2.2.2.1) S
 have C8:=congrArg (λx=>x.2.2.2.2.2.2.2.2.2.2.1) S
 have C9:=congrArg (λx=>x.2.2.2.2.2.2.2.2.2.2.2.1) S
 have C10:=congrArg (λx=>x.2.2.2.2.2.2.2.2.2.2.2.2) S
 clear S
 obtain⟨e,E⟩:=HD.fst_of E
 have A__wall:DefAt K mg "_wall" s__wall ["k"]:=HD.defAt_of X G e rfl λ_ _ _ _ _ _ us hl=>L2.len1 us hl (λ_=>rfl)
 clear e
 obtain⟨e,E⟩:=HD.fst_of E
 have A_tools_of:DefAt K mg "tools_of" s_tools_of ["program"]:=HD.defAt_of X G e rfl λ_ _ _ _ _ _ us hl=>L2.len1 us hl (λ_=>rfl)
 clear e
 obtain⟨e,E⟩:=HD.fst_of E
 have A_stores_of:DefAt K mg "stores_of" s_stores_of ["program"]:=HD.defAt_of X G e rfl λ_ _ _ _ _ _ us hl=>L2.len1 us hl (λ_=>rfl)
 clear e
 obtain⟨e,E⟩:=HD.fst_of E
 have A_told_tool:DefAt K mg "told_tool" s_told_tool ["tool"]:=HD.defAt_of X G e rfl λ_ _ _ _ _ _ us hl=>L2.len1 us hl (λ_=>rfl)
 clear e
 obtain⟨e,E⟩:=HD.fst_of E
 have A_told_store:DefAt K mg "told_store" s_told_store ["store"]:=HD.defAt_of X G e rfl λ_ _ _ _ _ _ us hl=>L2.len1 us hl (λ_=>rfl)
 clear e
 obtain⟨e,E⟩:=HD.fst_of E
 have A_hand_out:DefAt K mg "hand_out" s_hand_out ["tool","hand","n"]:=HD.defAt_of X G e rfl λ_ _ _ _ _ _ us hl=>L2.len3 us hl (λ_ _ _=>rfl)
 clear e
 obtain⟨e,E⟩:=HD.fst_of E
 have A_hand_in:DefAt K mg "hand_in" s_hand_in ["tool","hand","n"]:=HD.defAt_of X G e rfl λ_ _ _ _ _ _ us hl=>L2.len3 us hl (λ_ _ _=>rfl)
 clear e
 obtain⟨e,E⟩:=HD.fst_of E
 have A_serve_takers:DefAt K mg "serve_takers" s_serve_takers ["tool"]:=HD.defAt_of X G e rfl λ_ _ _ _ _ _ us hl=>L2.len1 us hl (λ_=>rfl)
 clear e
 obtain⟨e,E⟩:=HD.fst_of E
 have A_serve_by_turns:DefAt K mg "serve_by_turns" s_serve_by_turns ["store"]:=HD.defAt_of X G e rfl λ_ _ _ _ _ _ us hl=>L2.len1 us hl (λ_=>rfl)
 clear e
 obtain⟨e,E⟩:=HD.fst_of E
 have A__law_next:DefAt K mg "_law_next" s__law_next ["deck"]:=HD.defAt_of X G e rfl λ_ _ _ _ _ _ us hl=>L2.len1 us hl (λ_=>rfl)
 clear e
 obtain⟨e,E⟩:=HD.fst_of E
 have A__law_program:DefAt K mg "_law_program" s__law_program ["deck"]:=HD.defAt_of X G e rfl λ_ _ _ _ _ _ us hl=>L2.len1 us hl (λ_=>rfl)
 clear e
 obtain⟨e,E⟩:=HD.fst_of E
 have A__law_begun:DefAt K mg "_law_begun" s__law_begun ["program"]:=HD.defAt_of X G e rfl λ_ _ _ _ _ _ us hl=>L2.len1 us hl (λ_=>rfl)
 clear e
 obtain⟨e,E⟩:=HD.fst_of E
 have A__law_had:DefAt K mg "_law_had" s__law_had ["tool","hand"]:=HD.defAt_of X G e rfl λ_ _ _ _ _ _ us hl=>L2.len2 us hl (λ_ _=>rfl)
 clear e
 obtain⟨e,E⟩:=HD.fst_of E
 have A__law_give:DefAt K mg "_law_give" s__law_give ["tool","hand","n"]:=HD.defAt_of X G e rfl λ_ _ _ _ _ _ us hl=>L2.len3 us hl (λ_ _ _=>rfl)
 clear e
 obtain⟨e,E⟩:=HD.fst_of E
 have A__law_serve:DefAt K mg "_law_serve" s__law_serve ["store"]:=HD.defAt_of X G e rfl λ_ _ _ _ _ _ us hl=>L2.len1 us hl (λ_=>rfl)
 clear e
 obtain⟨e,E⟩:=HD.fst_of E
 have A__law_stored:DefAt K mg "_law_stored" s__law_stored ["store","word","hand","n"]:=HD.defAt_of X G e rfl λ_ _ _ _ _ _ us hl=>L2.len4 us hl (λ_ _ _ _=>rfl)
 clear e
 obtain⟨e,E⟩:=HD.fst_of E
 have A__law_due:DefAt K mg "_law_due" s__law_due ["held","program","deed"]:=HD.defAt_of X G e rfl λ_ _ _ _ _ _ us hl=>L2.len3 us hl (λ_ _ _=>rfl)
 clear e
 obtain⟨e,E⟩:=HD.fst_of E
 have A__law_asked:DefAt K mg "_law_asked" s__law_asked ["goods","deed"]:=HD.defAt_of X G e rfl λ_ _ _ _ _ _ us hl=>L2.len2 us hl (λ_ _=>rfl)
 clear e
 obtain⟨e,E⟩:=HD.fst_of E
 have A__law_same:DefAt K mg "_law_same" s__law_same ["found","due"]:=HD.defAt_of X G e rfl λ_ _ _ _ _ _ us hl=>L2.len2 us hl (λ_ _=>rfl)
 clear e
 obtain⟨e,E⟩:=HD.fst_of E
 have A__law_seen:DefAt K mg "_law_seen" s__law_seen ["goods","held","program"]:=HD.defAt_of X G e rfl λ_ _ _ _ _ _ us hl=>L2.len3 us hl (λ_ _ _=>rfl)
 clear e
 obtain⟨e,E⟩:=HD.fst_of E
 have A__law_deed:DefAt K mg "_law_deed" s__law_deed ["deck","program"]:=HD.defAt_of X G e rfl λ_ _ _ _ _ _ us hl=>L2.len2 us hl (λ_ _=>rfl)
 clear e
 obtain⟨e,E⟩:=HD.fst_of E
 have A__law_copied:DefAt K mg "_law_copied" s__law_copied ["thing"]:=HD.defAt_of X G e rfl λ_ _ _ _ _ _ us hl=>L2.len1 us hl (λ_=>rfl)
 clear e
 obtain⟨e,E⟩:=HD.fst_of E
 have A__law_lists:DefAt K mg "_law_lists" s__law_lists ["thing"]:=HD.defAt_of X G e rfl λ_ _ _ _ _ _ us hl=>L2.len1 us hl (λ_=>rfl)
 clear e
 obtain⟨e,E⟩:=HD.fst_of E
 have A__law_own:DefAt K mg "_law_own" s__law_own ["told"]:=HD.defAt_of X G e rfl λ_ _ _ _ _ _ us hl=>L2.len1 us hl (λ_=>rfl)
 clear e
 obtain⟨e,E⟩:=HD.fst_of E
 obtain⟨fd,FL,hbi⟩:=HD.law_fun (st:=s_law) (x:="law") (y:="script") X G e rfl hfa λ_ _ _ _ _ _ s v=>.of_eq rfl
 clear e
 clear E
 obtain⟨b,B⟩:=HD.all_cons B
 have hlen:=HD.no_of X G b
 clear b
 obtain⟨b,B⟩:=HD.all_cons B
 have hint:=HD.no_of X G b
 clear b
 obtain⟨b,B⟩:=HD.all_cons B
 have hmin:=HD.no_of X G b
 clear b
 obtain⟨b,B⟩:=HD.all_cons B
 have hmax:=HD.no_of X G b
 clear b
 obtain⟨b,B⟩:=HD.all_cons B
 have hrange:=HD.no_of X G b
 clear b
 obtain⟨b,B⟩:=HD.all_cons B
 have hlist:=HD.no_of X G b
 clear b
 obtain⟨b,B⟩:=HD.all_cons B
 have hdict:=HD.no_of X G b
 clear b
 obtain⟨b,B⟩:=HD.all_cons B
 have hsorted:=HD.no_of X G b
 clear b
 obtain⟨b,B⟩:=HD.all_cons B
 have hsum:=HD.no_of X G b
 clear b
 obtain⟨b,B⟩:=HD.all_cons B
 have hset:=HD.no_of X G b
 clear b
 obtain⟨b,B⟩:=HD.all_cons B
 have hbool:=HD.no_of X G b
 clear b
 obtain⟨b,B⟩:=HD.all_cons B
 have htuple:=HD.no_of X G b
 clear b
 obtain⟨b,B⟩:=HD.all_cons B
 have hisinstance:=HD.no_of X G b
 clear b
 obtain⟨b,B⟩:=HD.all_cons B
 have a_Tool:=HD.ref_of b
 clear b
 obtain⟨b,B⟩:=HD.all_cons B
 obtain⟨CL_Tool,mk_Tool,kc_Tool,na_Tool⟩:=HD.cls_of b
 have N_Tool_free:NoAttr K (HD.adr K "Tool") "free":=na_Tool "free" (by simp)
 have N_Tool_held:NoAttr K (HD.adr K "Tool") "held":=na_Tool "held" (by simp)
 have N_Tool_queue:NoAttr K (HD.adr K "Tool") "queue":=na_Tool "queue" (by simp)
 clear b
 obtain⟨b,B⟩:=HD.all_cons B
 have a_Store:=HD.ref_of b
 clear b
 obtain⟨b,B⟩:=HD.all_cons B
 obtain⟨CL_Store,mk_Store,kc_Store,na_Store⟩:=HD.cls_of b
 have N_Store_level:NoAttr K (HD.adr K "Store") "level":=na_Store "level" (by simp)
 have N_Store_most:NoAttr K (HD.adr K "Store") "most":=na_Store "most" (by simp)
 have N_Store_getters:NoAttr K (HD.adr K "Store") "getters":=na_Store "getters" (by simp)
 have N_Store_putters:NoAttr K (HD.adr K "Store") "putters":=na_Store "putters" (by simp)
 clear b
 obtain⟨b,B⟩:=HD.all_cons B
 have a_Goods:=HD.ref_of b
 clear b
 obtain⟨b,B⟩:=HD.all_cons B
 obtain⟨CL_Goods,mk_Goods,kc_Goods,na_Goods⟩:=HD.cls_of b
 have N_Goods_by_tool:NoAttr K (HD.adr K "Goods") "by_tool":=na_Goods "by_tool" (by simp)
 have N_Goods_by_store:NoAttr K (HD.adr K "Goods") "by_store":=na_Goods "by_store" (by simp)
 clear b
 clear B
 have M_Tool:MakeAt K mg "Tool" (HD.adr K "Tool") "Tool.__init__" s_Tool___init__ ["self","count"]:=HD.make_of X G a_Tool mk_Tool kc_Tool C0 λ_ _ _ _ _ _ us hl=>L2.len2 us hl (λ_ _=>rfl)
 have M_Store:MakeAt K mg "Store" (HD.adr K "Store") "Store.__init__" s_Store___init__ ["self","level","most"]:=HD.make_of X G a_Store mk_Store kc_Store C1 λ_ _ _ _ _ _ us hl=>L2.len3 us hl (λ_ _ _=>rfl)
 have M_Goods:MakeAt K mg "Goods" (HD.adr K "Goods") "Goods.__init__" s_Goods___init__ ["self","program"]:=HD.make_of X G a_Goods mk_Goods kc_Goods C2 λ_ _ _ _ _ _ us hl=>L2.len2 us hl (λ_ _=>rfl)
 have M_Goods_take:MethAt K (HD.adr K "Goods") "take" "Goods.take" s_Goods_take ["self","hand","name","n"]:=HD.meth_of C3 λ_ _ _ _ _ _ us hl=>L2.len4 us hl (λ_ _ _ _=>rfl)
 have M_Goods_give:MethAt K (HD.adr K "Goods") "give" "Goods.give" s_Goods_give ["self","hand","name","n"]:=HD.meth_of C4 λ_ _ _ _ _ _ us hl=>L2.len4 us hl (λ_ _ _ _=>rfl)
 have M_Goods_put:MethAt K (HD.adr K "Goods") "put" "Goods.put" s_Goods_put ["self","hand","name","n"]:=HD.meth_of C5 λ_ _ _ _ _ _ us hl=>L2.len4 us hl (λ_ _ _ _=>rfl)
 have M_Goods_get:MethAt K (HD.adr K "Goods") "get" "Goods.get" s_Goods_get ["self","hand","name","n"]:=HD.meth_of C6 λ_ _ _ _ _ _ us hl=>L2.len4 us hl (λ_ _ _ _=>rfl)
 have M_Goods_bring:MethAt K (HD.adr K "Goods") "bring" "Goods.bring" s_Goods_bring ["self","name","n"]:=HD.meth_of C7 λ_ _ _ _ _ _ us hl=>L2.len3 us hl (λ_ _ _=>rfl)
 have M_Goods_leave:MethAt K (HD.adr K "Goods") "leave" "Goods.leave" s_Goods_leave ["self","hand"]:=HD.meth_of C8 λ_ _ _ _ _ _ us hl=>L2.len2 us hl (λ_ _=>rfl)
 have M_Goods_tools:MethAt K (HD.adr K "Goods") "tools" "Goods.tools" s_Goods_tools ["self"]:=HD.meth_of C9 λ_ _ _ _ _ _ us hl=>L2.len1 us hl (λ_=>rfl)
 have M_Goods_stores:MethAt K (HD.adr K "Goods") "stores" "Goods.stores" s_Goods_stores ["self"]:=HD.meth_of C10 λ_ _ _ _ _ _ us hl=>L2.len1 us hl (λ_=>rfl)
 refine⟨fd,hbi,λbase _ _=>?_⟩
 exact by
  have Gtl:=ok_Tool (P:=l.prog) (w:=w) (base:=base) M_Tool CL_Tool N_Tool_free N_Tool_held N_Tool_queue
  have Gsr:=ok_Store (P:=l.prog) (w:=w) (base:=base) M_Store CL_Store N_Store_level N_Store_most N_Store_getters N_Store_putters
  have Gto:=ok_toolsOf A_tools_of Gtl hdict
  have Gso:=ok_storesOf A_stores_of Gsr hdict
  have Ggo:=ok_Goods M_Goods CL_Goods N_Goods_by_tool N_Goods_by_store Gto Gso
  have Gout:=ok_out (P:=l.prog) (w:=w) (base:=base) A_hand_out CL_Tool N_Tool_free N_Tool_held
  have Gin:=ok_in A_hand_in Gout
  have Gsv:=ok_serve A_serve_takers CL_Tool N_Tool_free N_Tool_queue Gout
  have Gtu:=ok_turns (P:=l.prog) (w:=w) (base:=base) A_serve_by_turns CL_Store N_Store_level N_Store_most N_Store_getters N_Store_putters
  have Gtold:=ok_told (P:=l.prog) (w:=w) (base:=base) A_told_tool CL_Tool N_Tool_free N_Tool_held N_Tool_queue hsorted hlist
  have Gts:=ok_toldS (P:=l.prog) (w:=w) (base:=base) A_told_store CL_Store N_Store_level N_Store_getters N_Store_putters hlist
  have Mtk:=ok_take M_Goods_take CL_Goods N_Goods_by_tool CL_Tool N_Tool_free N_Tool_queue Gout
  have Mgv:=ok_give M_Goods_give CL_Goods N_Goods_by_tool CL_Tool N_Tool_held Gin Gsv hmin
  have Mpu:=ok_put M_Goods_put CL_Goods N_Goods_by_store CL_Store N_Store_level N_Store_most N_Store_putters Gtu
  have Mge:=ok_get M_Goods_get CL_Goods N_Goods_by_store CL_Store N_Store_level N_Store_getters Gtu
  have Mbr:=ok_bring M_Goods_bring CL_Goods N_Goods_by_store CL_Store N_Store_level N_Store_most Gtu hmin hmax
  have Mlv:=ok_leave (CS:=(HD.adr K "Store")) M_Goods_leave CL_Goods N_Goods_by_tool CL_Tool N_Tool_held Mgv hlist
  have Mto:=ok_tools M_Goods_tools CL_Goods N_Goods_by_tool Gtold
  have Mst:=ok_stores M_Goods_stores CL_Goods N_Goods_by_store Gts
  have Gnx:=ok_nx (P:=l.prog) (w:=w) (base:=base) A__law_next hlen hmax hmin hrange
  have Gpg:=ok_prg A__law_program Gnx hrange
  have Gde:=ok_deed A__law_deed Gnx hlen hmax hint
  have Gas:=ok_ask A__law_asked Mtk Mgv Mpu Mge Mbr Mlv
  have Ghad:=ok_had (P:=l.prog) (w:=w) (base:=base) A__law_had hsum
  have Ggv:=ok_gv A__law_give Ghad hmin hint
  have Gse:=ok_sv (P:=l.prog) (w:=w) (base:=base) A__law_serve
  have Gst:=ok_st A__law_stored Gse hmin hint
  have Gdu:=ok_due A__law_due Ghad Ggv Gst
  have Gbg:=ok_bg (P:=l.prog) (w:=w) (base:=base) A__law_begun
  have Gsm:=ok_same (P:=l.prog) (w:=w) (base:=base) A__law_same hisinstance hbool hlist htuple
  have Gsn:=ok_seen A__law_seen Ghad Mto Mst hsorted hset hisinstance hlist
  have Gcp:=ok_cp (P:=l.prog) (w:=w) (base:=base) A__law_copied hisinstance hlist htuple 6
  have Gls:=ok_ls (P:=l.prog) (w:=w) (base:=base) A__law_lists hisinstance hlist htuple 7
  have Gow:=ok_own A__law_own Gls hlen
  exact ok_law FL Gpg Ggo Gbg Gsn Gde Gas Gsm Gdu Mto Mst Gcp Gow hrange hlen hlist htuple
theorem said_of(h:PySem.Challenge.rw_rerunyard_k21_whole_goods_by_the_words.row.wellSaid=true->PySem.Challenge.rw_rerunyard_k21_whole_goods_by_the_words.row.Holds):PySem.Challenge.rw_rerunyard_k21_whole_goods_by_the_words.Holds:=by
 open PySem.W in o_law
 exact h (by assumption)
abbrev Runs(p:Program)(w:World):Prop:=∀os:OsState,HD.runQ p w 200 (HD.lookK p (PySem.W.view p [29]) (HD.ofOthers p "law") (λ_=>true) (see p) w) 40 (HD.begin0 w os) (PySem.W.topStub p)=some (true,PySem.W.openGood (PySem.W.view p [29]) (HD.ofOthers p "law"),saw p w)
theorem run_f(w:World):Runs PySem.W.Fast.tw2317658602816312986 (w.withFollow "special-get-raises" false):=λos=>by kernel_rfl
theorem run_t(w:World):Runs PySem.W.Fast.tw2317658602816312986 (w.withFollow "special-get-raises" true):=λos=>by kernel_rfl
theorem runs(w:World):Runs PySem.Challenge.pw_rerunyard_k21_whole_goods_by_the_words w:=HD.turn_of (P:=λp=>Runs p w) PySem.W.Fast.te2317658602816312986 ((PySem.W.byRow2 "special-get-raises" (P:=λw=>Runs PySem.W.Fast.tw2317658602816312986 w) run_f run_t) w)
end K21
open PySem PySem.W PyProof.Rows
set_option maxRecDepth 100000 in
set_option maxHeartbeats 0 in
theorem PySem.Challenge.cw_rerunyard_k21_whole_goods_by_the_words_holds : PySem.Challenge.rw_rerunyard_k21_whole_goods_by_the_words.Holds := by
 refine K21.said_of λsaid=>?_
 refine HD.holds_see (l:=PySem.Challenge.rw_rerunyard_k21_whole_goods_by_the_words) (i:=29) (N:=8000) (m:=200) (n:=40) (see:=K21.see PySem.Challenge.pw_rerunyard_k21_whole_goods_by_the_words) (saw:=K21.saw PySem.Challenge.pw_rerunyard_k21_whole_goods_by_the_words) said rfl (λ_=>rfl) rfl rfl K21.runs (by rfl) (by rfl) (by rfl) (by decide +kernel) ⟨rfl,rfl,rfl,rfl,rfl,by decide +kernel⟩ ?hw ?hc
 case hw=>w_witness2
 case hc=>exact HD.walk_see (l:=PySem.Challenge.rw_rerunyard_k21_whole_goods_by_the_words) (n:=63) (k:=11) (x:="script") (CX:=L2.CX0) (sp:=L2.spLaw) rfl (by decide) rfl ⟨rfl,by decide,by decide⟩ (λw K mg fa h S X G hfa=>K21.all_mk S X G hfa) (λ_ _ a ns hl _ hS=>⟨a,ns,rfl,hS,hl,λ_=>rfl⟩) λ_ _ _ _ z=>z
#print axioms PySem.Challenge.cw_rerunyard_k21_whole_goods_by_the_words_holds
