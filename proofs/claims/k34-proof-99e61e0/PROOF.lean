import PyProof.Rows.All
import Wide.All
import OpenK.AllK
import Wide.FinOn
import Lean
import PyProof.EqAt
import PyProof.EqKinds
import PyProof.TupleCall
import PyProof.ExcAttrAll.ValueError
import PySem.Challenge.RW_rerunyard_k34_waits_and_queues_known
open PySem.W renaming Frag→MF,kitOne→No,SharedT→NG,findIn→NL,emptyDict→NT,instObj→N5,boot_heap→Oe,keepIn→Oq,plainGet→OK,typeIn→OT,lookIn→O0,hasDictIn→O7,looks_typeIn→Pz,looks_specialIn→PB,takerIn→PF,boot_drawn→PM,boot_toks→P4,mg_of→P6,plainOver→Qd,stepOk→Qm,isFn→Qo,fnOf→Qp,handedIn→Qr,topRun→QA,makesIn→QB,codeIn→QM,kitAny→QO,namesBound→QU,OpenLaw→Ra,kas_rev→Rb,kas_desc→Rc,absHeap→Rf,stepT→Rm,staticsOk→Ro,view→Rq,topStub→Rt
open PySem renaming wpAny_bind→Nj,Value→Nk,wpAny_pure→Nl,sizeLine→Nm,Shared→Nn,Program→Np,PyData→Nq,wpAny→Nr,starEach→Nt,World→Nu,wpAny_field→Nv,Around→Nw,mainGlobals→Ny,Spec→Nz,wpAny_holding→NA,wpAny_callSpecial?_slot→NB,wpAny_mono→NC,Builtin→ND,PassesOwn→NE,wpAny_call_entry→NF,Addr→NH,lookup_relabel_local→NI,wpAny_pyIter_tuple→NJ,wpAny_setField_rec→NK,wpAny_seqItems→NM,bootBuiltins→NN,compareOp→NO,wpAny_newObj_type→NS,attributeBase→NU,boot_len→NV,sysModules→NX,NameKind→NZ,foldedSetIterable→N3,keywordEach→N4,mem_of_lookup→N6,wpAny_truthy_bool→N8,wpAny_passesOwn→N9,wpAny_ite_false→Oa,wpAny_Call_method0_late→Oc,wpAny_attempt→Od,wpAny_Call_Name_kw→Og,tupleKind_room_in1→Oh,backTo→Oi,call_meetsIn→Oj,behindInMarks→Oo,evalArgs_none→Os,getMethod→Ou,backToKw→Ov,codeAny_builtin→Ow,Thread→OA,importedModules→OB,assignEach→OC,wpAny_rule→OD,wpAny_pyIter_list→OE,sliceBounds→OF,binaryOp→OH,wpAny_newTuple→OI,codeAny→OJ,IsPair→OL,wpAny_updateSeq_pair→OM,wpAny_newList→ON,typeLookup→OO,wpAny_execs_nil→OP,wpAny_of_eq→OR,Scope→OS,Paired→OV,wpAny_typeOf→OX,Keyword→OZ,tupleKind→O2,swapsWith→O3,rawInt→O4,call_meets→O5,wpAny_Call_method→O6,standAt→Pa,wpAny_standAt→Pb,sizeLine_eq→Pc,wpAny_onRaise→Pf,cStatics→Pg,wpAny_eqBool_int→Pl,stored_length_le→Pm,wpAny_isInstance→Pn,cLine→Po,letOwnedTupleGo→Pu,DictEntry→Pw,codeAny_mono→Px,treeTable→PD,Str→PK,callWith→PL,isSubtype_stop→PR,wpAny_ite_true→PU,getItem→PV,wpAny_letGo→PX,OsState→PY,pyNext→P0,FuncData→P1,GenState→P3,KeyKind→P5,builtinsNs→P7,BindsTo→P8,valueAt→P9,callerA→Qa,isInstance→Qc,seqIndex_neg→Qf,callType_new→Ql,Within→Qn,bindArgs→Qt,IsPart→Qu,seqIndex_of→Qw,Model→Qx,notedBy→Qz,wpAny_Name→QP,wpAny_call→QQ,closureFor→QS,call→Q8,isTrue→Rg,cellsFrom→Rh,seqIndex?→Rj,atKey→Rk,IsEnum→Rl,getAttr→Rs,bindL→Rx,bindC→Ry,IsZip→Rz
open PyProof.Rows renaming callWith_type1→NP,seqObj→NY,envOfC→N0,IntsAre→N7,pendingOf→Ol,wpS_bind→Op,listUpdate_at→Ox,SortKind→Oy,SortSt→Oz,slot_tuple_getitem→OG,seqEpoch_at→OQ,assignInOrder_cons→OW,wpS_pure→OY,reverseSlice'→Pe,AllBare→Pt,entry_list_sort→Py,slot_list_sort→PP,args_list_sort→PQ,sortedAll_old→P2,size_push'→Qb,sortedAll_at→Qg,plain_sorted→Qh,entry_sorted→Qi,args_sorted1→Qj,wpS_forRange→Qk,callWith_builtin1→Qq,kind_sorted→Qy,pairsOf_size→QN,Subscript_→QR,sortedHeap→QT,IsTup→Q9,wpS_get→Re,pairsOf→Rr,lt_int→Ru,Keyed→Rw
open PySem.F renaming plainAttrs_dict→NQ,plainAttrs_list→NR,slot_dict_get→NW,slot_dict_values→Ob,entry_dict_get→Of,slot_list_pop→Om,type_list_pop→On,args_dict_values_1→OU,entry_dict_values→O1,args_tuple_add_2→O8,type_dict_values→O9,entry_tuple_add→Ph,args_dict_get_2→Pi,args_dict_get_3→Pj,slot_dict_items→Pk,slot_tuple_add→Pq,slot_dict_pop→PH,type_dict_get→PJ
open PySem.AutoSeq1 renaming list_insert_list_int_val_1→Ps
open PySem.SeqAt renaming eqv_refl→PN
open PySem.W.Fast renaming te9446332074065402090→PZ
open PySem.Calls renaming call_function_entry→Qe
open PySem.StrLaws renaming seqIndex_nonneg→Qs
open PySem.EqNone renaming eq_none_none→QC,eq_none_bool→QD,eq_bool_none→QE,ne_none_none→QH,ne_none_bool→QI,ne_bool_none→QJ,eq_none_int→QV,eq_none_str→QW,eq_int_none→QX,eq_str_none→QZ,ne_none_int→Q2,ne_none_str→Q3,ne_int_none→Q4,ne_str_none→Q6
open PySem.EqMixed renaming eq_bool_str→QF,eq_str_bool→QG,ne_bool_str→QK,ne_str_bool→QL,eq_int_str→QY,eq_str_int→Q0,ne_int_str→Q5,ne_str_int→Q7
open PySem.W.Looks renaming here→Rv,now→RB
open PySem.Within renaming cons→RA
open List renaming any_cons→M7,append_assoc→LO,append_nil→LQ,cons_append→MP,cons_ne_nil→Mh,filterMap_cons→Me,filter_append→LZ,filter_cons_of_neg→LJ,filter_cons_of_pos→LP,flatMap_append→Mw,flatMap_cons→MT,forIn_cons→M4,forIn_nil→M8,getD_eq_getElem?_getD→Lv,getElem?_append_left→LY,getElem?_cons_succ→L6,getElem?_drop→Mo,getElem?_eq_getElem→Lo,getElem?_eq_none→Mi,getElem?_map→LF,getElem_zip→MZ,length_append→Lq,length_cons→Lw,length_drop→MO,length_map→Ln,length_nil→Mr,length_range'→Mb,length_replicate→Md,length_set→MD,length_singleton→LN,length_take→Ma,length_zip→MW,lookup_cons→Mj,map_append→Lx,map_congr_left→Mt,map_cons→Ls,map_drop→M6,map_map→LW,map_nil→Ni,map_set→Nh,map_take→M5,mem_append_left→LD,mem_append_right→Lu,mem_cons→Ms,mem_cons_of_mem→Lm,mem_cons_self→Ll,mem_map_of_mem→L3,mem_of_getElem?→LC,mem_singleton_self→LL,nodup_append→MJ,nodup_cons→LV,not_mem_nil→Lr,of_mem_zip→M3,pairwise_append→Ml,pairwise_cons→MB,pairwise_map→MR,pairwise_singleton→LU,range'_concat→MA,range'_succ→MN,range_succ→MV,size_toArray→LB,sum_append→MU,sum_cons→Mz,takeWhile_append_dropWhile→LM,take_of_length_le→LH
open PySem.W renaming callWith_K→ME,callWith_K0→MQ,cellsFrom_some→MX,kdl_call→Ng,kdl_dict→Nf,kia_tup→MM,kitx_dict→Nc,kitx_list→Nb,methodCall_KW→Mm,plainGet_of→MY
open PySem.W (kIn_of)
open Nat renaming eq_zero_or_pos→LR,le_add_right→Mx,le_of_ble_eq_true→Lz,le_of_eq→M0,le_succ→MS,lt_irrefl→L8,lt_of_le_of_lt→L7,lt_of_le_of_ne→Mv,lt_of_lt_of_le→Ly,lt_succ_of_lt→Mn,lt_succ_self→ML,lt_trans→Na,ne_of_gt→L5,ne_of_lt→LK,not_lt_zero→Mq,sub_self→MI,zero_le→Mf
open PySem.Heap renaming get?_push_ne→L9,get?_push_of_some→Lk,get?_push_size→Lp,lt_size→LG,size_push→LS,size_update→Mp
open Bool renaming and_eq_true→Mc,false_eq_true→MC
open Option renaming getD_none→Nd,isSome_map→M9,map_some→MK
open Int renaming emod_lt_of_pos→L4,emod_nonneg→Mg
theorem RC{c:Prop}{_:Decidable c}(h: ¬c){α}{t e:α}:ite c t e=e:=if_neg h
theorem RD{c:Prop}{_:Decidable c}(h:c){α}{t e:α}:ite c t e=t:=if_pos h
local macro_rules
| `(tactic|symm)=>`(tactic|walk_at "r2")
| `(tactic|decide)=>`(tactic|decide +kernel)
set_option genInjectivity false
set_option genSizeOf false
set_option Elab.async false
set_option linter.all false
set_option maxRecDepth 100000
namespace L2
open PySem PySem.Spec PyProof.Rows
abbrev Key:=Sum Int Str
def ib:Key->Nk->Bool
 | .inl k,v=>Nk.isInt k v
 | .inr x,v=>Nk.isStrOf x v
def qH(w:Nu):Key->Int
 | .inl k=>hashInt k
 | .inr x=>hashStr w x
theorem bA:∀{k:Key} {v:Nk},ib k v=true->(∃i t,k=Sum.inl i/\v=Nk.int i t)\/(∃x t,k=Sum.inr x/\v=Nk.str x t)
 | .inl i,v,h=>by
  obtain⟨t,e⟩:=Nk.isInt_shape h
  exact .inl ⟨i,t,rfl,e⟩
 | .inr x,v,h=>by
  obtain⟨t,e⟩:=Nk.isStrOf_shape h
  exact .inr ⟨x,t,rfl,e⟩
theorem wI(i:Int)(t:Tok):ib (.inl i) (.int i t)=true:=by simp [ib,Nk.isInt]
theorem wJ(x:Str)(t:Tok):ib (.inr x) (.str x t)=true:=by simp [ib,Nk.isStrOf]
theorem DH(a b:Int):decide ((Sum.inl a:Key)=Sum.inl b)=(a==b):=by
 by_cases e:a=b
 ·subst e;simp
 ·have h:¬(Sum.inl a:Key)=Sum.inl b:=λq=>e (Sum.inl.inj q)
  rw [decide_eq_false h]
  exact(beq_eq_false_iff_ne.mpr e).symm
theorem DI(a b:Str):decide ((Sum.inr a:Key)=Sum.inr b)=decide (a=b):=by simp_all
theorem DJ(a:Int)(b:Str):decide ((Sum.inl a:Key)=Sum.inr b)=false:=decide_eq_false (λq=>nomatch q)
theorem DK(a:Str)(b:Int):decide ((Sum.inr a:Key)=Sum.inl b)=false:=decide_eq_false (λq=>nomatch q)
def ay(prog:Np)(w:Nu):P5 prog w Key where
 is:=ib
 hash:=qH w
 inj:=λv a b ha hb=>by
  rcases bA ha with ⟨i,t,rfl,rfl⟩ | ⟨x,t,rfl,rfl⟩
  ·rcases bA hb with ⟨j,u,rfl,e⟩ | ⟨y,u,rfl,e⟩
   ·injection e with e1 _;rw [e1]
   ·exact nomatch e
  ·rcases bA hb with ⟨j,u,rfl,e⟩ | ⟨y,u,rfl,e⟩
   ·exact nomatch e
   ·injection e with e1 _;rw [e1]
 byValue := fun k v h => by
   rcases bA h with ⟨i,t,rfl,rfl⟩ | ⟨x,t,rfl,rfl⟩<;>rfl
 pyHash:=λhv h=>by
  rcases bA hv with ⟨i,t,rfl,rfl⟩ | ⟨x,t,rfl,rfl⟩
  ·exact wpAny_pyHash_int h
  ·exact wpAny_pyHash_str h
 eqBool:=λhu hv h=>by
  rcases bA hu with ⟨i,t,rfl,rfl⟩ | ⟨x,t,rfl,rfl⟩
  ·rcases bA hv with ⟨j,u,rfl,rfl⟩ | ⟨y,u,rfl,rfl⟩
   ·rw [DH] at h;exact Pl h
   ·rw [DJ] at h;exact SeqAt.EqAt.int_str i t y u _ _ _ _ h
  ·rcases bA hv with ⟨j,u,rfl,rfl⟩ | ⟨y,u,rfl,rfl⟩
   ·rw [DK] at h;exact SeqAt.EqAt.str_int x t j u _ _ _ _ h
   ·rw [DI] at h;exact wpAny_eqBool_str h
 «strs»:=λk x t v h=>by
  rcases bA h with ⟨i,u,rfl,e⟩ | ⟨y,u,rfl,e⟩
  ·exact nomatch e
  ·injection e with e1 _
   subst e1
   cases v<;>rfl
theorem sZ(prog:Np)(w:Nu)(i:Int)(t:Tok):(ay prog w).is (.inl i) (.int i t)=true:=wI i t
theorem tm(prog:Np)(w:Nu)(x:Str)(t:Tok):(ay prog w).is (.inr x) (.str x t)=true:=wJ x t
set_option genInjectivity true in
inductive V where
 | non | bl (b:Bool) | int (i:Int) | str (x:Str) | byt (b:Array UInt8) | flt (b:UInt64) | ref (a:Addr) | ty (n:String)
 deriving DecidableEq
def RelV:V->Nk->Prop
 | .non,u=>u=Nk.none
 | .bl b,u=>u=Nk.bool b
 | .int i,u=>∃t,u=Nk.int i t
 | .str x,u=>∃t,u=Nk.str x t
 | .byt b,u=>∃t,u=Nk.bytes b t
 | .flt b,u=>∃t,u=Nk.float b t
 | .ref a,u=>u=Nk.ref a
 | .ty n,u=>u=Nk.type n
abbrev Vals:List V->List Nk->Prop:=OV RelV
theorem Vals.length(r:Vals xs us):xs.length=us.length:=OV.length r
theorem Vals.get:∀{xs:List V} {us:List Nk} {i:Nat} {x:V},Vals xs us->xs[i]? =some x->∃u,us[i]? =some u/\RelV x u
 | _,_,_,_,.nil,e=>by simp at e
 | _,_,0,_,.cons r _,e=>by simp at e;subst e;exact⟨_,rfl,r⟩
 | _,_,i+1,x,.cons _ t,e=>by
  obtain⟨u,h1,h2⟩:=Vals.get (i:=i) t (by simpa using e)
  exact⟨u,by simpa using h1,h2⟩
theorem Vals.set(r:RelV x u):∀{xs:List V} {us:List Nk} (i:Nat),Vals xs us->Vals (xs.set i x) (us.set i u)
 | _,_,_,.nil=>.nil
 | _,_,0,.cons _ t=>.cons r t
 | _,_,i+1,.cons q t=>.cons q (Vals.set r i t)
theorem Vals.append:∀{xs ys:List V} {us ws:List Nk},Vals xs us->Vals ys ws->Vals (xs++ys) (us++ws):=by
 intro _ _ _ _ h s
 induction h with
 | nil=>exact s
 | cons r t ih=>exact .cons r ih
theorem Vals.take:∀{xs:List V} {us:List Nk} (n:Nat),Vals xs us->Vals (xs.take n) (us.take n)
 | _,_,0,_=>.nil
 | _,_,_+1,.nil=>.nil
 | _,_,n+1,.cons r t=>.cons r (Vals.take n t)
theorem Vals.drop:∀{xs:List V} {us:List Nk} (n:Nat),Vals xs us->Vals (xs.drop n) (us.drop n)
 | _,_,0,r=>r
 | _,_,_+1,.nil=>.nil
 | _,_,n+1,.cons _ t=>Vals.drop n t
def RelO:Option V->Option Nk->Prop
 | some v,some u=>RelV v u
 | none,none=>True
 | _,_=>False
def KV{κ:Type}:List (κ×V)->List (κ×Nk)->Prop:=OV λ(p:κ×V) (q:κ×Nk)=>p.1=q.1/\RelV p.2 q.2
def kV:Key->V
 | .inl i=>.int i
 | .inr x=>.str x
set_option genInjectivity true in
inductive HO where
 | lst (xs:List V)
 | tup (xs:List V)
 | dK (kvs:List (Key×V)) | dT (kvs:List (List Key×V))
 | set (S:Int->Bool) (n:Nat)
 | ins (C dx:Addr) (fs:List (Str×V))
 | own (x:Addr)
 | xd (fs:List (Str×V))
 | met (f x:Addr)
 | rng (lo hi:Int)
 | frz (o:Obj) (u:HO)
 | tbl (ps:Array Nk)
 | ext (φ:Heap->Prop)
abbrev Hp:=Addr->Option HO
def upd(H:Hp)(a:Addr)(o:HO):Hp:=λb=>if b=a then some o else H b
theorem aB:upd H a o a=some o:=by unfold upd;rw [RD rfl]
theorem aN(h:b≠a):upd H a o b=H b:=by unfold upd;rw [RC h]
theorem GK{H:Hp}(h:H a=some o)(h':H b=some u)(d:o≠u):a≠b:=by
 intro e;subst e;rw [h] at h';exact d (Option.some.inj h')
theorem aK{H:Hp}(h:H a=some o)(h':H b=none):a≠b:=by
 intro e;subst e;rw [h] at h';cases h'
section
variable(P:Np)(w:Nu)
def ObjOk(H:Hp)(h:Heap)(a:Addr):HO->Prop
 | .lst xs=>xs.length<=Nm/\∃(its:List Nk) (n:Nat),Vals xs its/\h.get? a=some {cls:=.type "list",data:=.seq its.toArray n}
 | .tup xs=>xs.length<=Nm/\∃its:List Nk,Vals xs its/\Q9 h a its.toArray
 | .dK kvs=>kvs.length<=Nm/\(a==NX)=false/\∃vs,KV kvs vs/\h.DictOf (ay P w) a vs
 | .dT kvs=>kvs.length<=Nm/\(a==NX)=false/\∃xs:List (List Key×Addr×Nk),
  OV (λ(p:List Key×V) (q:List Key×Addr×Nk)=>p.1=q.1/\H q.2.1=some (.tup (p.1.map kV))/\RelV p.2 q.2.2) kvs xs/\
  ∃o es ep,h.get? a=some o/\o.ExactDict/\o.data= .dict es ep/\es.toList=xs.map (entryOfKey (O2 (ay P w)))/\(xs.map (·.1)).Nodup
 | .set S n=>h.SetOf (intKind P w) a S n
 | .ins C dx fs=>H dx=some (.own a)/\fs.length<=1000/\dx≠a/\h.get? a=some (N5 C dx)/\
  ∃mA,h.Ns1 dx mA/\(∀f,RelO (fs.lookup f) (mA f))/\Qn mA (fs.map (·.1))
 | .own _=>∃o,h.get? a=some o
 | .xd fs=>∃mA,h.Ns1 a mA/\∀f,RelO (fs.lookup f) (mA f)
 | .rng lo hi=>∃t u v,h.get? a=some {cls:=.type "range",data:=.fields #[.int lo t,.int hi u,.int 1 v]}
 | .frz o u=>h.get? a=some o/\ObjOk H h a u
 | .tbl ps=>h.get? a=some {cls:=.none,data:=.fields ps}
 | .met f x=>h.get? a=some (PySem.W.methodObj (.ref f) (.ref x))
 | .ext φ=>φ h/\(∃o,h.get? a=some o)/\∀h1 h2:Heap,φ h1->(∀o,h1.get? a=some o->h2.get? a=some o)->φ h2
def HOk(H:Hp)(h:Heap):Prop:=∀a o,H a=some o->ObjOk P w H h a o
end
section
variable{P:Np}{w:Nu}{H H':Hp}{h h':Heap}{a:Addr}{o:HO}
theorem ObjOk.lt(x:ObjOk P w H h a o):a<h.objs.size:=by
 cases o with
 | lst xs=>obtain⟨_,_,_,_,e⟩:=x;exact LG e
 | tup xs=>obtain⟨_,_,_,p⟩:=x;exact p.lt
 | dK kvs=>obtain⟨_,_,_,_,o,_,_,e,_⟩:=x;exact LG e
 | dT kvs=>obtain⟨_,_,_,_,o,_,_,e,_⟩:=x;exact LG e
 | set S n=>obtain⟨o,_,_,_,e,_⟩:=x;exact LG e
 | ins C dx fs=>obtain⟨_,_,_,e,_⟩:=x;exact LG e
 | own y=>obtain⟨_,e⟩:=x;exact LG e
 | xd fs=>obtain⟨_,⟨_,_,_,e,_⟩,_⟩:=x;exact LG e
 | rng lo hi=>obtain⟨_,_,_,e⟩:=x;exact LG e
 | frz ob u=>obtain⟨e,_⟩:=x;exact LG e
 | tbl ps=>exact LG (x)
 | met f y=>exact LG (x)
 | ext φ=>obtain⟨_,⟨_,e⟩,_⟩:=x;exact LG e
theorem OV.mapP{α β:Type}{F G:α->β->Prop}:∀{l₁:List α} {l₂:List β},OV F l₁ l₂->(∀a b,F a b->G a b)->OV G l₁ l₂:=by
 intro _ _ h f
 induction h with
 | nil=>exact .nil
 | cons r t ih=>exact .cons (f _ _ r) ih
theorem ObjOk.stay(x:ObjOk P w H h a o)(k:∀b u,(b=a\/H b=some (.own a))->h.get? b=some u->h'.get? b=some u)
 (ho:∀b,H b=some (.own a)->H' b=some (.own a)) (ht:∀b xs,H b=some (.tup xs)->H' b=some (.tup xs)):ObjOk P w H' h' a o:=by
 induction o with
 | lst xs=>obtain⟨z,its,n,r,e⟩:=x;exact⟨z,its,n,r,k _ _ (.inl rfl) e⟩
 | tup xs=>obtain⟨z,its,r,ob,e,c⟩:=x;exact⟨z,its,r,ob,k _ _ (.inl rfl) e,c⟩
 | dK kvs=>obtain⟨z,y,vs,r,ob,es,ep,e,c⟩:=x;exact⟨z,y,vs,r,ob,es,ep,k _ _ (.inl rfl) e,c⟩
 | dT kvs=>
  obtain⟨z,y,xs,r,ob,es,ep,e,c⟩:=x
  exact⟨z,y,xs,OV.mapP r λp q z=>⟨z.1,ht _ _ z.2.1,z.2.2⟩,ob,es,ep,k _ _ (.inl rfl) e,c⟩
 | set S n=>obtain⟨ob,es,ep,t,e,c⟩:=x;exact⟨ob,es,ep,t,k _ _ (.inl rfl) e,c⟩
 | ins C dx fs=>
  obtain⟨d,z,ne,e,mA,⟨od,es,ep,e2,c⟩,r⟩:=x
  exact⟨ho _ d,z,ne,k _ _ (.inl rfl) e,mA,⟨od,es,ep,k _ _ (.inr d) e2,c⟩,r⟩
 | own y=>obtain⟨ob,e⟩:=x;exact⟨ob,k _ _ (.inl rfl) e⟩
 | xd fs=>obtain⟨mA,⟨od,es,ep,e,c⟩,r⟩:=x;exact⟨mA,⟨od,es,ep,k _ _ (.inl rfl) e,c⟩,r⟩
 | rng lo hi=>obtain⟨t,u,v,e⟩:=x;exact⟨t,u,v,k _ _ (.inl rfl) e⟩
 | frz ob u ih=>obtain⟨e,q⟩:=x;exact⟨k _ _ (.inl rfl) e,ih q⟩
 | tbl ps=>
  have e:h.get? a=some {cls:=.none,data:=.fields ps}:=x
  exact k a _ (.inl rfl) e
 | met f y=>
  have e:=x
  exact k a _ (.inl rfl) e
 | ext φ=>obtain⟨p,⟨o,e⟩,st⟩:=x;exact⟨st _ _ p λo q=>k _ _ (.inl rfl) q,⟨o,k _ _ (.inl rfl) e⟩,st⟩
theorem HOk.lt(x:HOk P w H h)(e:H a=some o):a<h.objs.size:=(x a o e).lt
theorem HOk.fresh(x:HOk P w H h)(e:h.objs.size<=a):H a=none:=by
 cases q:H a with
 | none=>rfl
 | some u=>exact absurd (Ly (x.lt q) e) (L8 _)
theorem HOk.kept(x:HOk P w H h)(k:∀b u,h.get? b=some u->h'.get? b=some u):HOk P w H h':=λa o e=>
 (x a o e).stay (λb u _ q=>k b u q) (λ_ q=>q) λ_ _ q=>q
theorem HOk.laid(x:HOk P w H h)(k:∀b u,h.get? b=some u->h'.get? b=some u)(hp:h.objs.size<=a)(new:ObjOk P w (upd H a o) h' a o):HOk P w (upd H a o) h':=λb u e=>by
 have hn:=x.fresh hp
 by_cases hb:b=a
 ·subst hb;rw [aB] at e;cases e;exact new
 ·rw [aN hb] at e
  exact(x b u e).stay (λc v _ q=>k c v q) (λc q=>by rw [aN (aK q hn)];exact q) λc xs q=>by rw [aN (aK q hn)];exact q
end
def Rd(H:Hp)(a:Addr)(u:HO):Prop:=H a=some u\/∃o,H a=some (.frz o u)
theorem Rd.of(h:H a=some u):Rd H a u:=.inl h
theorem Rd.ok(r:Rd H a u)(x:HOk P w H h):ObjOk P w H h a u:=by
 rcases r with r | ⟨o,r⟩
 ·exact x a u r
 ·obtain⟨_,q⟩:=x a _ r
  exact q
def Mut:Option HO->Prop
 | some (.lst _)=>True
 | some (.dK _)=>True
 | some (.dT _)=>True
 | some (.set _ _)=>True
 | some (.ins _ _ _)=>True
 | some (.ext _)=>True
 | _=>False
section
variable{P:Np}{w:Nu}{H:Hp}{h h':Heap}{x e:Addr}{o':HO}
theorem HOk.write(ok:HOk P w H h)(mu:Mut (H x))(he:e=x\/H e=some (.own x))(k:∀b u,b≠e->h.get? b=some u->h'.get? b=some u)(heo:∃u,h'.get? e=some u)
 (new:ObjOk P w (upd H x o') h' x o'):HOk P w (upd H x o') h':=λb u q=>by
 have nown:∀c y,H c=some (.own y)->c≠x:=λc y r z=>by subst z;rw [r] at mu;exact mu
 have ntup:∀c xs,H c=some (.tup xs)->c≠x:=λc xs r z=>by subst z;rw [r] at mu;exact mu
 by_cases hb:b=x
 ·subst hb;rw [aB] at q;cases q;exact new
 ·rw [aN hb] at q
  by_cases hbe:b=e
  ·have q':H b=some (.own x):=by
    rcases he with z | z
    ·exact absurd (hbe.trans z) hb
    ·rw [hbe];exact z
   rw [q] at q';cases q'
   obtain⟨v,hv⟩:=heo
   exact⟨v,by rw [hbe];exact hv⟩
  ·refine(ok b u q).stay (λc v hc r=>k c v ?_ r) (λc r=>by rw [aN (nown c b r)];exact r) λc xs r=>by rw [aN (ntup c xs r)];exact r
   rcases hc with rfl | hc
   ·exact hbe
   ·rintro rfl
    rcases he with z | z
    ·exact nown c b hc z
    ·grind
end
structure Un(fs ex:List Addr)(H H':Hp)(h h':Heap):Prop where
 keep:∀b o,h.get? b=some o->H b=none->b∉fs->b∉ex->h'.get? b=some o
 slot:∀b o,h.get? b=some o->H b=none->b∈fs->b∉ex->∃sl,h'.get? b=some {o with slots:=sl}
 free:∀b o,h.get? b=some o->H b=none->b∉ex->H' b=none
 there:∀b o,h.get? b=some o->b∉ex->∃o',h'.get? b=some o'
 tups:∀b xs,H b=some (.tup xs)->H' b=some (.tup xs)
 frzs:∀b o u,H b=some (.frz o u)->H' b=some (.frz o u)
 tbls:∀b ps,H b=some (.tbl ps)->∃more,H' b=some (.tbl (ps++more))
section
variable{fs fs' ex ex':List Addr}{H H1 H2:Hp}{h h1 h2 h':Heap}{a x e:Addr}{o:HO}
theorem Un.any(u:Un fs ex H H1 h h1)(q:h.get? b=some ob)(n:H b=none)(hx:b∉ex):∃sl,h1.get? b=some {ob with slots:=sl}:=by
 by_cases hb:b∈fs
 ·exact u.slot b ob q n hb hx
 ·exact⟨ob.slots,u.keep b ob q n hb hx⟩
theorem Un.kept(k:∀b u,h.get? b=some u->h'.get? b=some u):Un fs ex H H h h':=
 ⟨λb ob q _ _ _=>k b ob q,λb ob q _ _ _=>⟨ob.slots,k b ob q⟩,λ_ _ _ n _=>n,λb ob q _=>⟨ob,k b ob q⟩,λ_ _ q=>q,λ_ _ _ q=>q,λ_ ps q=>⟨#[],by rw [q];simp⟩⟩
theorem Un.refl:Un fs ex H H h h:=Un.kept λ_ _ q=>q
theorem Un.laid(k:∀b u,h.get? b=some u->h'.get? b=some u)(hp:h.objs.size<=a)(hn:H a=none):Un fs ex H (upd H a o) h h' where
 keep:=λb u q _ _ _=>k b u q
 slot:=λb u q _ _ _=>⟨u.slots,k b u q⟩
 free:=λb u q n _=>by rw [aN (LK (Ly (LG q) hp))];exact n
 there:=λb u q _=>⟨u,k b u q⟩
 tups:=λb xs q=>by rw [aN (aK q hn)];exact q
 frzs:=λb u xs q=>by rw [aN (aK q hn)];exact q
 tbls:=λb ps q=>⟨#[],by rw [aN (aK q hn),q];simp⟩
theorem Un.write(mu:Mut (H x))(he:e=x\/H e=some (.own x))(k:∀b u,b≠e->h.get? b=some u->h'.get? b=some u)(heo:∃u,h'.get? e=some u):Un fs ex H (upd H x o) h h':=by
 have hx:∀b,H b=none->b≠x:=λb n z=>by subst z;rw [n] at mu;exact mu
 have hb:∀b,H b=none->b≠e:=λb n z=>by
  subst z
  rcases he with r | r
  ·exact hx b n r
  ·grind
 have hm:∀b u,H b=some u->¬Mut (some u)->b≠x:=λb u q nm z=>by subst z;rw [q] at mu;exact nm mu
 refine⟨λb u q n _ _=>k b u (hb b n) q,λb u q n _ _=>⟨u.slots,k b u (hb b n) q⟩,λb u q n _=>by rw [aN (hx b n)];exact n,λb u q _=>?_,
  λb xs q=>by rw [aN (hm b _ q λz=>z)];exact q,λb u xs q=>by rw [aN (hm b _ q λz=>z)];exact q,λb ps q=>⟨#[],by rw [aN (hm b _ q λz=>z),q];simp⟩⟩
 by_cases hbe:b=e
 ·simp_all
 ·exact⟨u,k b u hbe q⟩
end
def trk(h:Heap)(H:Hp):List Addr:=(List.range h.objs.size).filter λa=>(H a).isSome
def jS(h:Heap)(H:Hp):Heap:=PySem.W.hideAll h (trk h H)
theorem wK(h:Heap)(H:Hp):(jS h H).objs.size=h.objs.size:=PySem.W.hideAll_size _ _
theorem yL(e:h.get? b=some o)(n:H b=none):(jS h H).get? b=some o:=
 PySem.W.hideAll_get _ e λhm=>by
  have q:=(List.mem_filter.mp hm).2
  rw [n] at q;simp at q
theorem BL(e:(jS h H).get? b=some o):h.get? b=some o/\H b=none:=by
 have e':=PySem.W.of_hideAll (trk h H) e
 refine⟨e',?_⟩
 cases q:H b with
 | none=>rfl
 | some x=>
  have hm:b∈trk h H:=List.mem_filter.mpr ⟨List.mem_range.mpr (LG e'),by simp [q]⟩
  have z:(jS h H).get? b=none:=PySem.W.hideAll_none (trk h H) hm
  rw [z] at e;cases e
def BM(g h:Heap)(L:Addr):List (Addr×Obj):=(List.range h.objs.size).filterMap λa=>if a=L\/(g.get? a).isSome=true then none else (h.get? a).map λo=>(a,o)
def rest(g h:Heap)(L d:Addr):List (Addr×Obj):=(BM g h L).filter λp=>decide (p.1≠d)
structure Mod(K:MF)(mg:Str->Option Nk)(base:Heap):Prop where
 kin:K.In base
 glob:base.Ns Ny mg
 blt:∃mb,base.Ns P7 mb/\∀x:Str,x≠"__name__"->mb x=NN x
 nolimit:base.NoLimit
set_option genInjectivity true in
structure Cx where
 prog:Np
 w:Nu
 K:MF
 mg:Str->Option Nk
 base:Heap
 A:Nw
 N:List Str
 s₀:Nn
 H₀:Hp
 env:Env
 outer:List Env
 stack:List Env
 ex:List Addr
 fn:Str->Bool
 calm:Bool
 pn:List (Addr×Obj)
 xe:Nk->Nn->Prop
def frs(l:List Env):List Addr:=l.filterMap (·.frame)
abbrev Cx.fs(X:Cx):List Addr:=frs X.outer
def Vis(sc:OS)(x:Str):Prop:=sc.names.lookup x=some .local\/sc.names.lookup x=some .cell\/sc.names.lookup x=some .free
def Loc(sc:OS)(x:Str):Prop:=sc.names.lookup x=some .local\/sc.names.lookup x=some .cell
def HV(env:Env)(h:Heap)(m:Str->Option Nk)(x:Str)(u:Nk):Prop:=
 (env.kindOf x=some .local/\m x=some u)\/((env.kindOf x=some .cell\/env.kindOf x=some .free)/\∃c,env.cells.lookup x=some c/\h.IsCell c (some u))
structure Cx.Ok(X:Cx):Prop where
 mod:Mod X.K X.mg X.base
 kind:X.env.scope.kind= .function
 glob:X.env.globals=Ny
 blt:X.env.builtins=P7
 above:X.s₀.heap.objs.size<=X.env.locals
 inj:∀x y c,X.env.cells.lookup x=some c->X.env.cells.lookup y=some c->x=y
 has:∀x,(X.env.kindOf x=some .cell\/X.env.kindOf x=some .free)->∃c,X.env.cells.lookup x=some c
 cab:∀x c,X.fn x=true->X.env.cells.lookup x=some c->X.s₀.heap.objs.size<=c
 hd:X.calm=true->X.A.handled=none
 frames:X.A.frames=some X.stack
 stk:X.stack=X.outer\/(X.stack=X.env::X.outer/\X.env.frame=some X.env.locals)
 exf:∀b∈X.ex,b≠X.env.locals/\∀x c,X.env.cells.lookup x=some c->c≠b
 bs:∀b o,X.base.get? b=some o->X.s₀.heap.get? b=some o/\X.H₀ b=none
 bsz:X.base.objs.size<=X.s₀.heap.objs.size
 noex:∀b o,X.base.get? b=some o->b∉X.ex
 exfs:∀b∈X.ex,b∉X.fs
 funs:X.s₀.heap.FunFrames X.base X.outer
 frf:∀b∈X.fs,X.H₀ b=none
structure Inv(X:Cx)(RE:List (Addr×Obj))(σ:List (Option V))(H:Hp)(s:Nn):Prop where
 ok:X.Ok
 os:s.os=X.s₀.os
 bare:Pt s.gens
 base:Un X.fs X.ex X.H₀ H X.s₀.heap s.heap
 loc:∃m,s.heap.Ns X.env.locals m/\∀(i:Nat) (x:Str) (v:V),X.N[i]? =some x->σ[i]? =some (some v)->Vis X.env.scope x->∃u,RelV v u/\HV X.env s.heap m x u
 cell:∀x c,X.env.cells.lookup x=some c->∃v,s.heap.IsCell c v
 free:H X.env.locals=none
 freeC:∀x c,X.env.cells.lookup x=some c->H c=none
 pin:∀p∈X.pn++RE,s.heap.get? p.1=some p.2/\H p.1=none/\p.1≠X.env.locals/\p.1∉X.fs/\∀v,p.2.data≠.cell v
 hok:HOk X.prog X.w H s.heap
 len:σ.length=X.N.length
section
variable{X:Cx}{RE:List (Addr×Obj)}{σ:List (Option V)}{H H':Hp}{s:Nn}{h':Heap}
theorem Cx.Ok.nofr(ok:X.Ok)(e:X.base.get? b=some o):b∉X.fs:=λhb=>by
 have:=(ok.funs.mem hb).1
 rw [e] at this;cases this
theorem Inv.bs(I:Inv X RE σ H s):∀b o,X.base.get? b=some o->s.heap.get? b=some o/\H b=none:=λb o e=>
 ⟨I.base.keep b o (I.ok.bs b o e).1 (I.ok.bs b o e).2 (I.ok.nofr e) (I.ok.noex b o e),I.base.free b o (I.ok.bs b o e).1 (I.ok.bs b o e).2 (I.ok.noex b o e)⟩
theorem Inv.bk(I:Inv X RE σ H s):∀b o,X.base.get? b=some o->s.heap.get? b=some o:=λb o e=>(I.bs b o e).1
theorem Inv.mod(I:Inv X RE σ H s):Mod X.K X.mg X.base:=I.ok.mod
theorem Inv.kIn(I:Inv X RE σ H s):X.K.In s.heap:=I.ok.mod.kin.keeps I.bk
theorem Inv.lt(I:Inv X RE σ H s):X.env.locals<s.heap.objs.size:=let ⟨_,hn,_⟩:=I.loc;hn.lt
theorem Inv.sz(I:Inv X RE σ H s):X.s₀.heap.objs.size<=s.heap.objs.size:=Nat.le_trans I.ok.above (Nat.le_of_lt I.lt)
theorem Inv.nofs(I:Inv X RE σ H s){a:Addr}(h:s.heap.objs.size<=a):a∉X.fs:=λhb=>by
 obtain⟨_,o,ho,_⟩:=I.ok.funs.mem hb
 exact absurd (Ly (LG ho) (Nat.le_trans I.sz h)) (L8 _)
theorem Inv.cne(I:Inv X RE σ H s):∀x c,X.env.cells.lookup x=some c->c≠X.env.locals:=λx c e z=>by
 obtain⟨v,o,ho,hd⟩:=I.cell x c e
 obtain⟨m,⟨o',es,ep,ho',hd',_⟩,_⟩:=I.loc
 rw [z,ho'] at ho;cases ho;rw [hd'] at hd;cases hd
theorem Inv.funs(I:Inv X RE σ H s):s.heap.FunFrames X.base X.outer:=by
 have all:∀(l:List Env),(∀b∈frs l,b∈X.fs)->X.s₀.heap.FunFrames X.base l->s.heap.FunFrames X.base l:=by
  intro l
  induction l with
  | nil=>intro _ _;trivial
  | cons env r ih=>
   intro hs hl
   obtain⟨hk,⟨L,o,hf,hn,ho,hd⟩,hr⟩:=hl
   have hL:=hs L (by unfold frs;rw [Me,hf];exact Ll)
   obtain⟨sl,e⟩:=I.base.slot L o ho (I.ok.frf L hL) hL λz=>I.ok.exfs L z hL
   exact⟨hk,⟨L,_,hf,hn,e,hd⟩,ih (λb hb=>hs b (by unfold frs;rw [Me,hf];exact Lm _ hb)) hr⟩
 exact all X.outer (λ_ hb=>hb) I.ok.funs
theorem Inv.stack(I:Inv X RE σ H s):s.heap.FunFrames X.base X.stack:=by
 rcases I.ok.stk with e | ⟨e,hf⟩
 ·rw [e];exact I.funs
 ·rw [e]
  obtain⟨m,hn,_⟩:=I.loc
  refine .cons (by rw [I.ok.kind];decide) hf hn ?_ I.funs
  exact Heap.get?_none_of_le (Nat.le_trans I.ok.bsz I.ok.above)
theorem Inv.stkSub(I:Inv X RE σ H s):∀b∈frs X.stack,b∈X.env.locals::X.fs:=λb hb=>by
 rcases I.ok.stk with e | ⟨e,hf⟩
 ·rw [e] at hb;exact Lm _ hb
 ·rw [e] at hb
  unfold frs at hb
  rw [Me,hf] at hb
  exact hb
theorem Inv.stkFree(I:Inv X RE σ H s):∀b∈frs X.stack,H b=none:=λb hb=>by
 rcases List.mem_cons.mp (I.stkSub b hb) with e | hb
 ·rw [e];exact I.free
 ·obtain⟨_,o,ho,_⟩:=I.ok.funs.mem hb
  exact I.base.free b o ho (I.ok.frf b hb) λz=>I.ok.exfs b z hb
theorem Inv.step{ch:List Addr}(I:Inv X RE σ H s)
 (hch:∀b∈ch,(b∈X.ex\/X.s₀.heap.objs.size<=b)/\b≠X.env.locals/\(∀x c,X.env.cells.lookup x=some c->c≠b)/\∀p∈X.pn++RE,p.1≠b)
 (keep:∀b o,b≠X.env.locals->b∉X.fs->b∉ch->s.heap.get? b=some o->H b=none->h'.get? b=some o)
 (slot:∀b o,b≠X.env.locals->b∈X.fs->b∉ch->s.heap.get? b=some o->H b=none->∃sl,h'.get? b=some {o with slots:=sl}) (free:∀b o,b∉ch->s.heap.get? b=some o->H b=none->H' b=none)
 (there:∀b o,b∉ch->s.heap.get? b=some o->∃o',h'.get? b=some o')
 (tups:∀b xs,H b=some (.tup xs)->H' b=some (.tup xs)) (frzs:∀b o u,H b=some (.frz o u)->H' b=some (.frz o u)) (tbls:∀b ps,H b=some (.tbl ps)->∃more,H' b=some (.tbl (ps++more)))
 (ns:∀m,s.heap.Ns X.env.locals m->h'.Ns X.env.locals m) (hok:HOk X.prog X.w H' h') (hg:Pt g'):
 Inv X RE σ H' {s with heap:=h',gens:=g',drawn:=d',toks:=t'}:=by
 have neL:∀b o,X.s₀.heap.get? b=some o->b≠X.env.locals:=λb o e=>LK (Ly (LG e) I.ok.above)
 have neC:∀b o,X.s₀.heap.get? b=some o->b∉X.ex->b∉ch:=λb o e hx hb=>by
  rcases (hch b hb).1 with z | z
  ·exact hx z
  ·exact absurd (Ly (LG e) z) (L8 _)
 have cellK:∀x c,X.env.cells.lookup x=some c->∀v,s.heap.IsCell c v->h'.IsCell c v:=λx c e v ⟨o,ho,hd⟩=>by
  have nch:=λz=>(hch c z).2.2.1 x c e rfl
  by_cases hc:c∈X.fs
  ·obtain⟨sl,q⟩:=slot c o (I.cne x c e) hc nch ho (I.freeC x c e)
   exact⟨_,q,hd⟩
  ·exact⟨o,keep c o (I.cne x c e) hc nch ho (I.freeC x c e),hd⟩
 refine⟨I.ok,I.os,hg,⟨λb o e n hb hx=>?_,λb o e n hb hx=>?_,λb o e n hx=>?_,λb o e hx=>?_,λb xs e=>tups b xs (I.base.tups b xs e),λb o xs e=>frzs b o xs (I.base.frzs b o xs e),λb ps e=>?_⟩,?_,λx c e=>?_,?_,λx c e=>?_,λp hp=>?_,hok,I.len⟩
 ·exact keep b o (neL b o e) hb (neC b o e hx) (I.base.keep b o e n hb hx) (I.base.free b o e n hx)
 ·obtain⟨sl,e1⟩:=I.base.slot b o e n hb hx
  obtain⟨sl',e2⟩:=slot b _ (neL b o e) hb (neC b o e hx) e1 (I.base.free b o e n hx)
  exact⟨sl',e2⟩
 ·obtain⟨o',e1⟩:=I.base.there b o e hx
  exact free b o' (neC b o e hx) e1 (I.base.free b o e n hx)
 ·obtain⟨o',e1⟩:=I.base.there b o e hx
  exact there b o' (neC b o e hx) e1
 ·obtain⟨m1,e1⟩:=I.base.tbls b ps e
  obtain⟨m2,e2⟩:=tbls b _ e1
  exact⟨m1++m2,by rw [e2,Array.append_assoc]⟩
 ·obtain⟨m,hn,hl⟩:=I.loc
  refine⟨m,ns m hn,λi x v e1 e2 e3=>?_⟩
  obtain⟨u,r,l⟩:=hl i x v e1 e2 e3
  refine⟨u,r,?_⟩
  rcases l with l | ⟨k,c,e,z⟩
  ·exact .inl l
  ·exact .inr ⟨k,c,e,cellK x c e _ z⟩
 ·obtain⟨v,z⟩:=I.cell x c e
  exact⟨v,cellK x c e v z⟩
 ·obtain⟨m,⟨o,_,_,ho,_⟩,_⟩:=I.loc
  exact free _ o (λz=>(hch _ z).2.1 rfl) ho I.free
 ·obtain⟨v,o,ho,hd⟩:=I.cell x c e
  exact free c o (λz=>(hch c z).2.2.1 x c e rfl) ho (I.freeC x c e)
 ·obtain⟨e,n,ne,nf,d⟩:=I.pin p hp
  have nch:=λz=>(hch p.1 z).2.2.2 p hp rfl
  exact⟨keep p.1 p.2 ne nf nch e n,free p.1 p.2 nch e n,ne,nf,d⟩
theorem Inv.un(I:Inv X RE σ H s)(u:Un X.fs [] H H' s.heap h')(hok:HOk X.prog X.w H' h'):Inv X RE σ H' {s with heap:=h',toks:=t'}:=by
 obtain⟨m,⟨o,es,ep,ho,r⟩,_⟩:=id I.loc
 obtain⟨sl,hL⟩:=u.any ho I.free (by simp)
 exact I.step (ch:=[]) (λ_ z=>nomatch z) (λb o _ hb _ e n=>u.keep b o e n hb (by simp)) (λb o _ hb _ e n=>u.slot b o e n hb (by simp)) (λb o _ e n=>u.free b o e n (by simp)) (λb o _ e=>u.there b o e (by simp)) u.tups u.frzs u.tbls (λm' hm=>by
  obtain⟨o',es',ep',ho',r'⟩:=hm
  rw [ho] at ho';cases ho'
  exact⟨_,es',ep',hL,r'⟩) hok I.bare
theorem Inv.call(I:Inv X RE σ H s)(u:Un (frs X.stack) ch H H' s.heap h')(hok:HOk X.prog X.w H' h')(hg:Pt g')
 (hch:∀b∈ch,(b∈X.ex\/X.s₀.heap.objs.size<=b)/\b≠X.env.locals/\(∀x c,X.env.cells.lookup x=some c->c≠b)/\∀p∈X.pn++RE,p.1≠b):
 Inv X RE σ H' {s with heap:=h',gens:=g',drawn:=d',toks:=t'}:=by
 obtain⟨m,⟨o,es,ep,ho,r⟩,_⟩:=id I.loc
 obtain⟨sl,hL⟩:=u.any ho I.free λz=>(hch _ z).2.1 rfl
 exact I.step hch (λb o hL hb hc e n=>u.keep b o e n (λz=>(List.mem_cons.mp (I.stkSub b z)).elim hL hb) hc) (λb o _ _ hc e n=>u.any e n hc) (λb o hc e n=>u.free b o e n hc) (λb o hc e=>u.there b o e hc) u.tups u.frzs u.tbls (λm' hm=>by
  obtain⟨o',es',ep',ho',r'⟩:=hm
  rw [ho] at ho';cases ho'
  exact⟨_,es',ep',hL,r'⟩) hok hg
theorem Inv.turned(I:Inv X RE σ H s)(k:∀b o,b≠it->s.heap.get? b=some o->h'.get? b=some o)(hn:H it=none)(hL:it≠X.env.locals)
 (h1:it∈X.ex\/X.s₀.heap.objs.size<=it) (h2:∀x c,X.env.cells.lookup x=some c->c≠it) (h3:∀p∈X.pn++RE,p.1≠it):Inv X RE σ H {s with heap:=h',toks:=t'}:=by
 have nit:∀b u,H b=some u->b≠it:=λb u e z=>by rw [z,hn] at e;cases e
 refine I.step (ch:=[it]) (λb hb=>?_) (λb o _ _ hc e _=>k b o (λz=>hc (by simp [z])) e) (λb o _ _ hc e _=>⟨o.slots,k b o (λz=>hc (by simp [z])) e⟩) (λ_ _ _ _ n=>n)
  (λb o hc e=>⟨o,k b o (λz=>hc (by simp [z])) e⟩) (λ_ _ e=>e) (λ_ _ _ e=>e) (λb ps e=>⟨#[],by rw [e];simp⟩) (λm hm=>?_) (λb u e=>?_) I.bare
 ·have e:b=it:=by simpa using hb
  subst e
  exact⟨h1,hL,h2,h3⟩
 ·obtain⟨o,es,ep,ho,r⟩:=hm
  exact⟨o,es,ep,k _ o (Ne.symm hL) ho,r⟩
 ·refine(I.hok b u e).stay (λc v hc q=>k c v ?_ q) (λ_ q=>q) λ_ _ q=>q
  rcases hc with z | z
  ·rw [z];exact nit b u e
  ·exact nit c _ z
theorem Inv.tok(I:Inv X RE σ H s)(t:Nat):Inv X RE σ H {s with toks:=t}:=I.un Un.refl I.hok
theorem Inv.kept(I:Inv X RE σ H s)(k:∀b u,s.heap.get? b=some u->h'.get? b=some u):Inv X RE σ H {s with heap:=h',toks:=t'}:=I.un (Un.kept k) (I.hok.kept k)
theorem Inv.laid{a:Addr}(I:Inv X RE σ H s)(k:∀b u,s.heap.get? b=some u->h'.get? b=some u)(hp:s.heap.objs.size<=a)(new:ObjOk X.prog X.w (upd H a o) h' a o):
 Inv X RE σ (upd H a o) {s with heap:=h',toks:=t'}:=I.un (Un.laid k hp (I.hok.fresh hp)) (I.hok.laid k hp new)
theorem Inv.write(I:Inv X RE σ H s)(mu:Mut (H x))(he:e=x\/H e=some (.own x))(k:∀b u,b≠e->s.heap.get? b=some u->h'.get? b=some u)(heo:∃u,h'.get? e=some u)
 (new:ObjOk X.prog X.w (upd H x o) h' x o):Inv X RE σ (upd H x o) {s with heap:=h',toks:=t'}:=I.un (Un.write mu he k heo) (I.hok.write mu he k heo new)
theorem Inv.pins_of(I:Inv X RE σ H s)(h:∀p∈pins',s.heap.get? p.1=some p.2/\H p.1=none/\p.1≠X.env.locals/\p.1∉X.fs/\∀v,p.2.data≠.cell v):Inv X pins' σ H s:=
 ⟨I.ok,I.os,I.bare,I.base,I.loc,I.cell,I.free,I.freeC,λp hp=>(List.mem_append.mp hp).elim (λz=>I.pin p (LD _ z)) (h p),I.hok,I.len⟩
theorem qI{N:List Str}(hN:N.Nodup){j:Nat}(a:N[i]? =some x)(b:N[j]? =some x):i=j:=by
 obtain⟨h1,e1⟩:=List.getElem?_eq_some_iff.mp a
 obtain⟨h2,e2⟩:=List.getElem?_eq_some_iff.mp b
 exact(List.getElem_inj hN).mp (e1.trans e2.symm)
theorem oU(I:Inv X RE σ H s)(hN:X.N.Nodup)(hi:X.N[i]? =some x)(hx:Loc X.env.scope x)(r:RelV v u)
 (h:∀s',Inv X RE (σ.set i (some v)) H s'->(∃a,Heap.SameBut a s.heap s'.heap/\(a=X.env.locals\/X.env.cells.lookup x=some a))->Q () s') (hf:X.fn x=true\/X.env.scope.names.lookup x=some .local:=by first | exact .inl rfl | exact .inr rfl | assumption):Nr M A (storeName X.env x u) Q E s:=by
 obtain⟨m,hn,hl⟩:=id I.loc
 have hcls:(X.env.scope.kind== .class || (X.env.scope.kind== .module&&X.env.locals != X.env.globals))=false:=by rw [I.ok.kind];rfl
 have hiσ:i<σ.length:=by rw [I.len];exact(List.getElem?_eq_some_iff.mp hi).1
 have cne:=I.cne
 have tracked:∀{a:Addr} {h':Heap},(∃o,s.heap.get? a=some o/\H a=none)->Heap.SameBut a s.heap h'->HOk X.prog X.w H h':=λ{a h'} ha hs b ob e=>by
  obtain⟨_,_,hfree⟩:=ha
  refine(I.hok b ob e).stay (λc w' hc q=>(hs.2 c ?_).trans q) (λ_ q=>q) λ_ _ q=>q
  rintro rfl
  rcases hc with rfl | hc
  ·rw [hfree] at e;cases e
  ·rw [hfree] at hc;cases hc
 rcases hx with hk | hk
 ·refine wpAny_storeName_local hk hn (λh' hn' hs=>?_) hcls
  obtain⟨oL,_,_,hoL,_⟩:=id hn
  refine h _ ⟨I.ok,I.os,I.bare,⟨λb o e n hb hx=>?_,λb o e n hb hx=>?_,I.base.free,λb o e hx=>?_,I.base.tups,I.base.frzs,I.base.tbls⟩,⟨_,hn',λj y v' e1 e2 e3=>?_⟩,λy c e=>?_,I.free,I.freeC,λp hp=>?_,tracked ⟨oL,hoL,I.free⟩ hs,by simpa using I.len⟩ ⟨_,hs,.inl rfl⟩
  ·exact(hs.2 b (LK (Ly (LG e) I.ok.above))).trans (I.base.keep b o e n hb hx)
  ·obtain⟨sl,e1⟩:=I.base.slot b o e n hb hx
   exact⟨sl,(hs.2 b (LK (Ly (LG e) I.ok.above))).trans e1⟩
  ·obtain⟨o',e1⟩:=I.base.there b o e hx
   exact⟨o',(hs.2 b (LK (Ly (LG e) I.ok.above))).trans e1⟩
  ·by_cases hj:j=i
   ·subst hj
    rw [hi] at e1;cases e1
    rw [List.getElem?_set_self hiσ] at e2
    cases e2
    exact⟨u,r,.inl ⟨hk,by simp⟩⟩
   ·rw [List.getElem?_set_ne (Ne.symm hj)] at e2
    obtain⟨u',r',q⟩:=hl j y v' e1 e2 e3
    refine⟨u',r',?_⟩
    rcases q with ⟨k,e⟩ | ⟨k,c,e,z⟩
    ·refine .inl ⟨k,?_⟩
     have:y≠x:=λe=>hj (qI hN e1 (e▸hi))
     simp [this,e]
    ·exact .inr ⟨k,c,e,z.sameBut hs (cne y c e)⟩
  ·obtain⟨w',z⟩:=I.cell y c e
   exact⟨w',z.sameBut hs (cne y c e)⟩
  ·obtain⟨e,n,ne,nf,d⟩:=I.pin p hp
   exact⟨(hs.2 p.1 ne).trans e,n,ne,nf,d⟩
 ·have hfn:X.fn x=true:=by
   rcases hf with z | z
   ·exact z
   ·rw [z] at hk;cases hk
  obtain⟨c,hc⟩:=I.ok.has x (.inl hk)
  obtain⟨w',z⟩:=I.cell x c hc
  refine wpAny_storeName_cell I.ok.kind hk hc z (λh' hc' hs=>?_)
  obtain⟨oc,hoc,hocd⟩:=id z
  refine h {s with heap:=h'} ⟨I.ok,I.os,I.bare,⟨λb o e n hb hx=>?_,λb o e n hb hx=>?_,I.base.free,λb o e hx=>?_,I.base.tups,I.base.frzs,I.base.tbls⟩,⟨m,hn.sameBut hs (Ne.symm (cne x c hc)),λj y v' e1 e2 e3=>?_⟩,λy c' e=>?_,I.free,I.freeC,λp hp=>?_,tracked ⟨oc,hoc,I.freeC x c hc⟩ hs,by simpa using I.len⟩ ⟨c,hs,.inr hc⟩
  ·exact(hs.2 b (LK (Ly (LG e) (I.ok.cab x c hfn hc)))).trans (I.base.keep b o e n hb hx)
  ·obtain⟨sl,e1⟩:=I.base.slot b o e n hb hx
   exact⟨sl,(hs.2 b (LK (Ly (LG e) (I.ok.cab x c hfn hc)))).trans e1⟩
  ·obtain⟨o',e1⟩:=I.base.there b o e hx
   exact⟨o',(hs.2 b (LK (Ly (LG e) (I.ok.cab x c hfn hc)))).trans e1⟩
  ·by_cases hj:j=i
   ·subst hj
    rw [hi] at e1;cases e1
    rw [List.getElem?_set_self hiσ] at e2
    cases e2
    exact⟨u,r,.inr ⟨.inl hk,c,hc,hc'⟩⟩
   ·rw [List.getElem?_set_ne (Ne.symm hj)] at e2
    obtain⟨u',r',q⟩:=hl j y v' e1 e2 e3
    refine⟨u',r',?_⟩
    rcases q with q | ⟨k,c',e,z'⟩
    ·exact .inl q
    ·refine .inr ⟨k,c',e,z'.sameBut hs ?_⟩
     rintro rfl
     exact hj (qI hN e1 (I.ok.inj _ _ _ e hc▸hi))
  ·by_cases hcc:c'=c
   ·subst hcc;exact⟨_,hc'⟩
   ·obtain⟨w2,z2⟩:=I.cell y c' e
    exact⟨w2,z2.sameBut hs hcc⟩
  ·obtain⟨e,n,ne,nf,d⟩:=I.pin p hp
   refine⟨(hs.2 p.1 ?_).trans e,n,ne,nf,d⟩
   intro q
   rw [q,hoc] at e
   have q':=Option.some.inj e
   exact d w' (by rw [<-q'];exact hocd)
theorem jn(I:Inv X RE σ H s)(hN:X.N.Nodup)(hi:X.N[i]? =some x)(hx:Loc X.env.scope x)(r:RelV v u)
 (h:∀s',Inv X RE (σ.set i (some v)) H s'->Q () s') (hf:X.fn x=true\/X.env.scope.names.lookup x=some .local:=by first | exact .inl rfl | exact .inr rfl | assumption):Nr M A (storeName X.env x u) Q E s:=
 oU I hN hi hx r (λs' I' _=>h s' I') hf
theorem Inv.call'(I:Inv X RE σ H s)(ho:s'.os=s.os)(u:Un (frs X.stack) ch H H' s.heap s'.heap)(hok:HOk X.prog X.w H' s'.heap)(hg:Pt s'.gens)
 (hch:∀b∈ch,(b∈X.ex\/X.s₀.heap.objs.size<=b)/\b≠X.env.locals/\(∀x c,X.env.cells.lookup x=some c->c≠b)/\∀p∈X.pn++RE,p.1≠b):Inv X RE σ H' s':=by
 obtain⟨h',g',d',t',o'⟩:=s'
 have e:=ho
 subst e
 exact I.call u hok hg hch
end
abbrev XK:=Nk->Option Addr->Hp->Prop
abbrev St:=List (Option V)
abbrev VK:=V->Hp->Prop
abbrev TE:=St->Hp->VK->Prop
abbrev TT:=St->Hp->(Bool->Hp->Prop)->Prop
abbrev TA:=St->Hp->(List V->Hp->Prop)->Prop
structure jo where
 nx:St->Hp->Prop
 rt:VK
 bk:St->Hp->Prop:=λ_ _=>False
 ct:St->Hp->Prop:=λ_ _=>False
abbrev TS:=jo->St->Hp->Prop
def EP(X:Cx)(RE:List (Addr×Obj))(σ:St)(Q:VK)(u:Nk)(s':Nn):Prop:=∃v H',Inv X RE σ H' s'/\RelV v u/\Q v H'
def TP(X:Cx)(RE:List (Addr×Obj))(σ:St)(Q:Bool->Hp->Prop)(b:Bool)(s':Nn):Prop:=∃H',Inv X RE σ H' s'/\Q b H'
def AP(X:Cx)(RE:List (Addr×Obj))(σ:St)(Q:List V->Hp->Prop)(us:List Nk)(s':Nn):Prop:=∃vs H',Inv X RE σ H' s'/\Vals vs us/\Q vs H'
def SP(X:Cx)(RE:List (Addr×Obj))(D:jo)(f:Flow)(s':Nn):Prop:=
 match f with
 | .next=>∃σ' H',Inv X RE σ' H' s'/\D.nx σ' H'
 | .brk=>∃σ' H',Inv X RE σ' H' s'/\D.bk σ' H'
 | .cont=>∃σ' H',Inv X RE σ' H' s'/\D.ct σ' H'
 | .ret u=>∃v σ' H',Inv X RE σ' H' s'/\RelV v u/\D.rt v H'
def PE(X:Cx)(e:Expr)(t:TE):Prop:=
 ∀(RE:List (Addr×Obj)) (s:Nn) (σ:St) (H:Hp) (Q:VK),Inv X RE σ H s->t σ H Q->Nr (model X.prog X.w) X.A (eval e X.env) (EP X RE σ Q) X.xe s
def PT(X:Cx)(e:Expr)(t:TT):Prop:=
 ∀(RE:List (Addr×Obj)) (s:Nn) (σ:St) (H:Hp) (Q:Bool->Hp->Prop),Inv X RE σ H s->t σ H Q->Nr (model X.prog X.w) X.A (Rg e X.env (eval e X.env)) (TP X RE σ Q) X.xe s
def PW(X:Cx)(e:Expr)(t:TT):Prop:=
 ∀(whole:Sem Nk) (RE:List (Addr×Obj)) (s:Nn) (σ:St) (H:Hp) (Q:Bool->Hp->Prop),Inv X RE σ H s->t σ H Q->Nr (model X.prog X.w) X.A (Rg e X.env whole) (TP X RE σ Q) X.xe s
theorem PW.pt(h:PW X e t):PT X e t:=h _
def PA(X:Cx)(es:List Expr)(t:TA):Prop:=
 ∀(pos:Pos) (RE:List (Addr×Obj)) (s:Nn) (σ:St) (H:Hp) (Q:List V->Hp->Prop),Inv X RE σ H s->t σ H Q->Nr (model X.prog X.w) X.A (spliced (Oi pos (Nt es X.env))) (AP X RE σ Q) X.xe s
def PS(X:Cx)(st:Stmt)(t:TS):Prop:=
 ∀(RE:List (Addr×Obj)) (s:Nn) (σ:St) (H:Hp) (D:jo),Inv X RE σ H s->t D σ H->Nr (model X.prog X.w) X.A (exec st X.env) (SP X RE D) X.xe s
def PSs(X:Cx)(st:List Stmt)(t:TS):Prop:=
 ∀(RE:List (Addr×Obj)) (s:Nn) (σ:St) (H:Hp) (D:jo),Inv X RE σ H s->t D σ H->Nr (model X.prog X.w) X.A (execs st X.env) (SP X RE D) X.xe s
theorem thn{t:Sem α}{Q Q':α->Nn->Prop}(h:Nr M A t Q E s)(hQ:∀a s,Q a s->Q' a s):Nr M A t Q' E s:=NC h hQ λ_ _ x=>x
section
variable{X:Cx}
def iF(i:Nat):TE:=λσ H Q=>∃v,σ[i]? =some (some v)/\Q v H
def tC(v:V):TE:=λ_ H Q=>Q v H
theorem DL{pos:Pos}(hN:X.N[i]? =some x)(hv:Vis X.env.scope x)(hd:(x==("__debug__":Str))=false:=by decide)(hcd:(x==("__classdict__":Str))=false:=by decide):PE X (.Name x pos) (iF i):=by
 intro RE s σ H Q I h
 obtain⟨v,e,h⟩:=h
 obtain⟨m,hn,hl⟩:=I.loc
 obtain⟨u,r,l⟩:=hl i x v hN e hv
 have fin:EP X RE σ Q u s:=⟨v,H,I,r,h⟩
 rcases l with ⟨hk,hm⟩ | ⟨hk,c,hc,hcell⟩
 ·exact QP (wpAny_loadName_local I.ok.kind hk hn hm fin) hd
 ·rcases hk with hk | hk
  ·exact QP (wpAny_loadName_cell I.ok.kind hk hc hcell fin) hd
  ·exact QP (wpAny_loadName_free I.ok.kind hk hc hcell fin hcd) hd
theorem ac:PE X (.Constant (.int i) j pos) (tC (.int i)):=λ_ _ _ H _ I h=>wpAny_Constant_int ⟨.int i,H,I.tok _,⟨_,rfl⟩,h⟩
theorem cN:PE X (.Constant (.bool b) j pos) (tC (.bl b)):=λ_ _ _ H _ I h=>Constant_bool ⟨.bl b,H,I,rfl,h⟩
theorem bV:PE X (.Constant .none j pos) (tC .non):=λ_ _ _ H _ I h=>Constant_none ⟨.non,H,I,rfl,h⟩
theorem av:PE X (.Constant (.str x) j pos) (tC (.str x)):=λ_ _ _ H _ I h=>Calls.Constant_str ⟨.str x,H,I.tok _,⟨_,rfl⟩,h⟩
def Gl(X:Cx)(x:Str):Prop:=X.env.kindOf x=some .globalImplicit
theorem iN{σ:St}(I:Inv X RE σ H s)(hg:Gl X x)(hm:X.mg x=some u)(h:Q u s)
 (hd:(x==("__debug__":Str))=false:=by decide):Nr (model X.prog X.w) X.A (eval (.Name x pos) X.env) Q E s:=
 Calls.Name_function_global I.ok.kind hg (Calls.loadGlobal_global (by rw [I.ok.glob];exact I.mod.glob.keeps I.bk) hm h) hd
theorem gH{E:Nk->Nn->Prop}{σ:St}{pos:Pos}(I:Inv X RE σ H s)(hg:Gl X x)(hm:X.mg x=none)(hv:NN x=some u)(h:Q u s)
 (hn:x≠"__name__":=by decide) (hd:(x==("__debug__":Str))=false:=by decide):Nr (model X.prog X.w) X.A (eval (.Name x pos) X.env) Q E s:=by
 obtain⟨mb,h1,h2⟩:=I.mod.blt
 exact Calls.Name_function_global I.ok.kind hg (Calls.loadGlobal_builtin (by rw [I.ok.glob];exact I.mod.glob.keeps I.bk) hm (by rw [I.ok.blt];exact h1.keeps I.bk) ((h2 x hn).trans hv) h) hd
theorem gB(hg:Gl X x)(hm:X.mg x=some u)(r:RelV v u)(hd:(x==("__debug__":Str))=false:=by decide):PE X (.Name x pos) (tC v):=
 λ_ _ _ H _ I h=>iN I hg hm ⟨v,H,I,r,h⟩ hd
theorem BN{pos:Pos}(hg:Gl X x)(hm:X.mg x=none)(hv:NN x=some u)(r:RelV v u)(hn:x≠"__name__":=by decide)(hd:(x==("__debug__":Str))=false:=by decide):PE X (.Name x pos) (tC v):=
 λ_ _ _ H _ I h=>gH I hg hm hv ⟨v,H,I,r,h⟩ hn hd
variable{a b:Expr}{ta tb:TE}{pos:Pos}
def PC(X:Cx)(op:CmpOp)(a b:Expr)(t:TE):Prop:=
 ∀(RE:List (Addr×Obj)) (s:Nn) (σ:St) (H:Hp) (Q:VK),Inv X RE σ H s->t σ H Q->
  Nr (model X.prog X.w) X.A (eval a X.env) (λv s₁=>Nr (model X.prog X.w) X.A (eval b X.env) (λu s₂=>Nr (model X.prog X.w) X.A (NO op v u) (EP X RE σ Q) X.xe s₂) X.xe s₁) X.xe s
def tB(t:TE):TT:=λσ H Q=>t σ H λx H1=>∃c,x= .bl c/\Q c H1
theorem wL(h:PC X op a b t)(h1:Oo op b=false:=by first | exact nobehind _ (by decide) (by decide) | rfl):PT X (.Compare a [op] [b] pos) (tB t):=by
 intro RE s σ H Q I hw
 refine wpAny_isTrue_Compare1 (thn (h RE s σ H _ I hw) λv s1 h1=>thn h1 λu s2 h2=>thn h2 λc s3 z=>?_) h1
 obtain⟨x,H1,I1,r1,q1⟩:=z
 obtain⟨d,rfl,q⟩:=q1
 cases r1
 exact N8 ⟨H1,I1,q⟩
theorem fN(h:PE X e t)(he:∀whole,Rg e X.env whole=(do let v <-whole;Pa e.pos;holding [v] (truthy v)):=by intro _;rfl):PT X e (tB t):=by
 intro RE s σ H Q I hw
 refine isTrue_plain (thn (h RE s σ H _ I hw) λv s1 ⟨x,H1,I1,r1,q1⟩=>?_) (he _)
 obtain⟨d,rfl,q⟩:=q1
 cases r1
 exact N8 ⟨H1,I1,q⟩
variable{tA tB':TT}{rest:List Expr}
def DM(t u:TT):TT:=λσ H Q=>t σ H λc H1=>if c=true then u σ H1 Q else Q false H1
def tOr(t u:TT):TT:=λσ H Q=>t σ H λc H1=>if c=true then Q true H1 else u σ H1 Q
def DN(t:TT):TT:=λσ H Q=>t σ H λc H1=>Q (!c) H1
theorem gC(ha:PT X a tA):PW X (.BoolOp .And [a] pos) tA:=by
 intro wh RE s σ H Q I h
 refine isTrue_and (thn (ha RE s σ H Q I h) λc s1 e=>?_)
 cases c with
 | true=>exact isTrue_and_nil e
 | false=>exact e
theorem wM(ha:PT X a tA):PW X (.BoolOp .Or [a] pos) tA:=by
 intro wh RE s σ H Q I h
 refine isTrue_or (thn (ha RE s σ H Q I h) λc s1 e=>?_)
 cases c with
 | false=>exact isTrue_or_nil e
 | true=>exact e
theorem iO(ha:PT X a tA)(hb:PW X (.BoolOp .And (b::rest) pos) tB'):PW X (.BoolOp .And (a::b::rest) pos) (DM tA tB'):=by
 intro wh RE s σ H Q I h
 refine isTrue_and (thn (ha RE s σ H _ I h) λc s1 z=>?_)
 obtain⟨H1,I1,q1⟩:=z
 cases c with
 | true=>exact hb wh RE s1 σ H1 Q I1 q1
 | false=>exact⟨H1,I1,q1⟩
theorem AZ(ha:PT X a tA)(hb:PW X (.BoolOp .Or (b::rest) pos) tB'):PW X (.BoolOp .Or (a::b::rest) pos) (tOr tA tB'):=by
 intro wh RE s σ H Q I h
 refine isTrue_or (thn (ha RE s σ H _ I h) λc s1 z=>?_)
 obtain⟨H1,I1,q1⟩:=z
 cases c with
 | true=>exact⟨H1,I1,q1⟩
 | false=>exact hb wh RE s1 σ H1 Q I1 q1
theorem jT(ha:PT X a tA):PT X (.UnaryOp .Not a pos) (DN tA):=by
 intro RE s σ H Q I h
 exact isTrue_not (ha RE s σ H (λc H1=>Q (!c) H1) I h)
def A0(ta tb:TE):TE:=λσ H Q=>ta σ H λx H1=>∃c,x= .bl c/\if c=true then tb σ H1 Q else Q (.bl false) H1
def DO(ta tb:TE):TE:=λσ H Q=>ta σ H λx H1=>∃c,x= .bl c/\if c=true then Q (.bl true) H1 else tb σ H1 Q
theorem jU(h:PE X a t):PE X (.BoolOp op [a] pos) t:=λRE s σ H Q I hw=>BoolOp_one (h RE s σ H Q I hw)
theorem iP(ha:PE X a ta)(hb:PE X (.BoolOp .And (b::rest) pos) tb):PE X (.BoolOp .And (a::b::rest) pos) (A0 ta tb):=by
 intro RE s σ H Q I h
 refine BoolOp_and (thn (ha RE s σ H _ I h) λv s1 z=>?_)
 obtain⟨x,H1,I1,r1,q1⟩:=z
 obtain⟨c,rfl,q1⟩:=q1
 cases r1
 apply N8
 cases c with
 | true=>exact hb RE s1 σ H1 Q I1 q1
 | false=>exact⟨.bl false,H1,I1,rfl,q1⟩
theorem A1(ha:PE X a ta)(hb:PE X (.BoolOp .Or (b::rest) pos) tb):PE X (.BoolOp .Or (a::b::rest) pos) (DO ta tb):=by
 intro RE s σ H Q I h
 refine BoolOp_or (thn (ha RE s σ H _ I h) λv s1 z=>?_)
 obtain⟨x,H1,I1,r1,q1⟩:=z
 obtain⟨c,rfl,q1⟩:=q1
 cases r1
 apply N8
 cases c with
 | false=>exact hb RE s1 σ H1 Q I1 q1
 | true=>exact⟨.bl true,H1,I1,rfl,q1⟩
end
def SqL(K:MF)(H:Hp)(a:Addr)(xs:List V):Prop:=
 Rd H a (.lst xs)\/
  ∃(o:Obj) (its:Array Nk) (n:Nat),K.lookup a=some o/\o.cls= .type "list"/\o.dict=none/\o.data= .seq its n/\its.size<=Nm/\Vals xs its.toList
def SqT(K:MF)(H:Hp)(a:Addr)(xs:List V):Prop:=
 Rd H a (.tup xs)\/
  ∃(o:Obj) (its:Array Nk) (n:Nat),K.lookup a=some o/\o.cls= .type "tuple"/\o.data= .seq its n/\its.size<=Nm/\Vals xs its.toList
def HW:Nk->Option V
 | .none=>some .non
 | .bool b=>some (.bl b)
 | .int i _=>some (.int i)
 | .str x _=>some (.str x)
 | .bytes b _=>some (.byt b)
 | .float b _=>some (.flt b)
 | .ref a=>some (.ref a)
 | .type n=>some (.ty n)
 | _=>none
theorem RelV.abs(r:RelV x u):HW u=some x:=by
 cases x with
 | non=>cases r;rfl
 | bl _=>cases r;rfl
 | int _=>obtain⟨t,rfl⟩:=r;rfl
 | str _=>obtain⟨t,rfl⟩:=r;rfl
 | byt _=>obtain⟨t,rfl⟩:=r;rfl
 | flt _=>obtain⟨t,rfl⟩:=r;rfl
 | ref _=>cases r;rfl
 | ty _=>cases r;rfl
theorem RelV.inj(r:RelV x u)(q:RelV y u):x=y:=Option.some.inj (r.abs.symm.trans q.abs)
theorem Vals.inj:∀{xs ys:List V} {us:List Nk},Vals xs us->Vals ys us->xs=ys:=by
 intro xs ys us h
 induction h generalizing ys with
 | nil=>intro h;cases h;rfl
 | cons r t ih=>
  intro h
  cases h with
  | cons r' t'=>rw [r.inj r',ih t']
section
variable{X:Cx}{RE:List (Addr×Obj)}{σ:St}{H:Hp}{s:Nn}{a:Addr}{xs ys:List V}
theorem SqL.of{K:MF}(h:H a=some (.lst xs)):SqL K H a xs:=.inl (.inl h)
theorem SqT.of{K:MF}(h:H a=some (.tup xs)):SqT K H a xs:=.inl (.inl h)
theorem Inv.list(I:Inv X RE σ H s)(h:SqL X.K H a xs):∃its,Vals xs its/\PlainL s.heap a its.toArray/\xs.length<=Nm:=by
 rcases h with h | ⟨o,its,n,hk,hc,hd,hs,hz,r⟩
 ·obtain⟨z,its,n,r,e⟩:=h.ok I.hok
  exact⟨its,r,⟨_,n,e,rfl,rfl,rfl⟩,z⟩
 ·refine⟨its.toList,r,⟨o,n,I.kIn a o hk,hc,hd,by simpa using hs⟩,?_⟩
  have e:=r.length
  simp only [Array.length_toList] at e
  lia
theorem Inv.tuple(I:Inv X RE σ H s)(h:SqT X.K H a xs):∃its,Vals xs its/\Q9 s.heap a its.toArray/\xs.length<=Nm:=by
 rcases h with h | ⟨o,its,n,hk,hc,hs,hz,r⟩
 ·obtain⟨z,its,r,p⟩:=h.ok I.hok
  exact⟨its,r,p,z⟩
 ·refine⟨its.toList,r,⟨o,I.kIn a o hk,hc,n,by simpa using hs⟩,?_⟩
  have e:=r.length
  simp only [Array.length_toList] at e
  lia
theorem Inv.list_inj(I:Inv X RE σ H s)(h:SqL X.K H a xs)(h':SqL X.K H a ys):xs=ys:=by
 obtain⟨its,r,⟨o,n,e,_,_,d⟩,_⟩:=I.list h
 obtain⟨its',r',⟨o',n',e',_,_,d'⟩,_⟩:=I.list h'
 rw [e] at e';cases e'
 rw [d] at d'
 injection d' with d1 _
 have:its=its':=by simpa using congrArg Array.toList d1
 subst this
 exact r.inj r'
theorem Inv.tuple_inj(I:Inv X RE σ H s)(h:SqT X.K H a xs)(h':SqT X.K H a ys):xs=ys:=by
 obtain⟨its,r,⟨o,e,_,n,d⟩,_⟩:=I.tuple h
 obtain⟨its',r',⟨o',e',_,n',d'⟩,_⟩:=I.tuple h'
 rw [e] at e';cases e'
 rw [d] at d'
 injection d' with d1 _
 have:its=its':=by simpa using congrArg Array.toList d1
 subst this
 exact r.inj r'
end
abbrev Cx.wish(X:Cx)(E:Nk->Nn->Prop):Cx:={X with xe:=E}
abbrev Cx.nox(X:Cx):Cx:=X.wish λ_ _=>False
theorem Cx.Ok.wish{X:Cx}(ok:X.Ok)(E:Nk->Nn->Prop):(X.wish E).Ok:=
 ⟨ok.mod,ok.kind,ok.glob,ok.blt,ok.above,ok.inj,ok.has,ok.cab,ok.hd,ok.frames,ok.stk,ok.exf,ok.bs,ok.bsz,ok.noex,ok.exfs,ok.funs,ok.frf⟩
theorem Cx.Ok.unwish{X:Cx}(ok:(X.wish E).Ok):X.Ok:=
 ⟨ok.mod,ok.kind,ok.glob,ok.blt,ok.above,ok.inj,ok.has,ok.cab,ok.hd,ok.frames,ok.stk,ok.exf,ok.bs,ok.bsz,ok.noex,ok.exfs,ok.funs,ok.frf⟩
section
variable{X:Cx}{RE:List (Addr×Obj)}{σ:St}{H:Hp}{s:Nn}{E:Nk->Nn->Prop}
theorem Inv.wish(I:Inv X RE σ H s)(E:Nk->Nn->Prop):Inv (X.wish E) RE σ H s:=⟨I.ok.wish E,I.os,I.bare,I.base,I.loc,I.cell,I.free,I.freeC,I.pin,I.hok,I.len⟩
theorem Inv.unwish(I:Inv (X.wish E) RE σ H s):Inv X RE σ H s:=⟨I.ok.unwish,I.os,I.bare,I.base,I.loc,I.cell,I.free,I.freeC,I.pin,I.hok,I.len⟩
theorem SP.unwish(h:SP (X.wish E) RE D f s'):SP X RE D f s':=by
 cases f with
 | next=>obtain⟨σ',H',I,q⟩:=h;exact⟨σ',H',I.unwish,q⟩
 | brk=>obtain⟨σ',H',I,q⟩:=h;exact⟨σ',H',I.unwish,q⟩
 | cont=>obtain⟨σ',H',I,q⟩:=h;exact⟨σ',H',I.unwish,q⟩
 | ret u=>obtain⟨v,σ',H',I,r,q⟩:=h;exact⟨v,σ',H',I.unwish,r,q⟩
theorem PSs.nox{st:List Stmt}(h:PSs X.nox st t):PSs X st t:=λRE s σ H D I hw=>
 NC (h RE s σ H D (I.wish _) hw) (λ_ _ q=>q.unwish) λ_ _ z=>False.elim z
end
section
variable{X:Cx}{st:Stmt}{rest:List Stmt}{t u:TS}{e:Expr}{te:TE}{pos:Pos}
def A2:TS:=λD σ H=>D.nx σ H
def uW(t u:TS):TS:=λD σ H=>t {D with nx:=u D} σ H
theorem aA:PSs X [] A2:=λ_ _ σ H _ I h=>OP ⟨σ,H,I,h⟩
theorem aa(h1:PS X st t)(h2:PSs X rest u):PSs X (st::rest) (uW t u):=by
 intro RE s σ H D I h
 refine wpAny_execs_cons (thn (h1 RE s σ H {D with nx:=u D} I h) λf s1 q=>?_)
 cases f with
 | next=>
  obtain⟨σ',H',I',q⟩:=q
  exact h2 RE s1 σ' H' D I' q
 | ret v=>exact q
 | brk=>exact q
 | cont=>exact q
theorem ae(h1:PS X st t):PSs X [st] t:=by
 intro RE s σ H D I h
 refine wpAny_execs_cons (thn (h1 RE s σ H D I h) λf s1 q=>?_)
 cases f with
 | next=>exact OP q
 | ret v=>exact q
 | brk=>exact q
 | cont=>exact q
theorem Inv.quiet{σ:St}(I:Inv X RE σ H s):interactive X.env=false:=by simp [interactive,I.ok.kind]
def qt(te:TE):TS:=λD σ H=>te σ H λ_ H1=>D.nx σ H1
theorem aC(he:PE X e te)(hs:O3 e none pos.line X.env=pure false:=by rfl):PS X (.Expr e pos) (qt te):=by
 intro RE s σ H D I h
 exact wpAny_Expr_any (thn (he RE s σ H _ I h) λv s1 z=>by obtain⟨x,H1,I1,r1,q1⟩:=z;exact⟨σ,H1,I1,q1⟩) I.quiet hs
def uX(te:TE):TS:=λD σ H=>te σ H D.rt
theorem ax(he:PE X e te):PS X (.Return (some e) pos) (uX te):=by
 intro RE s σ H D I h
 exact wpAny_Return_some (thn (he RE s σ H _ I h) λv s1 z=>by obtain⟨x,H1,I1,r1,q1⟩:=z;exact⟨x,σ,H1,I1,r1,q1⟩)
def qv:TS:=λD _ H=>D.rt .non H
theorem nW:PS X (.Return none pos) qv:=λ_ _ σ H _ I h=>wpAny_Return_none ⟨.non,σ,H,I,rfl,h⟩
def uY(c:TT)(t u:TS):TS:=λD σ H=>c σ H λb H1=>if b=true then t D σ H1 else u D σ H1
theorem aJ(hc:PT X c tc)(ha:PSs X a t)(hb:PSs X b u):PS X (.If c a b pos) (uY tc t u):=by
 intro RE s σ H D I h
 refine wpAny_If (thn (hc RE s σ H _ I h) λd s1 z=>?_)
 obtain⟨H1,I1,q1⟩:=z
 cases d with
 | true=>exact ha RE s1 σ H1 D I1 q1
 | false=>exact hb RE s1 σ H1 D I1 q1
def DP:TS:=λ_ _ _=>False
theorem a6:PSs X sts DP:=λ_ _ _ _ _ _ h=>h.elim
end
abbrev TG:=V->St->Hp->(St->Hp->Prop)->Prop
abbrev TGs:=List V->St->Hp->(St->Hp->Prop)->Prop
def PG(X:Cx)(target:Expr)(t:TG):Prop:=
 ∀(RE:List (Addr×Obj)) (s:Nn) (σ:St) (H:Hp) (v:V) (u:Nk) (Q:St->Hp->Prop),Inv X RE σ H s->RelV v u->t v σ H Q->
  Nr (model X.prog X.w) X.A (assign target X.env u) (λ_ s'=>∃σ' H',Inv X RE σ' H' s'/\Q σ' H') X.xe s
def PGs(X:Cx)(ts:List Expr)(t:TGs):Prop:=
 ∀(RE:List (Addr×Obj)) (s:Nn) (σ:St) (H:Hp) (vs:List V) (us:List Nk) (Q:St->Hp->Prop),Inv X RE σ H s->Vals vs us->t vs σ H Q->
  Nr (model X.prog X.w) X.A (assignInOrder ((OC ts X.env).map (·.2)) us) (λ_ s'=>∃σ' H',Inv X RE σ' H' s'/\Q σ' H') X.xe s
abbrev DQ:=V->V->V->Hp->(Hp->Prop)->Prop
def uZ(X:Cx)(t:DQ):Prop:=
 ∀(RE:List (Addr×Obj)) (s:Nn) (σ:St) (H:Hp) (o i v:V) (ov iv u:Nk) (Q:Hp->Prop),Inv X RE σ H s->RelV o ov->RelV i iv->RelV v u->t o i v H Q->
  Nr (model X.prog X.w) X.A (setItem ov iv u) (λ_ s'=>∃H',Inv X RE σ H' s'/\Q H') X.xe s
section
variable{X:Cx}{pos:Pos}
def ie(i:Nat):TG:=λv σ H Q=>Q (σ.set i (some v)) H
theorem iR(hN:X.N.Nodup)(hi:X.N[i]? =some x)(hx:Loc X.env.scope x)(hf:X.fn x=true\/X.env.scope.names.lookup x=some .local:=by first | exact .inl rfl | exact .inr rfl | assumption):PG X (.Name x pos) (ie i):=by
 intro RE s σ H v u Q I r h
 exact wpAny_assign_Name (jn I hN hi hx r (λs' I'=>⟨_,H,I',h⟩) hf)
def DR:TGs:=λvs σ H Q=>vs= []/\Q σ H
def A3(t:TG)(u:TGs):TGs:=λvs σ H Q=>∃v r,vs=v::r/\t v σ H λσ' H'=>u r σ' H' Q
theorem bZ:PGs X [] DR:=by
 intro RE s σ H vs us Q I r h
 obtain⟨e,h⟩:=h
 exact assignInOrder_nil ⟨σ,H,I,h⟩
theorem aL(h1:PG X e t)(h2:PGs X es u)
 (hs:(OC (e::es) X.env).map (·.2)=assign e X.env::(OC es X.env).map (·.2):=by rfl):PGs X (e::es) (A3 t u):=by
 intro RE s σ H vs us Q I r h
 obtain⟨v,vr,e1,h⟩:=h
 subst e1
 cases r with
 | cons r rr=>
  rw [hs]
  refine OW (thn (h1 RE s σ H _ _ _ I r h) λ_ s1 z=>?_)
  obtain⟨σ1,H1,I1,q1⟩:=z
  exact h2 RE s1 σ1 H1 _ _ Q I1 rr q1
def DT(K:MF)(n:Nat)(t:TGs):TG:=λv σ H Q=>∃a xs,v= .ref a/\SqT K H a xs/\xs.length=n/\t xs σ H Q
theorem DU{k:Nat}(hc:X.calm=true)(h:PGs X es t)
 (hn:(OC es X.env).length=n:=by rfl) (hst:(OC es X.env).findIdx? (·.1)=none:=by rfl):PG X (.Tuple es k pos) (DT X.K n t):=by
 intro RE s σ H v u Q I r hw
 obtain⟨a,xs,e1,hq,hl,hw⟩:=hw
 subst e1
 cases r
 obtain⟨its,rv,ht,hz⟩:=I.tuple hq
 refine assign_Tuple_tuple (I.ok.hd hc) ht (by simp [hn,<-hl,rv.length]) hst λh' hx=>?_
 have I1:Inv X RE σ H {s with heap:=h'}:=I.kept λb o e=>hx b o (LK (LG e)) e
 exact h RE _ σ H xs _ Q I1 (by simpa using rv) hw
def DW(to ti:TE)(t:DQ):TG:=λv σ H Q=>to σ H λo H1=>ti σ H1 λi H2=>t o i v H2 λH3=>Q σ H3
theorem jV(ho:PE X o to)(hi:PE X i ti)(hs:uZ X t)
 (ha:∀v,assign (.Subscript o i pos) X.env v=(do
  let ov <-holding [v] (eval o X.env)
  let iv <-holding [v,ov] (eval i X.env)
  Pa pos
  holding [v,ov,iv] (setItem ov iv v)
  release [v,ov,iv] []):=by intro _;rfl):PG X (.Subscript o i pos) (DW to ti t):=by
 intro RE s σ H v u Q I r h
 refine Nj (NA (thn (ho RE s σ H _ I h) λov s1 zz=>?_))
 obtain⟨x,H1,I1,r1,q1⟩:=zz
 refine Nj (NA (thn (hi RE s1 σ H1 _ I1 q1) λiv s2 w=>?_))
 obtain⟨y,H2,I2,r2,q2⟩:=w
 refine Nj (Pb (Nj (NA (thn (hs RE s2 σ H2 x y v ov iv u _ I2 r1 r2 r q2) λ_ s3 z=>?_))))
 obtain⟨H3,I3,q3⟩:=z
 exact wpAny_release ⟨σ,H3,I3,q3⟩
def lU(te:TE)(g:TG):TS:=λD σ H=>te σ H λx H1=>g x σ H1 D.nx
theorem de(he:PE X e te)(hg:PG X tg g)(hs:swapsWithSole [tg] e pos.line X.env=pure false:=by rfl)(hw:swappedStores [tg] e X.env=pure none:=by rfl)
 (h1:(OC [tg] X.env).map (·.2)= [assign tg X.env]:=by rfl):PS X (.Assign [tg] e pos) (lU te g):=by
 intro RE s σ H D I h
 refine wpAny_Assign_stores (thn (he RE s σ H _ I h) λv s1 z=>?_) hs hw
 obtain⟨x,H1,I1,r1,q1⟩:=z
 rw [h1]
 exact thn (hg RE s1 σ H1 x v _ I1 r1 q1) λ_ s2 q=>q
theorem DX(hN:X.N.Nodup)(hi:X.N[i]? =some x)(hx:Loc X.env.scope x)(he:PE X e te)(hs:O3 e (some (.Name x pos')) pos.line X.env=pure false:=by rfl)(hf:X.fn x=true\/X.env.scope.names.lookup x=some .local:=by first | exact .inl rfl | exact .inr rfl | assumption):
 PS X (.Assign [.Name x pos'] e pos) (lU te (ie i)):=by
 intro RE s σ H D I h
 refine wpAny_Assign_Name (thn (he RE s σ H _ I h) λv s1 z=>?_) hs
 obtain⟨y,H1,I1,r1,q1⟩:=z
 exact jn I1 hN hi hx r1 (λs2 I2=>⟨_,H1,I2,q1⟩) hf
def DY(i j:Nat)(ta:TA):TS:=λD σ H=>ta σ H λvs H1=>∃v w,vs= [v,w]/\D.nx ((σ.set i (some v)).set j (some w)) H1
theorem DZ(hc:X.calm=true)(hN:X.N.Nodup)(hi:X.N[i]? =some x)(hj:X.N[j]? =some y)(hij:i≠j)
 (hx:X.env.scope.names.lookup x=some .local) (hy:X.env.scope.names.lookup y=some .local) (ha:PA X [a,b] ta)
 (hw:swappedStores [.Tuple [.Name x px,.Name y py] kt pt] (.Tuple [a,b] k2 pt2) X.env=pure (some [x,y]))
 (hs:swapsWithSole [.Tuple [.Name x px,.Name y py] kt pt] (.Tuple [a,b] k2 pt2) pos.line X.env=pure false:=by rfl):
 PS X (.Assign [.Tuple [.Name x px,.Name y py] kt pt] (.Tuple [a,b] k2 pt2) pos) (DY i j ta):=by
 intro RE s σ H D I h
 refine Nj (Pb ?_)
 refine Nj (Nl ?_)
 refine Nj (Tuple_ (thn (ha _ RE s σ H _ I h) λus s1 z=>?_))
 obtain⟨vs,H1,I1,r1,q1⟩:=z
 obtain⟨v,w,e1,q1⟩:=q1
 subst e1
 obtain⟨u1,u2,rfl,rv,rw'⟩:∃u1 u2,us= [u1,u2]/\RelV v u1/\RelV w u2:=by
  cases r1 with
  | cons p q=>
   cases q with
   | cons p' q'=>
    cases q'
    exact⟨_,_,rfl,p,p'⟩
 refine NS ?_ (by show 2<=Nm;decide)
 have I2:Inv X RE σ H1 {s1 with heap:=s1.heap.push {cls:=.type "tuple",data:=.seq [u1,u2].toArray}}:=I1.kept λb o e=>Lk _ e
 rw [hw]
 refine Nj (Nl ?_)
 refine Nj (OD (Nj (unpackItems_tuple (items:= #[u1,u2]) (I.ok.hd hc) (Q9.new s1.heap _) λh' hx'=>?_)))
 have I3:=I2.kept (t':=s1.toks) λb o e=>hx' b o (LK (LG e)) e
 refine Nj (OW (wpAny_bindName (jn I3 hN hj (.inl hy) rw' (λs2 I4=>?_) (.inr hy))))
 refine OW (wpAny_bindName (jn I4 hN hi (.inl hx) rv (λs3 I5=>assignInOrder_nil (Nl ?_)) (.inr hx)))
 rw [List.set_comm _ _ (Ne.symm hij)] at I5
 exact⟨_,H1,I5,q1⟩
def D8(c:TT)(tb:TS):TS:=λD σ H=>∃W:Nat->St->Hp->Prop,(∃m,W m σ H)/\∀m σ H,W m σ H->
 c σ H λb H1=>if b=true then ∃N:St->Hp->Prop,(∀σ' H',N σ' H'->∃m',m'<m/\W m' σ' H')/\tb {D with nx:=N,ct:=N,bk:=D.nx} σ H1 else D.nx σ H1
theorem d7(hp:NE (model X.prog X.w) X.A X.env X.xe)(hc:PT X c tc)(hb:PSs X body tb):PS X (.While c body [] pos) (D8 tc tb):=by
 intro RE s σ H D I h
 obtain⟨W,⟨m0,w0⟩,turn⟩:=h
 refine wpAny_While (codeAny_whileLoop (λn s'=>∃σ' H',Inv X RE σ' H' s'/\W n σ' H') ?_ m0 ⟨σ,H,I,w0⟩)
 rintro n s1 ⟨σ1,H1,I1,w1⟩
 refine N9 hp (thn (hc RE s1 σ1 H1 _ I1 (turn n σ1 H1 w1)) λb s2 z=>?_)
 obtain⟨H2,I2,q2⟩:=z
 cases b with
 | true=>
  obtain⟨N,hN,q2⟩:=q2
  refine N9 hp (thn (hb RE s2 σ1 H2 _ I2 q2) λf s3 q3=>?_)
  cases f with
  | next=>
   obtain⟨σ3,H3,I3,n3⟩:=q3
   obtain⟨m',hm,w3⟩:=hN σ3 H3 n3
   exact⟨m',hm,σ3,H3,I3,w3⟩
  | cont=>
   obtain⟨σ3,H3,I3,n3⟩:=q3
   obtain⟨m',hm,w3⟩:=hN σ3 H3 n3
   exact⟨m',hm,σ3,H3,I3,w3⟩
  | brk=>exact q3
  | ret v=>exact q3
 | false=>
  exact OP ⟨σ1,H2,I2,q2⟩
end
structure It where
 go:Nat->Hp->Prop
 yld:Nat->Hp->V->Hp->Prop
 stop:Nat->Hp->Prop
def ft(X:Cx)(RE:List (Addr×Obj))(H:Hp)(b:Addr):Prop:=
 H b=none/\b≠X.env.locals/\b∉X.fs/\(b∈X.ex\/X.s₀.heap.objs.size<=b)/\(∀x c,X.env.cells.lookup x=some c->c≠b)/\∀p∈X.pn++RE,p.1≠b
theorem Inv.fpOk{σ:St}{b:Addr}(I:Inv X RE σ H s)(hb:s.heap.objs.size<=b)(hn:H' b=none):ft X RE H' b:=by
 refine⟨hn,L5 (Ly I.lt hb),I.nofs hb,.inr (Nat.le_trans I.sz hb),λx c e z=>?_,λp hp z=>?_⟩
 ·obtain⟨v,q⟩:=I.cell x c e
  exact absurd (Ly q.lt (by rw [z];exact hb)) (L8 _)
 ·exact absurd (Ly (LG (I.pin p hp).1) (by rw [z];exact hb)) (L8 _)
structure lV(P:Np)(w:Nu)(K:MF)(tg:Expr)(J:It)(fp:List Addr)(it:Addr)(tn:Nat->Heap->Prop):Prop where
 mem:it∈fp
 obj:∀i h,tn i h->∀b∈fp,∃o,h.get? b=some o/\∀v,o.data≠.cell v
 keep:∀i h h',tn i h->(∀b∈fp,∀o,h.get? b=some o->h'.get? b=some o)->tn i h'
 item:∀(X:Cx),X.prog=P->X.w=w->X.K=K->X.calm=true->∀(i:Nat) (RE:List (Addr×Obj)) (s:Nn) (σ:St) (H:Hp) (E:Nk->Nn->Prop),Inv X RE σ H s->(∀b∈fp,ft X RE H b)->tn i s.heap->J.go i H->
  Nr (model P w) X.A (P0 (.ref it)) (λr s1=>∃u,r=some u/\
   Nr (model P w) X.A (Pu tg (.ref it) u) (λ_ s2=>∃x H',Inv X RE σ H' s2/\RelV x u/\J.yld i H x H'/\tn (i+1) s2.heap/\∀b∈fp,H' b=none) E s1) E s
 done : ∀ (X : Cx), X.prog = P → X.w = w → X.K = K → X.calm = true → ∀ (i : Nat) (RE : List (Addr × Obj)) (s : Nn) (σ : St) (H : Hp) (E : Nk → Nn → Prop), Inv X RE σ H s → (∀ b ∈ fp, ft X RE H b) → tn i s.heap → J.stop i H →
   Nr (model P w) X.A (P0 (.ref it)) (λr s1=>r=none/\Inv X RE σ H s1) E s
 self:∀(A:Nw) (i:Nat) (s:Nn) (Q:Nk->Nn->Prop) (E:Nk->Nn->Prop),tn i s.heap->Q (.ref it) s->Nr (model P w) A (pyIter (.ref it)) Q E s
abbrev TI:=St->Hp->(It->Hp->Prop)->Prop
def PIE(X:Cx)(RE:List (Addr×Obj))(σ:St)(tg:Expr)(R:It->Hp->Prop)(itv:Nk)(s2:Nn):Prop:=
 ∃(it:Addr) (fp:List Addr) (tn:Nat->Heap->Prop) (J:It) (H':Hp),itv= .ref it/\Inv X RE σ H' s2/\lV X.prog X.w X.K tg J fp it tn/\tn 0 s2.heap/\(∀b∈fp,ft X RE H' b)/\R J H'
def PI(X:Cx)(tg iter:Expr)(wi:TI):Prop:=
 ∀(RE:List (Addr×Obj)) (s:Nn) (σ:St) (H:Hp) (R:It->Hp->Prop),Inv X RE σ H s->wi σ H R->
  Nr (model X.prog X.w) X.A (eval iter X.env) (λv s1=>Nr (model X.prog X.w) X.A (pyIter v) (PIE X RE σ tg R) X.xe s1) X.xe s
theorem qw(ho:s.heap.get? it=some o)(hc:o.cls= .type n)(hd:o.data= .fields vs)
 (hn:["enumerate","zip","dict_itemiterator","dict_reverseitemiterator","odict_iterator","itertools.zip_longest","itertools.pairwise"].contains n=false) (hQ:Q () s):Nr M A (Pu tg (.ref it) u) Q E s:=by
 cases tg<;>first
  | exact Nl hQ
  | (cases u<;>first
   | exact Nl hQ
   | (refine Nj (wpAny_load ho ?_)
      rw [hc,hd]
      show Nr M A (if (["enumerate","zip","dict_itemiterator","dict_reverseitemiterator","odict_iterator","itertools.zip_longest","itertools.pairwise"].contains n&&vs[0]? ==some (O4 _))=true then _ else _) Q E s
      rw [RC (by intro h;rw [hn] at h;cases h)]
      exact Nl hQ))
def Itl(K:MF)(a:Addr):It:=
 ⟨λi H=>∃xs x,SqL K H a xs/\xs[i]? =some x,λi H x H'=>H'=H/\∀xs,SqL K H a xs->xs[i]? =some x,λi H=>∃xs,SqL K H a xs/\xs.length<=i⟩
def Itt(K:MF)(a:Addr):It:=
 ⟨λi H=>∃xs x,SqT K H a xs/\xs[i]? =some x,λi H x H'=>H'=H/\∀xs,SqT K H a xs->xs[i]? =some x,λi H=>∃xs,SqT K H a xs/\xs.length<=i⟩
def Itr(lo:Int)(n:Nat):It:=⟨λi _=>i<n,λi H x H'=>H'=H/\x= .int (lo+i),λi _=>n<=i⟩
theorem oV{K:MF}(a it:Addr):lV P w K tg (Itl K a) [it] it (λi h=>h.IsListIter it a i) where
 mem:=by simp
 obj:=λi h st b hb=>by
  have e:b=it:=by simpa using hb
  subst e
  obtain⟨o,e,c,d⟩:=st
  exact⟨o,e,λv z=>by rw [d] at z;cases z⟩
 keep:=λi h h' st k=>st.at λo e=>k it (by simp) o e
 item:=by
  intro X hP hw hK hc i RE s σ H E I hf st hg
  subst hP hw hK
  obtain⟨xs,x,hq,hx⟩:=hg
  obtain⟨its,rv,p,hz⟩:=I.list hq
  obtain⟨u,hu,ru⟩:=rv.get hx
  obtain⟨f0,f1,f2,f3,f4,f5⟩:=hf it (by simp)
  refine wpAny_pyNext_list_item st p.isList (by simpa using hu) λh' st' sb=>?_
  have I1:Inv X RE σ H {s with heap:=h'}:=I.turned (λb o hb e=>(sb.2 b hb).trans e) f0 f1 f3 f4 f5
  obtain⟨o,e,c,d⟩:=id st'
  exact⟨u,rfl,qw (s:={s with heap:=h'}) e c d (by decide) ⟨x,H,I1,ru,⟨rfl,λys hy=>by rw [I.list_inj hy hq];exact hx⟩,st',λb hb=>(hf b hb).1⟩⟩
 done := by
   intro X hP hw hK hc i RE s σ H E I hf st hg
   subst hP hw hK
   obtain⟨xs,hq,hx⟩:=hg
   obtain⟨its,rv,p,hz⟩:=I.list hq
   obtain⟨f0,f1,f2,f3,f4,f5⟩:=hf it (by simp)
   have hl:=rv.length
   exact wpAny_pyNext_list_end (I.ok.hd hc) st p.isList (by simp;lia) λh' eb=>⟨rfl,I.turned (λb o hb e=>eb b o hb e) f0 f1 f3 f4 f5⟩
 self:=λ_ _ _ _ _ st h=>wpAny_pyIter_listiter st h
theorem mG{K:MF}(a it:Addr):lV P w K tg (Itt K a) [it] it (λi h=>h.IsTupleIter it a i) where
 mem:=by simp
 obj:=λi h st b hb=>by
  have e:b=it:=by simpa using hb
  subst e
  obtain⟨o,e,c,d⟩:=st
  exact⟨o,e,λv z=>by rw [d] at z;cases z⟩
 keep:=λi h h' st k=>st.at λo e=>k it (by simp) o e
 item:=by
  intro X hP hw hK hc i RE s σ H E I hf st hg
  subst hP hw hK
  obtain⟨xs,x,hq,hx⟩:=hg
  obtain⟨its,rv,p,hz⟩:=I.tuple hq
  obtain⟨u,hu,ru⟩:=rv.get hx
  obtain⟨f0,f1,f2,f3,f4,f5⟩:=hf it (by simp)
  refine wpAny_pyNext_tuple_item st (p) (by simpa using hu) λh' st' sb=>?_
  have I1:Inv X RE σ H {s with heap:=h'}:=I.turned (λb o hb e=>(sb.2 b hb).trans e) f0 f1 f3 f4 f5
  obtain⟨o,e,c,d⟩:=id st'
  exact⟨u,rfl,qw (s:={s with heap:=h'}) e c d (by decide) ⟨x,H,I1,ru,⟨rfl,λys hy=>by rw [I.tuple_inj hy hq];exact hx⟩,st',λb hb=>(hf b hb).1⟩⟩
 done := by
   intro X hP hw hK hc i RE s σ H E I hf st hg
   subst hP hw hK
   obtain⟨xs,hq,hx⟩:=hg
   obtain⟨its,rv,p,hz⟩:=I.tuple hq
   obtain⟨f0,f1,f2,f3,f4,f5⟩:=hf it (by simp)
   have hl:=rv.length
   exact wpAny_pyNext_tuple_end (I.ok.hd hc) st (p) (by simp;lia) λh' eb=>⟨rfl,I.turned (λb o hb e=>eb b o hb e) f0 f1 f3 f4 f5⟩
 self:=λ_ _ _ _ _ st h=>wpAny_pyIter_tupleiter st h
theorem va{K:MF}(it:Addr)(lo:Int)(n:Nat):lV P w K tg (Itr lo n) [it] it (λi h=>IsRangeIter h it (lo+(i:Nat)*1) ((n:Int)-(i:Nat)) 1) where
 mem:=by simp
 obj:=λi h st b hb=>by
  have e:b=it:=by simpa using hb
  subst e
  exact⟨_,st,λv z=>by
   have z':=z
   cases z'⟩
 keep:=λi h h' st k=>k it (by simp) _ st
 item:=by
  intro X hP hw hK hc i RE s σ H E I hf st hg
  subst hP hw hK
  obtain⟨f0,f1,f2,f3,f4,f5⟩:=hf it (by simp)
  have W:=Walks.range (prog:=X.prog) (w:=X.w) (I.ok.hd hc) it lo 1 n
  refine W.item i s _ _ hg st λv h' tk hv st' kk=>?_
  obtain⟨t,rfl⟩:=hv
  have I1:Inv X RE σ H {s with heap:=h',toks:=tk}:=I.turned (λb o hb e=>kk b o (by simpa using hb) e) f0 f1 f3 f4 f5
  refine⟨_,rfl,qw (s:={s with heap:=h',toks:=tk}) st' rfl rfl (by decide) ⟨.int (lo+i),H,I1,⟨t,?_⟩,⟨rfl,rfl⟩,st',λb hb=>(hf b hb).1⟩⟩
  rw [Int.mul_one]
 done := by
   intro X hP hw hK hc i RE s σ H E I hf st hg
   obtain⟨f0,f1,f2,f3,f4,f5⟩:=hf it (by simp)
   exact wpAny_pyNext_range_end (I.ok.hd hc) st (by have:n<=i:=hg;lia) λh' eb=>⟨rfl,I.turned (λb o hb e=>eb b o hb e) f0 f1 f3 f4 f5⟩
 self:=λ_ _ _ _ _ st h=>wpAny_pyIter_rangeiter st h
section
variable{X:Cx}{tg:Expr}
def bU(K:MF)(tl:TE):TI:=λσ H R=>tl σ H λx H1=>∃a,x= .ref a/\(∃xs,SqL K H1 a xs)/\R (Itl K a) H1
def HX(K:MF)(tl:TE):TI:=λσ H R=>tl σ H λx H1=>∃a,x= .ref a/\(∃xs,SqT K H1 a xs)/\R (Itt K a) H1
theorem bp(hl:PE X l tl):PI X tg l (bU X.K tl):=by
 intro RE s σ H R I h
 refine thn (hl RE s σ H _ I h) λv s1 z=>?_
 obtain⟨x,H1,I1,r1,q1⟩:=z
 obtain⟨a,e,⟨xs,hq⟩,q⟩:=q1
 subst e
 cases r1
 obtain⟨its,rv,p,hz⟩:=I1.list hq
 apply OE p.isList
 refine⟨s1.heap.objs.size,[s1.heap.objs.size],_,_,H1,rfl,I1.kept λb o e=>Lk _ e,oV a _,⟨_,Lp _ rfl,rfl,rfl⟩,λb hb=>?_,q⟩
 have e:b=s1.heap.objs.size:=by simpa using hb
 subst e
 exact I1.fpOk (Nat.le_refl _) (I1.hok.fresh (Nat.le_refl _))
theorem D9(hl:PE X l tl):PI X tg l (HX X.K tl):=by
 intro RE s σ H R I h
 refine thn (hl RE s σ H _ I h) λv s1 z=>?_
 obtain⟨x,H1,I1,r1,q1⟩:=z
 obtain⟨a,e,⟨xs,hq⟩,q⟩:=q1
 subst e
 cases r1
 obtain⟨its,rv,p,hz⟩:=I1.tuple hq
 apply NJ (p)
 refine⟨s1.heap.objs.size,[s1.heap.objs.size],_,_,H1,rfl,I1.kept λb o e=>Lk _ e,mG a _,⟨_,Lp _ rfl,rfl,rfl⟩,λb hb=>?_,q⟩
 have e:b=s1.heap.objs.size:=by simpa using hb
 subst e
 exact I1.fpOk (Nat.le_refl _) (I1.hok.fresh (Nat.le_refl _))
theorem yM{σ:St}{lo:Int}(I:Inv X RE σ H s)(h1: -(2^62)<=lo)(h2:lo<2^62)(h3: -(2^62)<=hi)(h4:hi<2^62)
 (q:R (Itr lo (hi-lo).toNat) H):Nr (model X.prog X.w) X.A (pyIter (.ref s.heap.objs.size)) (PIE X RE σ tg R) E {s with heap:=s.heap.push {cls:=.type "range",data:=.fields #[.int lo t,.int hi u,.int 1 v]},toks:=tk}:=by
 apply wpAny_pyIter_range (IsRange.new ..) (small_one h1 h2 h3 h4)
 have I1:Inv X RE σ H {s with heap:=s.heap.push {cls:=.type "range",data:=.fields #[.int lo t,.int hi u,.int 1 v]},toks:=tk}:=I.kept λb o e=>Lk _ e
 refine⟨(s.heap.push {cls:=.type "range",data:=.fields #[.int lo t,.int hi u,.int 1 v]}).objs.size,[(s.heap.push {cls:=.type "range",data:=.fields #[.int lo t,.int hi u,.int 1 v]}).objs.size],_,_,H,rfl,
  I1.kept λb o e=>Lk _ e,va _ lo (hi-lo).toNat,?_,λb hb=>?_,q⟩
 ·have e1:lo+((0:Nat):Int)*1=lo:=by simp
  have e2:(((hi-lo).toNat:Nat):Int)-((0:Nat):Int)=ND.Range.rangeSize lo hi 1:=by rw [rangeSize_one];split<;>lia
  rw [e1,e2]
  exact Lp _ rfl
 ·have e:b=(s.heap.push {cls:=.type "range",data:=.fields #[.int lo t,.int hi u,.int 1 v]}).objs.size:=by simpa using hb
  subst e
  exact I1.fpOk (Nat.le_refl _) (I1.hok.fresh (Nat.le_refl _))
def qx(ta:TA):TI:=λσ H R=>ta σ H λvs H1=>∃j:Int,vs= [.int j]/\ -(2^62)<=j/\j<2^62/\R (Itr 0 j.toNat) H1
theorem jW(hg:Gl X "range")(hm:X.mg "range" =none)(ha:PA X [a] ta)(hs:Nt [a] X.env= [(false,eval a X.env)]:=by rfl):PI X tg (.Call (.Name "range" p) [a] [] pos) (qx ta):=by
 intro RE s σ H R I h
 refine Call_ (gH I hg hm boot_range (NP (thn (ha pos RE s σ H _ I h) λus s1 z=>?_) hs rfl))
 obtain⟨vs,H1,I1,r1,q1⟩:=z
 obtain⟨j,e,q1,q2,q⟩:=q1
 subst e
 cases r1 with
 | cons r rr=>
  cases rr
  obtain⟨t,rfl⟩:=r
  exact call_range_1 (yM I1 (by lia) (by lia) q1 q2 (by simpa using q))
def vc(wi:TI)(g:TG)(tb:TS):TS:=λD σ H=>wi σ H λJ H1=>∃W:Nat->Nat->St->Hp->Prop,(∃m,W 0 m σ H1)/\∀i m σ H,W i m σ H->
 (J.stop i H/\D.nx σ H)\/(J.go i H/\∃N:St->Hp->Prop,(∀σ' H',N σ' H'->∃m',m'<m/\W (i+1) m' σ' H')/\∀x H',J.yld i H x H'->g x σ H' λσ2 H2=>tb {D with nx:=N,ct:=N,bk:=D.nx} σ2 H2)
def jX(fp:List Addr)(h:Heap):List (Addr×Obj):=fp.filterMap λb=>(h.get? b).map λo=>(b,o)
theorem gp(hb:b∈fp)(e:h.get? b=some o):(b,o)∈jX fp h:=List.mem_filterMap.mpr ⟨b,hb,by rw [e];rfl⟩
theorem wN(hp:p∈jX fp h):p.1∈fp/\h.get? p.1=some p.2:=by
 obtain⟨b,hb,e⟩:=List.mem_filterMap.mp hp
 cases q:h.get? b with
 | none=>simp_all
 | some o=>
  rw [q] at e
  have e':=Option.some.inj e
  subst e'
  exact⟨hb,q⟩
theorem Inv.pinned{σ:St}(I:Inv X RE σ H s)(hf:∀b∈fp,ft X RE H b)(ho:∀b∈fp,∃o,s.heap.get? b=some o/\∀v,o.data≠.cell v):Inv X (RE++jX fp s.heap) σ H s:=
 I.pins_of λp hp=>(List.mem_append.mp hp).elim (λz=>I.pin p (Lu _ z)) λz=>by
  obtain⟨hb,e⟩:=wN z
  obtain⟨f0,f1,f2,_⟩:=hf p.1 hb
  obtain⟨o,e',d⟩:=ho p.1 hb
  rw [e] at e';cases e'
  exact⟨e,f0,f1,f2,d⟩
theorem Inv.unpinned{σ:St}(I:Inv X (RE++pl) σ H s):Inv X RE σ H s:=I.pins_of λp hp=>I.pin p (Lu _ (LD _ hp))
theorem cH(hp:NE (model X.prog X.w) X.A X.env X.xe)(hc:X.calm=true)(hi:PI X tg iter wi)(hg:PG X tg g)(hb:PSs X body tb)
 (hs:∀x,N3 iter X.env x=pure x:=by intro _;rfl):PS X (.For tg iter body [] pos) (vc wi g tb):=by
 intro RE s σ H D I h
 refine wpAny_For (thn (hi RE s σ H _ I h) λv s1 h1=>thn h1 λitv s2 h2=>?_) hs
 obtain⟨it,fp,tn,J,H2,e,I2,T,st2,f2,W,⟨m0,w0⟩,turn⟩:=h2
 subst e
 -- what stays true of the iterator's objects through the loop
 have stat:∀{H':Hp},(∀b∈fp,H' b=none)->∀b∈fp,ft X RE H' b:=λhn b hb=>⟨hn b hb,(f2 b hb).2⟩
 refine codeAny_forLoop_any (λn s'=>∃i σ' H',Inv X RE σ' H' s'/\tn i s'.heap/\(∀b∈fp,H' b=none)/\W i n σ' H') ?_ m0 ⟨0,σ,H2,I2,st2,λb hb=>(f2 b hb).1,w0⟩
 rintro n s3 ⟨i,σ3,H3,I3,st3,fr3,w3⟩
 rcases turn i n σ3 H3 w3 with ⟨stop,qn⟩ | ⟨go,N,hN,step⟩
 ·refine N9 hp (thn (T.done X rfl rfl rfl hc i RE s3 σ3 H3 X.xe I3 (stat fr3) st3 stop) λr s4 yy=>?_)
  obtain⟨hr,I4⟩:=yy
  subst hr
  exact OP ⟨σ3,H3,I4,qn⟩
 ·refine N9 hp (thn (T.item X rfl rfl rfl hc i RE s3 σ3 H3 X.xe I3 (stat fr3) st3 go) λr s4 zz=>?_)
  obtain⟨u,hr,h4⟩:=zz
  subst hr
  refine N9 hp (thn h4 λ_ s5 y=>?_)
  obtain⟨x,H5,I5,r5,y5,st5,fr5⟩:=y
  have I5':=I5.pinned (stat fr5) (T.obj _ _ st5)
  refine N9 hp (thn (hg _ s5 σ3 H5 x u _ I5' r5 (step x H5 y5)) λ_ s6 z=>?_)
  obtain⟨σ6,H6,I6,q6⟩:=z
  refine N9 hp (thn (hb _ s6 σ6 H6 _ I6 q6) λf s7 q7=>?_)
  have again:∀{σ7:St} {H7:Hp},Inv X (RE++jX fp s5.heap) σ7 H7 s7->N σ7 H7->∃m,m<n/\∃i σ' H',Inv X RE σ' H' s7/\tn i s7.heap/\(∀b∈fp,H' b=none)/\W i m σ' H':=λ{σ7 H7} I7 n7=>by
   obtain⟨m',hm,w7⟩:=hN σ7 H7 n7
   refine⟨m',hm,i+1,σ7,H7,I7.unpinned,T.keep _ _ _ st5 λb hb o e=>(I7.pin (b,o) (Lu _ (Lu _ (gp hb e)))).1,λb hb=>?_,w7⟩
   obtain⟨o,e,d⟩:=T.obj _ _ st5 b hb
   exact(I7.pin (b,o) (Lu _ (Lu _ (gp hb e)))).2.1
  cases f with
  | next=>obtain⟨σ7,H7,I7,n7⟩:=q7;exact again I7 n7
  | cont=>obtain⟨σ7,H7,I7,n7⟩:=q7;exact again I7 n7
  | brk=>obtain⟨σ7,H7,I7,q7⟩:=q7;exact⟨σ7,H7,I7.unpinned,q7⟩
  | ret v=>obtain⟨x7,σ7,H7,I7,r7,q7⟩:=q7;exact⟨x7,σ7,H7,I7.unpinned,r7,q7⟩
end
theorem dD{K:MF}{g:TG}{tb:TS}{D:jo}(Pv:Nat->St->Hp->Prop)(h0:Pv 0 σ H)(hl:∀i σ H,i<=xs.length->Pv i σ H->SqL K H a xs)
 (hs:∀i x σ H,xs[i]? =some x->Pv i σ H->g x σ H λσ2 H2=>tb {D with nx:=Pv (i+1),ct:=Pv (i+1),bk:=D.nx} σ2 H2) (hd:∀σ H,Pv xs.length σ H->D.nx σ H):
 ∃W:Nat->Nat->St->Hp->Prop,(∃m,W 0 m σ H)/\∀i m σ H,W i m σ H->
  ((Itl K a).stop i H/\D.nx σ H)\/((Itl K a).go i H/\∃N,(∀σ' H',N σ' H'->∃m',m'<m/\W (i+1) m' σ' H')/\∀x H',(Itl K a).yld i H x H'->g x σ H' λσ2 H2=>tb {D with nx:=N,ct:=N,bk:=D.nx} σ2 H2):=by
 refine⟨λi m σ H=>m=xs.length-i/\i<=xs.length/\Pv i σ H,⟨xs.length,by simp,Mf _,h0⟩,?_⟩
 rintro i m σ H ⟨rfl,hi,p⟩
 have q:=hl i σ H hi p
 by_cases hlt:i<xs.length
 ·refine .inr ⟨⟨xs,xs[i],q,by simp [hlt]⟩,Pv (i+1),λσ' H' p'=>⟨xs.length-(i+1),by lia,rfl,hlt,p'⟩,λx H' y=>?_⟩
  obtain⟨e,y⟩:=y
  subst e
  exact hs i x σ _ (y xs q) p
 ·have e:i=xs.length:=by lia
  subst e
  exact .inl ⟨⟨xs,q,Nat.le_refl _⟩,hd σ H p⟩
theorem jY{lo:Int}{g:TG}{tb:TS}{D:jo}(Pv:Nat->St->Hp->Prop)(h0:Pv 0 σ H)
 (hs:∀i σ H,i<n->Pv i σ H->g (.int (lo+i)) σ H λσ2 H2=>tb {D with nx:=Pv (i+1),ct:=Pv (i+1),bk:=D.nx} σ2 H2) (hd:∀σ H,Pv n σ H->D.nx σ H):
 ∃W:Nat->Nat->St->Hp->Prop,(∃m,W 0 m σ H)/\∀i m σ H,W i m σ H->
  ((Itr lo n).stop i H/\D.nx σ H)\/((Itr lo n).go i H/\∃N,(∀σ' H',N σ' H'->∃m',m'<m/\W (i+1) m' σ' H')/\∀x H',(Itr lo n).yld i H x H'->g x σ H' λσ2 H2=>tb {D with nx:=N,ct:=N,bk:=D.nx} σ2 H2):=by
 refine⟨λi m σ H=>m=n-i/\i<=n/\Pv i σ H,⟨n,by simp,Mf _,h0⟩,?_⟩
 rintro i m σ H ⟨rfl,hi,p⟩
 by_cases hlt:i<n
 ·refine .inr ⟨hlt,Pv (i+1),λσ' H' p'=>⟨n-(i+1),by lia,rfl,hlt,p'⟩,λx H' y=>?_⟩
  obtain⟨e,y⟩:=y
  subst e y
  exact hs i σ _ hlt p
 ·have e:i=n:=by lia
  subst e
  exact .inl ⟨Nat.le_refl _,hd σ H p⟩
abbrev R2:=V->V->Hp->VK->Prop
def OpR(X:Cx)(f:Nk->Nk->Sem Nk)(r:R2):Prop:=
 ∀(RE:List (Addr×Obj)) (s:Nn) (σ:St) (H:Hp) (x y:V) (v u:Nk) (Q:VK),Inv X RE σ H s->RelV x v->RelV y u->r x y H Q->
  Nr (model X.prog X.w) X.A (f v u) (EP X RE σ Q) X.xe s
def UnR(X:Cx)(f:Nk->Sem Nk)(r:V->Hp->VK->Prop):Prop:=
 ∀(RE:List (Addr×Obj)) (s:Nn) (σ:St) (H:Hp) (x:V) (v:Nk) (Q:VK),Inv X RE σ H s->RelV x v->r x H Q->
  Nr (model X.prog X.w) X.A (f v) (EP X RE σ Q) X.xe s
def bG(X:Cx)(f:Nk)(r:List V->Hp->VK->Prop):Prop:=
 ∀(RE:List (Addr×Obj)) (s:Nn) (σ:St) (H:Hp) (xs:List V) (us:List Nk) (Q:VK),Inv X RE σ H s->Vals xs us->r xs H Q->
  Nr (model X.prog X.w) X.A (call f us) (EP X RE σ Q) X.xe s
def HY(X:Cx)(r:V->Hp->(Bool->Hp->Prop)->Prop):Prop:=
 ∀(RE:List (Addr×Obj)) (s:Nn) (σ:St) (H:Hp) (x:V) (v:Nk) (Q:Bool->Hp->Prop),Inv X RE σ H s->RelV x v->r x H Q->
  Nr (model X.prog X.w) X.A (truthy v) (TP X RE σ Q) X.xe s
def tOp(r:R2)(ta tb:TE):TE:=λσ H Q=>ta σ H λx H1=>tb σ H1 λy H2=>r x y H2 Q
def tUn(r:V->Hp->VK->Prop)(ta:TE):TE:=λσ H Q=>ta σ H λx H1=>r x H1 Q
def rI(C:Int->Int->Prop)(g:Int->Int->V):R2:=λx y H Q=>∃i j,x= .int i/\y= .int j/\C i j/\Q (g i j) H
def rI0(g:Int->Int->V):R2:=λx y H Q=>∃i j,x= .int i/\y= .int j/\Q (g i j) H
def rU(g:Int->V):V->Hp->VK->Prop:=λx H Q=>∃i,x= .int i/\Q (g i) H
section
variable{X:Cx}{a b c:Expr}{ta tb tc:TE}{pos:Pos}
theorem yN(ha:PE X a ta)(hb:PE X b tb){σ:St}{R:V->V->Hp->Prop}(I:Inv X RE σ H s)
 (h:ta σ H λx H1=>tb σ H1 λy H2=>R x y H2) {f:Nk->Nk->Sem Nk}
 (hf:∀v u s2 x y H2,Inv X RE σ H2 s2->RelV x v->RelV y u->R x y H2->Nr (model X.prog X.w) X.A (f v u) Q X.xe s2):
 Nr (model X.prog X.w) X.A (eval a X.env) (λv s₁=>Nr (model X.prog X.w) X.A (eval b X.env) (λu s₂=>Nr (model X.prog X.w) X.A (f v u) Q X.xe s₂) X.xe s₁) X.xe s:=by
 refine thn (ha RE s σ H _ I h) λv s1 ⟨x,H1,I1,r1,q1⟩=>?_
 refine thn (hb RE s1 σ H1 _ I1 q1) λu s2 ⟨y,H2,I2,r2,q2⟩=>?_
 exact hf v u s2 x y H2 I2 r1 r2 q2
theorem az(ho:OpR X (OH op) r)(ha:PE X a ta)(hb:PE X b tb):PE X (.BinOp a op b pos) (tOp r ta tb):=by
 intro RE s σ H Q I h
 exact wpAny_BinOp (yN ha hb I h λv u s2 x y H2 I2 rx ry q=>ho RE s2 σ H2 x y v u Q I2 rx ry q)
theorem kO(ho:UnR X (unaryOp op) r)(ha:PE X a ta):PE X (.UnaryOp op a pos) (tUn r ta):=by
 intro RE s σ H Q I h
 exact UnaryOp_ (thn (ha RE s σ H _ I h) λv s1 z=>by obtain⟨x,H1,I1,r1,q1⟩:=z;exact ho RE s1 σ H1 x v Q I1 r1 q1)
theorem opI{g:Int->Int->Int}
 (rule:∀(i j:Int) (t u:Tok) (s:Nn) (Q:Nk->Nn->Prop) (E:Nk->Nn->Prop),C i j->Q (.int (g i j) s.toks) {s with toks:=s.toks+1}->Nr (model X.prog X.w) X.A (f (.int i t) (.int j u)) Q E s):
 OpR X f (rI C λi j=>.int (g i j)):=by
 intro RE s σ H x y v u Q I rx ry h
 obtain⟨i,j,rfl,rfl,hc,q⟩:=h
 obtain⟨t,rfl⟩:=rx
 obtain⟨t',rfl⟩:=ry
 exact rule i j t t' s _ _ hc ⟨.int (g i j),H,I.tok _,⟨_,rfl⟩,q⟩
theorem Ea{g:Int->Int->Int}
 (rule:∀(i j:Int) (t u:Tok) (s:Nn) (Q:Nk->Nn->Prop) (E:Nk->Nn->Prop),Q (.int (g i j) s.toks) {s with toks:=s.toks+1}->Nr (model X.prog X.w) X.A (f (.int i t) (.int j u)) Q E s):
 OpR X f (rI0 λi j=>.int (g i j)):=by
 intro RE s σ H x y v u Q I rx ry h
 obtain⟨i,j,rfl,rfl,q⟩:=h
 obtain⟨t,rfl⟩:=rx
 obtain⟨t',rfl⟩:=ry
 exact rule i j t t' s _ _ ⟨.int (g i j),H,I.tok _,⟨_,rfl⟩,q⟩
theorem ve{g:Int->Int->Bool}
 (rule:∀(i j:Int) (t u:Tok) (s:Nn) (Q:Nk->Nn->Prop) (E:Nk->Nn->Prop),Q (.bool (g i j)) s->Nr (model X.prog X.w) X.A (f (.int i t) (.int j u)) Q E s):
 OpR X f (rI0 λi j=>.bl (g i j)):=by
 intro RE s σ H x y v u Q I rx ry h
 obtain⟨i,j,rfl,rfl,q⟩:=h
 obtain⟨t,rfl⟩:=rx
 obtain⟨t',rfl⟩:=ry
 exact rule i j t t' s _ _ ⟨.bl (g i j),H,I,rfl,q⟩
def Eb(i j:Int):Prop:=0<j/\j<1073741824
def Ec(i j:Int):Prop:=0<=j/\j<=1000000/\i.natAbs<2^64
def CMul(i j:Int):Prop:=(-(2^64)<i/\i<2^64)\/(-(2^64)<j/\j<2^64)
theorem CMul.ok(h:CMul i j):IntMulOk i j:=by
 rcases h with ⟨h1,h2⟩ | ⟨h1,h2⟩
 ·exact .of_left (intBits_le_64 h1 h2)
 ·exact .of_right (intBits_le_64 h1 h2)
theorem bc:OpR X (OH .Add) (rI0 λi j=>.int (i+j)):=Ea λ_ _ _ _ _ _ _ q=>add_int q
theorem eN:OpR X (OH .Sub) (rI0 λi j=>.int (i-j)):=Ea λ_ _ _ _ _ _ _ q=>sub_int q
theorem eP:OpR X (OH .Mult) (rI CMul λi j=>.int (i*j)):=opI λ_ _ _ _ _ _ _ hc q=>mul_int q hc.ok
theorem iS:OpR X (OH .FloorDiv) (rI Eb λi j=>.int (i/j)):=opI λi j _ _ _ _ _ hc q=>by
 have h1:=hc.1
 have h2:=hc.2
 exact floordiv_int (by lia) (by rw [Int.fdiv_eq_ediv_of_nonneg i (by lia)];exact q) (.inl (PyProof.noPylong_small (by lia)))
theorem cI:OpR X (OH .Mod) (rI (λ_ j=>0<j) λi j=>.int (i%j)):=opI λi j _ _ _ _ _ hc q=>by
 exact mod_int' (by lia) (by rw [Int.fmod_eq_emod_of_nonneg i (by lia)];exact q)
theorem wO:OpR X (OH .Pow) (rI Ec λi j=>.int (i^j.toNat)):=opI λ_ _ _ _ _ _ _ hc q=>pow_int_small hc.1 hc.2.1 hc.2.2 q
theorem unI{g:Int->Int}
 (rule:∀(i:Int) (t:Tok) (s:Nn) (Q:Nk->Nn->Prop) (E:Nk->Nn->Prop),Q (.int (g i) s.toks) {s with toks:=s.toks+1}->Nr (model X.prog X.w) X.A (f (.int i t)) Q E s):
 UnR X f (rU λi=>.int (g i)):=by
 intro RE s σ H x v Q I rx h
 obtain⟨i,rfl,q⟩:=h
 obtain⟨t,rfl⟩:=rx
 exact rule i t s _ _ ⟨.int (g i),H,I.tok _,⟨_,rfl⟩,q⟩
theorem iT:UnR X (unaryOp .USub) (rU λi=>.int (-i)):=unI λ_ _ _ _ _ q=>neg_int q
end
def iG:V->V->Bool
 | .non,.non=>true | .non,.int _=>true | .int _,.non=>true | .non,.bl _=>true | .bl _,.non=>true | .non,.str _=>true | .str _,.non=>true
 | .int _,.int _=>true | .bl _,.bl _=>true | .str _,.str _=>true | .byt _,.byt _=>true
 | .int _,.str _=>true | .str _,.int _=>true | .bl _,.str _=>true | .str _,.bl _=>true
 | _,_=>false
def rEq:R2:=λx y H Q=>iG x y=true/\Q (.bl (decide (x=y))) H
def rNe:R2:=λx y H Q=>iG x y=true/\Q (.bl (!decide (x=y))) H
theorem tS:decide (V.int i=V.int j)=(i==j):=by
 rw [Bool.eq_iff_iff]
 simp
theorem wP:decide (V.bl i=V.bl j)=(i==j):=by
 rw [Bool.eq_iff_iff]
 simp
theorem tT:decide (V.str i=V.str j)=(i==j):=by
 rw [Bool.eq_iff_iff]
 simp
theorem tU:decide (V.byt i=V.byt j)=(i.toList==j.toList):=by
 rw [Bool.eq_iff_iff]
 cases i
 cases j
 simp
section
variable{X:Cx}{a b c:Expr}{ta tb tc:TE}{pos:Pos}
theorem aY{σ:St}(I:Inv X RE σ H s)(q:Q (.bl k) H)(e:k=k'):EP X RE σ Q (.bool k') s:=by
 subst e
 exact⟨.bl k,H,I,rfl,q⟩
theorem bz:OpR X (NO .Eq) rEq:=by
 intro RE s σ H x y v u Q I rx ry h
 obtain⟨hs,q⟩:=h
 cases x with
 | non=>
  cases rx
  cases y with
  | non=>cases ry;exact QC (aY I q (by simp))
  | bl j=>cases ry;exact QD (aY I q (by simp))
  | int j=>obtain⟨t',rfl⟩:=ry;exact QV (aY I q (by simp))
  | str j=>obtain⟨t',rfl⟩:=ry;exact QW (aY I q (by simp))
  | _=>exact absurd (hs) Bool.false_ne_true
 | bl i=>
  cases rx
  cases y with
  | non=>cases ry;exact QE (aY I q (by simp))
  | bl j=>cases ry;exact eq_bool (aY I q wP)
  | str j=>obtain⟨t',rfl⟩:=ry;exact QF (aY I q (by simp))
  | _=>exact absurd (hs) Bool.false_ne_true
 | int i=>
  obtain⟨t,rfl⟩:=rx
  cases y with
  | non=>cases ry;exact QX (aY I q (by simp))
  | int j=>obtain⟨t',rfl⟩:=ry;exact eq_int (aY I q tS)
  | str j=>obtain⟨t',rfl⟩:=ry;exact QY (aY I q (by simp))
  | _=>exact absurd (hs) Bool.false_ne_true
 | str i=>
  obtain⟨t,rfl⟩:=rx
  cases y with
  | non=>cases ry;exact QZ (aY I q (by simp))
  | bl j=>cases ry;exact QG (aY I q (by simp))
  | int j=>obtain⟨t',rfl⟩:=ry;exact Q0 (aY I q (by simp))
  | str j=>obtain⟨t',rfl⟩:=ry;exact eq_str (aY I q tT)
  | _=>exact absurd (hs) Bool.false_ne_true
 | byt i=>
  obtain⟨t,rfl⟩:=rx
  cases y with
  | byt j=>obtain⟨t',rfl⟩:=ry;exact PySem.W.eq_bytes (aY I q tU)
  | _=>exact absurd (hs) Bool.false_ne_true
 | _=>cases y<;>exact absurd (show false=true from hs) Bool.false_ne_true
theorem GL:OpR X (NO .NotEq) rNe:=by
 intro RE s σ H x y v u Q I rx ry h
 obtain⟨hs,q⟩:=h
 cases x with
 | non=>
  cases rx
  cases y with
  | non=>cases ry;exact QH (aY I q (by simp))
  | bl j=>cases ry;exact QI (aY I q (by simp))
  | int j=>obtain⟨t',rfl⟩:=ry;exact Q2 (aY I q (by simp))
  | str j=>obtain⟨t',rfl⟩:=ry;exact Q3 (aY I q (by simp))
  | _=>exact absurd (hs) Bool.false_ne_true
 | bl i=>
  cases rx
  cases y with
  | non=>cases ry;exact QJ (aY I q (by simp))
  | bl j=>cases ry;exact ne_bool (aY I q (congrArg not wP))
  | str j=>obtain⟨t',rfl⟩:=ry;exact QK (aY I q (by simp))
  | _=>exact absurd (hs) Bool.false_ne_true
 | int i=>
  obtain⟨t,rfl⟩:=rx
  cases y with
  | non=>cases ry;exact Q4 (aY I q (by simp))
  | int j=>obtain⟨t',rfl⟩:=ry;exact ne_int (aY I q (congrArg not tS))
  | str j=>obtain⟨t',rfl⟩:=ry;exact Q5 (aY I q (by simp))
  | _=>exact absurd (hs) Bool.false_ne_true
 | str i=>
  obtain⟨t,rfl⟩:=rx
  cases y with
  | non=>cases ry;exact Q6 (aY I q (by simp))
  | bl j=>cases ry;exact QL (aY I q (by simp))
  | int j=>obtain⟨t',rfl⟩:=ry;exact Q7 (aY I q (by simp))
  | str j=>obtain⟨t',rfl⟩:=ry;exact ne_str (aY I q (congrArg not tT))
  | _=>exact absurd (hs) Bool.false_ne_true
 | byt i=>
  obtain⟨t,rfl⟩:=rx
  cases y with
  | byt j=>obtain⟨t',rfl⟩:=ry;exact PySem.W.ne_bytes (aY I q (congrArg not tU))
  | _=>exact absurd (hs) Bool.false_ne_true
 | _=>cases y<;>exact absurd (show false=true from hs) Bool.false_ne_true
theorem vf:OpR X (NO .Lt) (rI0 λi j=>.bl (decide (i<j))):=ve λ_ _ _ _ _ _ _ q=>lt_int q
theorem A4:OpR X (NO .LtE) (rI0 λi j=>.bl (decide (i<=j))):=ve λ_ _ _ _ _ _ _ q=>le_int q
theorem gq:OpR X (NO .Gt) (rI0 λi j=>.bl (decide (j<i))):=ve λ_ _ _ _ _ _ _ q=>gt_int q
theorem A5:OpR X (NO .GtE) (rI0 λi j=>.bl (decide (j<=i))):=ve λ_ _ _ _ _ _ _ q=>ge_int q
theorem iU:OpR X (NO .Is) (λx y H Q=>y= .non/\Q (.bl (decide (x= .non))) H):=by
 intro RE s σ H x y v u Q I rx ry h
 obtain⟨rfl,q⟩:=h
 cases ry
 refine is_none_gen (aY I q ?_)
 cases x<;>first
  | (cases rx;rfl)
  | (obtain⟨t,rfl⟩:=rx;rfl)
theorem nX:OpR X (NO .IsNot) (λx y H Q=>y= .non/\Q (.bl (!decide (x= .non))) H):=by
 intro RE s σ H x y v u Q I rx ry h
 obtain⟨rfl,q⟩:=h
 cases ry
 refine isnot_none_gen (aY I q ?_)
 cases x<;>first
  | (cases rx;rfl)
  | (obtain⟨t,rfl⟩:=rx;rfl)
theorem wQ(b:Expr)(h:op≠.In:=by decide)(h2:op≠.NotIn:=by decide):Oo op b=false:=by
 have e1:(op==CmpOp.In)=false:=by cases op<;>first | rfl | exact absurd rfl h
 have e2:(op==CmpOp.NotIn)=false:=by cases op<;>first | rfl | exact absurd rfl h2
 cases b<;>simp [Oo,e1,e2]
theorem BO(ho:OpR X (NO op) r)(ha:PE X a ta)(hb:PE X b tb)(hm:Oo op b=false):PE X (.Compare a [op] [b] pos) (tOp r ta tb):=by
 intro RE s σ H Q I h
 exact wpAny_Compare1 (yN ha hb I h λv u s2 x y H2 I2 rx ry q=>ho RE s2 σ H2 x y v u Q I2 rx ry q) hm
def vg(t:TE):TT:=λσ H Q=>t σ H λx H'=>∃k,x= .bl k/\Q k H'
theorem iV(ho:OpR X (NO op) r)(ha:PE X a ta)(hb:PE X b tb)(hm:Oo op b=false):PT X (.Compare a [op] [b] pos) (vg (tOp r ta tb)):=by
 intro RE s σ H Q I h
 refine wpAny_isTrue_Compare1 (thn (ha RE s σ H _ I h) λv s1 ⟨x,H1,I1,r1,q1⟩=>thn (hb RE s1 σ H1 _ I1 q1) λu s2 ⟨y,H2,I2,r2,q2⟩=>
  thn (ho RE s2 σ H2 x y v u _ I2 r1 r2 q2) λc s3 ⟨z,H3,I3,r3,k,e,q3⟩=>?_) hm
 subst e
 cases r3
 exact N8 ⟨H3,I3,q3⟩
def vi(K:MF)(x:V)(H:Hp)(k:Bool):Prop:=
 match x with
 | .non=>k=false
 | .bl b=>k=b
 | .int i=>k=(i != 0)
 | .str y=>y.length<=Nm/\k=((y.length:Int) != 0)
 | .byt y=>y.size<=Nm/\k=((y.size:Int) != 0)
 | .ref p=>(∃xs,SqL K H p xs/\k= !xs.isEmpty)\/(∃xs,SqT K H p xs/\k= !xs.isEmpty)\/∃kvs,H p=some (.dK kvs)/\k= !kvs.isEmpty
 | _=>False
theorem vj(r:KV kvs vs):(!vs.isEmpty)= !kvs.isEmpty:=by
 cases r<;>rfl
theorem mH(r:Vals xs its):(!its.toArray.isEmpty)= !xs.isEmpty:=by
 cases r<;>simp
theorem mJ:(Nm:Nat)<2^63:=by decide
theorem Ed:HY X (λx H Q=>∃k,vi X.K x H k/\Q k H):=by
 intro RE s σ H x v Q I rx h
 obtain⟨k,e,q⟩:=h
 have hs:=Pc
 cases x with
 | non=>
  cases rx
  have e':=e
  subst e'
  exact truthy_none ⟨H,I,q⟩
 | bl b=>
  cases rx
  have e':=e
  subst e'
  exact N8 ⟨H,I,q⟩
 | int i=>
  obtain⟨t,rfl⟩:=rx
  have e':=e
  subst e'
  exact PySem.P.truthy_int ⟨H,I,q⟩
 | str y=>
  obtain⟨t,rfl⟩:=rx
  obtain⟨hy,e'⟩:y.length<=Nm/\k=((y.length:Int) != 0):=e
  subst e'
  exact PySem.P.truthy_str (by lia) ⟨H,I.tok _,q⟩
 | byt y=>
  obtain⟨t,rfl⟩:=rx
  obtain⟨hy,e'⟩:y.size<=Nm/\k=((y.size:Int) != 0):=e
  subst e'
  exact PySem.W.truthy_bytes (by lia) ⟨H,I.tok _,q⟩
 | ref p=>
  cases rx
  have e':=e
  rcases e' with ⟨xs,hx,e'⟩ | ⟨xs,hx,e'⟩ | ⟨kvs,hx,e'⟩
  ·subst e'
   obtain⟨its,r,pl,hz⟩:=I.list hx
   have IV:=r.length
   exact wpAny_truthy_list pl.isList (by simp only [LB];lia) ⟨H,I.tok _,by rw [mH r];exact q⟩
  ·subst e'
   obtain⟨its,r,pl,hz⟩:=I.tuple hx
   have IV:=r.length
   exact truthy_tuple pl (by simp only [LB];lia) ⟨H,I.tok _,by rw [mH r];exact q⟩
  ·subst e'
   obtain⟨hz,hS,vs,r,m⟩:kvs.length<=Nm/\(p==NX)=false/\∃vs,KV kvs vs/\s.heap.DictOf (ay X.prog X.w) p vs:=I.hok p _ hx
   have IV:=OV.length r
   exact wpAny_truthy_dict hS m (by lia) ⟨H,I.tok _,by rw [vj r];exact q⟩
 | _=>exact(e).elim
theorem d8(ha:PE X a ta)(he:∀whole,Rg a X.env whole=(do let v <-whole;Pa a.pos;holding [v] (truthy v))):
 PT X a (λσ H Q=>ta σ H λx H'=>∃k,vi X.K x H' k/\Q k H'):=by
 intro RE s σ H Q I h
 exact isTrue_plain (thn (ha RE s σ H _ I h) λv s1 z=>by obtain⟨x,H1,I1,r1,q1⟩:=z;exact Ed RE s1 σ H1 x v Q I1 r1 q1) (he _)
theorem fF(r:Vals [x] us):∃u,us= [u]/\RelV x u:=by
 cases r with
 | cons r1 r2=>cases r2;exact⟨_,rfl,r1⟩
theorem mK(r:Vals [x,y] us):∃u w',us= [u,w']/\RelV x u/\RelV y w':=by
 cases r with
 | cons r1 r2=>
  cases r2 with
  | cons r3 r4=>cases r4;exact⟨_,_,rfl,r1,r3⟩
theorem jZ(hc:X.calm=true):bG X (.builtin "max") (λxs H Q=>∃i j,xs= [.int i,.int j]/\Q (.int (if j>i then j else i)) H):=by
 intro RE s σ H xs us Q I r h
 obtain⟨i,j,rfl,q⟩:=h
 obtain⟨u,w',rfl,⟨t,rfl⟩,⟨t',rfl⟩⟩:=mK r
 refine max_two_ints (I.ok.hd hc) λh' tk k=>⟨_,H,I.kept k,?_,q⟩
 by_cases hj:j>i
 ·rw [RD hj,RD hj];exact⟨_,rfl⟩
 ·rw [RC hj,RC hj];exact⟨_,rfl⟩
theorem wR(hc:X.calm=true):bG X (.builtin "min") (λxs H Q=>∃i j,xs= [.int i,.int j]/\Q (.int (if j<i then j else i)) H):=by
 intro RE s σ H xs us Q I r h
 obtain⟨i,j,rfl,q⟩:=h
 obtain⟨u,w',rfl,⟨t,rfl⟩,⟨t',rfl⟩⟩:=mK r
 refine min_two_ints (I.ok.hd hc) λh' tk k=>⟨_,H,I.kept k,?_,q⟩
 by_cases hj:j<i
 ·rw [RD hj,RD hj];exact⟨_,rfl⟩
 ·rw [RC hj,RC hj];exact⟨_,rfl⟩
end
structure ObjM(h:Heap)(x dx C:Addr)(mA:Str->Option Nk):Prop where
 obj:h.get? x=some (N5 C dx)
 ns:h.Ns1 dx mA
 ne:dx≠x
theorem wT{h:Heap}(n:h.Ns1 dx mA):∃od,h.get? dx=some od/\∀name,O0 name od=some (mA name):=by
 obtain⟨o,es,ep,ho,hd,hk,_,hm⟩:=n
 refine⟨o,ho,λname=>?_⟩
 have e:=hm name
 unfold nsFind findBy at e
 rw [<-Array.find?_toList] at e
 unfold O0
 rw [hd]
 dsimp only
 split
 ·rename_i y q
  rw [q] at e
  exact congrArg some e
 ·rename_i q
  rw [q] at e
  have a:es.toList.any (·.refKey)=false:=by
   rw [List.any_eq_false]
   intro y hy
   obtain⟨z,t,hkey⟩:=hk y (Array.mem_toList_iff.mp hy)
   simp [Pw.refKey,hkey]
  have a':¬es.toList.any (·.refKey)=true:=by rw [a];exact Bool.false_ne_true
  rw [RC a']
  exact congrArg some e
theorem ObjM.look(I:ObjM h x dx C mA):∃od,PySem.W.InstAt h x (N5 C dx) C (some od)/\∀name,O0 name od=some (mA name):=
 let ⟨od,ho,hl⟩:=wT I.ns
 ⟨od,⟨I.obj,rfl,rfl,ho⟩,hl⟩
section
variable{prog:Np}{w:Nu}{A:Nw}{E:Nk->Nn->Prop}{s:Nn}{K:MF}{x dx C f:Addr}{mA:Str->Option Nk}{name:Str}{v:Nk}
theorem BP(X:K.In s.heap)(I:ObjM s.heap x dx C mA)(hg:OK K C name=true)(hh:O7 K C=true)
 (ha:NL K (.ref C) name=some none) (hv:mA name=some v) (hv':Qr v=true) (h:Q v {s with toks:=s.toks+1}):
 Nr (model prog w) A (Rs (.ref x) name expr) Q E s:=by
 obtain⟨od,J,hl⟩:=I.look
 exact PySem.W.get_value X J (MY hg).1 (PySem.W.findObj_own hh ha rfl (by rw [hl,hv])) hv' h
theorem yO(X:K.In s.heap)(I:ObjM s.heap x dx C mA)(hg:OK K C name=true)
 (hf:NL K (.ref C) name=some (some (.ref f))) (ht:Qo K (.ref f)=true) (hv:mA name=none) (h:Q (.ref f,[.ref x]) s):
 Nr (model prog w) A (Ou (.ref x) name pl) Q E s:=by
 obtain⟨od,J,hl⟩:=I.look
 exact PySem.W.method_fn X J (MY hg).1 (MY hg).2 hf (beq_iff_eq.mp ht) (by show(O0 name od).map (·.isSome)=some false;rw [hl,hv];rfl) h
theorem BQ(X:K.In s.heap)(I:ObjM s.heap x dx C mA)
 (hs:NL K (.ref C) "__setattr__" =some (some (.builtin "object.__setattr__"))) (hp:Qd K C=true) (ht:PF K C name=some none) (hh:O7 K C=true)
 (hw:Qn mA ns) (hsz:ns.length<=Nm)
 (h:∀h',ObjM h' x dx C (λy=>if y=name then some v else mA y)->Heap.SameBut dx s.heap h'->Q () {s with heap:=h',toks:=s.toks+2}):
 Nr (model prog w) A (setAttr (.ref x) name v) Q E s:=by
 obtain⟨od,J,hl⟩:=I.look
 refine PySem.W.set_plain X J hs (PySem.W.osa_open (s:={s with toks:=s.toks+1}) X J hp ht λb=>?_)
 obtain⟨cd,hc,hd'⟩:=PySem.W.any_some hh
 have hx:=I.obj
 refine Nj (Nl (Nj (Nj (wpAny_loadPart hx (Nj (Rv (s:={s with toks:=s.toks+1}) (PySem.W.looks_clsIn X hc) ?_))))))
 rw [hd']
 refine Nl (Nj (Nl (Nj ?_)))
 refine wpAny_nsSet1 (s:={s with toks:=s.toks+1}) I.ns λh' hn2 hs2=>?_
 obtain⟨oD,esD,epD,hoD,hdD,hcD⟩:=hn2.count (RA name v hw)
 refine Nj (wpAny_lookBehind hoD (by rw [hdD];exact pastItsLine_dict (Nat.le_trans hcD (by rw [Lw];lia))) ?_)
 exact Nl (h _ ⟨(hs2.2 _ (Ne.symm I.ne)).trans I.obj,hn2,I.ne⟩ hs2)
theorem yP(X:K.In s.heap)(hm:QB K C=true)
 (hi:NL K (.ref C) "__init__" =some (some (.ref f))) (hf:OT K (.ref f)=some (.type "function"))
 (h:OJ (model prog w) (A.under (.builtin "type.__call__" ⟨.ref C::vs,kw⟩)) (.call (.ref f) ⟨.ref (s.heap.objs.size+1)::vs,kw⟩) (PySem.W.InitBack (s.heap.objs.size+1) R)
  {s with heap:=(s.heap.push NT).push (N5 C s.heap.objs.size)}):
 OJ (model prog w) A (.call (.ref C) ⟨vs,kw⟩) R s:=by
 exact PySem.W.make_core (PySem.W.makes_of X hm) (PySem.W.looks_findIn X hi) (λself=>PySem.W.bind_fn X self hf) (.inl rfl) h
end
def bM(f:Str)(v:V):List (Str×V)->List (Str×V)
 | []=>[(f,v)]
 | (g,x)::r=>if g=f then (g,v)::r else (g,x)::bM f v r
theorem lA(f g:Str)(v:V):∀fs:List (Str×V),(bM f v fs).lookup g=if g=f then some v else fs.lookup g
 | []=>by
  show List.lookup g [(f,v)]=_
  by_cases h:g=f
  ·have hb:=beq_iff_eq.mpr h
   simp only [List.lookup,hb,RD h]
  ·have hb:=beq_eq_false_iff_ne.mpr h
   simp only [List.lookup,hb,RC h]
 | (k,x)::r=>by
  have ih:=lA f g v r
  rw [show bM f v ((k,x)::r)=(if k=f then (k,v)::r else (k,x)::bM f v r) from rfl]
  by_cases hk:k=f
  ·rw [RD hk]
   by_cases h:g=k
   ·have hb:=beq_iff_eq.mpr h
    simp only [List.lookup,hb,RD (h.trans hk)]
   ·have hb:=beq_eq_false_iff_ne.mpr h
    simp only [List.lookup,hb,RC (λe:g=f=>h (e.trans hk.symm))]
  ·rw [RC hk]
   by_cases h:g=k
   ·have hb:=beq_iff_eq.mpr h
    simp only [List.lookup,hb,RC (λe:g=f=>hk (h.symm.trans e))]
   ·have hb:=beq_eq_false_iff_ne.mpr h
    simp only [List.lookup,hb]
    exact ih
theorem j0(f:Str)(v:V):∀fs:List (Str×V),f∈(bM f v fs).map (·.1)/\∀g,g∈fs.map (·.1)->g∈(bM f v fs).map (·.1)
 | []=>⟨by simp [bM],λg h=>by simp at h⟩
 | (k,x)::r=>by
  obtain⟨i1,i2⟩:=j0 f v r
  rw [show bM f v ((k,x)::r)=(if k=f then (k,v)::r else (k,x)::bM f v r) from rfl]
  by_cases hk:k=f
  ·grind
  ·rw [RC hk]
   refine⟨?_,λg h=>?_⟩
   ·rw [Ls]
    exact Lm _ i1
   ·rw [Ls] at h⊢
    rcases List.mem_cons.mp h with e | e
    ·exact List.mem_cons.mpr (.inl e)
    ·exact Lm _ (i2 g e)
theorem lB(f:Str)(v:V):∀fs:List (Str×V),(bM f v fs).length<=fs.length+1
 | []=>by simp [bM]
 | (k,x)::r=>by
  have ih:=lB f v r
  rw [show bM f v ((k,x)::r)=(if k=f then (k,v)::r else (k,x)::bM f v r) from rfl]
  by_cases hk:k=f
  ·grind
  ·simp_all
theorem RelO.some_of(r:RelO (some v) o):∃u,o=some u/\RelV v u:=by
 cases o with
 | none=>exact(r).elim
 | some u=>exact⟨u,rfl,r⟩
theorem RelO.none_of(r:RelO none o):o=none:=by
 cases o with
 | none=>rfl
 | some u=>exact(r).elim
theorem wU(r:RelV v u):Qr u=true:=by
 cases v with
 | non=>cases (r);rfl
 | bl b=>cases (r);rfl
 | int i=>obtain⟨t,e⟩:=(r);cases e;rfl
 | str x=>obtain⟨t,e⟩:=(r);cases e;rfl
 | byt b=>obtain⟨t,e⟩:=(r);cases e;rfl
 | flt b=>obtain⟨t,e⟩:=(r);cases e;rfl
 | ref a=>cases (r);rfl
 | ty n=>cases (r);rfl
section
variable{P:Np}{w:Nu}{H H':Hp}{h h':Heap}{a C dx:Addr}{fs fs':List (Str×V)}
theorem nY(hok:HOk P w H h)(e:H a=some (.ins C dx fs)):∃mA,ObjM h a dx C mA/\(∀f,RelO (fs.lookup f) (mA f))/\Qn mA (fs.map (·.1))/\fs.length<=1000/\H dx=some (.own a):=by
 obtain⟨d,z,ne,ob,mA,n,r,q⟩:=(hok a _ e)
 exact⟨mA,⟨ob,n,ne⟩,r,q,z,d⟩
end
structure Cls(K:MF)(C:Addr):Prop where
 pg:OK K C Str.empty=true
 hd:O7 K C=true
 po:Qd K C=true
 sa:NL K (.ref C) "__setattr__" =some (some (.builtin "object.__setattr__"))
theorem Cls.get{K:MF}(c:Cls K C)(f:Str):OK K C f=true:=c.pg
def NoAttr(K:MF)(C:Addr)(f:Str):Prop:=NL K (.ref C) f=some none
theorem NoAttr.taker{K:MF}(n:NoAttr K C f):PF K C f=some none:=by
 unfold PF
 rw [show NL K (.ref C) f=some none from n]
 rfl
structure lW(K:MF)(C:Addr)(m:Str)(f:Addr):Prop where
 at_:NL K (.ref C) m=some (some (.ref f))
 fn:Qo K (.ref f)=true
 kp:Oq K (.ref f)=true
section
variable{X:Cx}{RE:List (Addr×Obj)}{σ:St}{H:Hp}{s:Nn}{a C dx:Addr}{fs:List (Str×V)}{f:Str}{v:V}{A:Nw}{E:Nk->Nn->Prop}
theorem vk(I:Inv X RE σ H s)(e:H a=some (.ins C dx fs))(c:Cls X.K C)(n:NoAttr X.K C f)(l:fs.lookup f=some v)
 (h:∀u s',Inv X RE σ H s'->RelV v u->Q u s'):Nr (model X.prog X.w) A (Rs (.ref a) f b) Q E s:=by
 obtain⟨mA,O,r,_⟩:=nY I.hok e
 obtain⟨u,hu,ru⟩:=RelO.some_of (by rw [<-l];exact r f)
 exact BP I.kIn O (c.get f) c.hd n hu (wU ru) (h u _ (I.tok _) ru)
theorem dH(I:Inv X RE σ H s)(e:H a=some (.ins C dx fs))(c:Cls X.K C)(k:lW X.K C m g)(l:fs.lookup m=none)
 (h:Q (.ref g,[.ref a]) s):Nr (model X.prog X.w) A (Ou (.ref a) m pl) Q E s:=by
 obtain⟨mA,O,r,_⟩:=nY I.hok e
 have hn:=RelO.none_of (by rw [<-l];exact r m)
 exact yO I.kIn O (c.get m) k.at_ k.fn hn h
theorem vm(I:Inv X RE σ H s)(e:H a=some (.ins C dx fs))(c:Cls X.K C)(n:NoAttr X.K C f)(hl:fs.length<1000)(ry:RelV y u)
 (h:∀s',Inv X RE σ (upd H a (.ins C dx (bM f y fs))) s'->Q () s'):Nr (model X.prog X.w) A (setAttr (.ref a) f u) Q E s:=by
 obtain⟨mA,O,r,wi,_,ho⟩:=nY I.hok e
 have hz:(fs.map (·.1)).length<=Nm:=by rw [Ln,Pc];lia
 refine BQ I.kIn O c.sa c.po n.taker c.hd wi hz λh' O' sb=>h _ ?_
 have hd:∃o,h'.get? dx=some o:=let ⟨o,_,_,e',_⟩:=O'.ns;⟨o,e'⟩
 refine I.write (by rw [e];exact True.intro) (.inr ho) (λb q hb z=>(sb.2 b hb).trans z) hd ?_
 refine⟨by rw [aN O.ne];exact ho,?_,O.ne,O'.obj,_,O'.ns,λg=>?_,λg hg=>?_⟩
 ·have:=lB f y fs;lia
 ·show RelO ((bM f y fs).lookup g) (if g=f then some u else mA g)
  rw [lA]
  by_cases q:g=f
  ·rw [RD q,RD q];exact ry
  ·simp_all
 ·by_cases q:g=f
  ·rw [q];exact(j0 f y fs).1
  ·refine(j0 f y fs).2 g (wi g λz=>hg ?_)
   show(if g=f then some u else mA g)=none
   rw [RC q];exact z
theorem Inv.made(I:Inv X RE σ H s):Inv X RE σ (upd (upd H s.heap.objs.size (.own (s.heap.objs.size+1))) (s.heap.objs.size+1) (.ins C s.heap.objs.size []))
 {s with heap:=(s.heap.push NT).push (N5 C s.heap.objs.size)}:=by
 have e1:(s.heap.push NT).get? s.heap.objs.size=some NT:=Lp s.heap rfl
 have e2:((s.heap.push NT).push (N5 C s.heap.objs.size)).get? (s.heap.objs.size+1)=some (N5 C s.heap.objs.size):=by
  have:=Lp (s.heap.push NT) (o:=N5 C s.heap.objs.size) rfl
  rwa [LS] at this
 have e3:(s.heap.push NT).Ns s.heap.objs.size (λ_=>none):=⟨NT, #[],_,e1,rfl,(λe he=>absurd he (by simp)),λ_=>rfl⟩
 have I1:=I.laid (o:=.own (s.heap.objs.size+1)) (t':=s.toks) (λb u q=>Lk _ q) (Nat.le_refl _) ⟨_,e1⟩
 refine I1.laid (o:=.ins C s.heap.objs.size []) (λb u q=>Lk _ q) (M0 (LS _ _)) ?_
 have ne:s.heap.objs.size≠s.heap.objs.size+1:=LK (ML _)
 refine⟨by rw [aN ne,aB],Mf _,ne,e2,λ_=>none,(Heap.Ns1.of_empty e3).at λo q=>Lk _ q,λ_=>True.intro,λy hy=>absurd rfl hy⟩
theorem BR(hb:NU e f env (eval e env)=eval e env)
 (h:Nr (model prog w) A (eval e env) (λo s₁=>Nr (model prog w) A (Rs o f true) Q E s₁) E s):Nr (model prog w) A (eval (.Attribute e f pos) env) Q E s:=
 Attribute_any_ h (by rw [arm_eval_Attribute,hb])
end
section
variable{X:Cx}{o e value:Expr}{f:Str}{pos pos' tpos:Pos}{ta tv:TE}
end
section
variable{X:Cx}{RE:List (Addr×Obj)}{σ:St}{H:Hp}{s:Nn}{A:Nw}{E:Nk->Nn->Prop}{Q:Nk->Nn->Prop}{c:Nk}{b:Bool}
inductive fw (K:MF) (H:Hp):V->Nk->Prop where
 | non:fw K H .non (.type "NoneType")
 | bl (x:Bool):fw K H (.bl x) (.type "bool")
 | int (i:Int):fw K H (.int i) (.type "int")
 | str (x:Str):fw K H (.str x) (.type "str")
 | flt (x:UInt64):fw K H (.flt x) (.type "float")
 | lst {a:Addr} {xs:List V} (e:H a=some (.lst xs)):fw K H (.ref a) (.type "list")
 | frz {a:Addr} {o:Obj} {xs:List V} (e:H a=some (.frz o (.lst xs))):fw K H (.ref a) (.type "list")
 | tup {a:Addr} {xs:List V} (e:H a=some (.tup xs)):fw K H (.ref a) (.type "tuple")
 | dK {a:Addr} {kvs:List (Key×V)} (e:H a=some (.dK kvs)):fw K H (.ref a) (.type "dict")
 | dT {a:Addr} {kvs:List (List Key×V)} (e:H a=some (.dT kvs)):fw K H (.ref a) (.type "dict")
 | ins {a C dx:Addr} {fs:List (Str×V)} (e:H a=some (.ins C dx fs)) (cl:Cls K C) (ha:NL K (.ref C) "__class__" =some (some (.builtin "object.__class__")))
  (hn:PySem.W.specialIn K (.builtin "object.__class__") "__get__" =some (some (.builtin "getset_descriptor.__get__"))) (htk:PySem.W.takesIn K (.builtin "object.__class__")=some true)
  (hm:PySem.W.mroIn K C (.type "object")=some true):fw K H (.ref a) (.ref C)
end
structure Room(k:Nat)(A:Nw):Prop where
 hd:A.handled=none
 dp:A.depth+3*k+5<recursionLimit
 un:A.units+16*k+200<Po
theorem Room.mono(r:Room k A)(h:j<=k):Room j A:=⟨r.hd,by have:=r.dp;lia,by have:=r.un;lia⟩
theorem Room.deeper(r:Room (k+1) A)(env:Env):Room k (A.deeper env):=
 ⟨r.hd,by have:=r.dp;show A.depth+1+3*k+5<_;lia,by have:=r.un;show A.units+3+16*k+200<_;lia⟩
theorem vp{A:Nw}:(A.under (.builtin "type.__call__" ⟨.ref C::us,kw⟩)).depth=A.depth+1:=by rfl
theorem vq{A:Nw}:(A.under (.builtin "type.__call__" ⟨.ref C::us,kw⟩)).units=A.units+1:=by rfl
theorem Room.make(r:Room (k+1) A)(C:Addr)(us:List Nk)(kw:List (Str×Nk)):Room k (A.under (.builtin "type.__call__" ⟨.ref C::us,kw⟩)):=
 ⟨r.hd,by have:=r.dp;rw [vp];lia,by have:=r.un;rw [vq];lia⟩
theorem Room.depth(r:Room k A):A.depth<recursionLimit:=by have:=r.dp;lia
theorem Room.units(r:Room k A):A.units+64<Po:=by have:=r.un;lia
def jq:TA:=λ_ H Q=>Q [] H
def dI(ta:TE)(tr:TA):TA:=λσ H Q=>ta σ H λx H1=>tr σ H1 λxs H2=>Q (x::xs) H2
section
variable{X:Cx}{e:Expr}{es:List Expr}{te:TE}{t:TA}{pos:Pos}
theorem a0:PA X [] jq:=λ_ _ _ _ H Q I h=>Calls.spliced_nil ⟨[],H,I,.nil,h⟩
theorem tV(ha:PE X e te)(hr:PA X es t)(hs:Nt (e::es) X.env=(false,eval e X.env)::Nt es X.env:=by rfl):PA X (e::es) (dI te t):=by
 intro pos RE s σ H Q I h
 rw [hs]
 show Nr _ _ (spliced ((false,eval e X.env)::Oi pos (Nt es X.env))) _ _ s
 refine Calls.spliced_cons (thn (ha RE s σ H _ I h) λu s1 y=>?_)
 obtain⟨x,H1,I1,r1,q1⟩:=y
 exact thn (hr pos RE s1 σ H1 _ I1 q1) λus s2 z=>by obtain⟨xs,H2,I2,r2,q2⟩:=z;exact⟨x::xs,H2,I2,.cons r1 r2,q2⟩
def HZ(t:TA):TE:=λσ H Q=>t σ H λxs H1=>xs.length<=Nm/\∀p,H1 p=none->Q (.ref p) (upd H1 p (.tup xs))
def Ia(t:TA):TE:=λσ H Q=>t σ H λxs H1=>xs.length<=Nm/\∀p,H1 p=none->Q (.ref p) (upd H1 p (.lst xs))
theorem Ee(h:PA X es t):PE X (.Tuple es x1 pos) (HZ t):=by
 intro RE s σ H Q I hq
 refine wpAny_Tuple_spliced (thn (h pos RE s σ H _ I hq) λus s1 ⟨xs,H1,I1,r,z,q⟩=>⟨by rw [<-r.length];exact z,?_⟩)
 have hf:=I1.hok.fresh (Nat.le_refl _)
 refine⟨.ref s1.heap.objs.size,upd H1 s1.heap.objs.size (.tup xs),I1.laid (λb u e=>Lk _ e) (Nat.le_refl _) ?_,rfl,q _ hf⟩
 exact⟨z,us,r,⟨_,Lp _ rfl,rfl,_,rfl⟩⟩
theorem Ef(h:PA X es t):PE X (.List es pos) (Ia t):=by
 intro RE s σ H Q I hq
 refine wpAny_List_spliced (thn (h pos RE s σ H _ I hq) λus s1 ⟨xs,H1,I1,r,z,q⟩=>⟨by rw [<-r.length];exact z,?_⟩)
 have hf:=I1.hok.fresh (Nat.le_refl _)
 refine⟨.ref s1.heap.objs.size,upd H1 s1.heap.objs.size (.lst xs),I1.laid (λb u e=>Lk _ e) (Nat.le_refl _) ?_,rfl,q _ hf⟩
 exact⟨z,us,0,r,Lp _ rfl⟩
end
abbrev Sp:=List V->Hp->VK->XK->Prop
abbrev CXT:=List Env->Hp->Nn->XK->Nk->Nn->Prop
structure Env0(P:Np)(w:Nu)(K:MF)(mg:Str->Option Nk)(base:Heap)(A:Nw)(outer:List Env)(s:Nn)(H:Hp):Prop where
 frames:A.frames=some outer
 mod:Mod K mg base
 bs:∀b o,base.get? b=some o->s.heap.get? b=some o/\H b=none
 bsz:base.objs.size<=s.heap.objs.size
 funs:s.heap.FunFrames base outer
 frf:∀b∈frs outer,H b=none
 hok:HOk P w H s.heap
 bare:Pt s.gens
def CE(outer:List Env)(P:Np)(w:Nu)(H:Hp)(s:Nn)(Q:VK)(u:Nk)(s':Nn):Prop:=
 ∃v H',s'.os=s.os/\Pt s'.gens/\Un (frs outer) [] H H' s.heap s'.heap/\HOk P w H' s'.heap/\RelV v u/\Q v H'
def CR(CX:CXT)(outer:List Env)(P:Np)(w:Nu)(H:Hp)(s:Nn)(Q:VK)(E:XK)(r:Result)(s':Nn):Prop:=
 match r with
 | .ok (.ret u)=>CE outer P w H s Q u s'
 | .ok _=>False
 | .error e=>CX outer H s E e s'
structure d9(P:Np)(w:Nu)(K:MF)(mg:Str->Option Nk)(base:Heap)(CX:CXT)(k:Nat)(f:Addr)(fd:P1)(ps:List Str)(sp:Sp):Prop where
 len:∀vs H Q E,sp vs H Q E->vs.length=ps.length
 run:∀(A:Nw) (outer:List Env) (s:Nn) (H:Hp) (args:Args) (us:List Nk) (vs:List V) (Q:VK) (E:XK),Room k A->Env0 P w K mg base A outer s H->P8 s fd args (ps.zip us)->Vals vs us->sp vs H Q E->
  OJ (model P w) A (.call (.ref f) args) (CR CX outer P w H s Q E) s
theorem Env0.make{K:MF}(e:Env0 P w K mg base A outer s H)(C:Addr)(us:List Nk)(kw:List (Str×Nk)):
 Env0 P w K mg base (A.under (.builtin "type.__call__" ⟨.ref C::us,kw⟩)) outer s H:=⟨by first | exact e.frames | (simpa [Nw.under,Code.envs,Code.isFrame,pushEnvs] using e.frames),e.mod,e.bs,e.bsz,e.funs,e.frf,e.hok,e.bare⟩
section
variable{X:Cx}{RE:List (Addr×Obj)}{σ:St}{H:Hp}{s s':Nn}
theorem Inv.env0(I:Inv X RE σ H s):Env0 X.prog X.w X.K X.mg X.base X.A X.stack s H:=
 ⟨I.ok.frames,I.ok.mod,I.bs,Nat.le_trans I.ok.bsz I.sz,I.stack,I.stkFree,I.hok,I.bare⟩
theorem Inv.after(I:Inv X RE σ H s)(h:CE X.stack X.prog X.w H s Q u s'):EP X RE σ Q u s':=by
 obtain⟨v,H',os,bare,un,hok,r,q⟩:=h
 obtain⟨hh,g,d,t,os'⟩:=s'
 obtain rfl:os'=s.os:=os
 exact⟨v,H',I.call (ch:=[]) un hok bare (λb z=>absurd z (by simp)),r,q⟩
end
def GM(sp:Sp)(dvs:List V)(E:XK)(t:TA):TE:=λσ H Q=>t σ H λvs H1=>sp (vs++dvs) H1 Q E
def A7(C:Addr)(m:Str)(sp:Sp)(dvs:List V)(E:XK)(ta:TE)(t:TA):TE:=λσ H Q=>ta σ H λx H1=>∃a dx fs,x= .ref a/\H1 a=some (.ins C dx fs)/\fs.lookup m=none/\
 t σ H1 λvs H2=>sp (x::(vs++dvs)) H2 Q E
def Binds(K:MF)(fd:P1)(ps:List Str)(ds:List Nk):Prop:=
 ∀(s:Nn) (us:List Nk),K.In s.heap->(us++ds).length=ps.length->P8 s fd ⟨us,[]⟩ (ps.zip (us++ds))
theorem Binds.all{K:MF}(h:∀us:List Nk,us.length=ps.length->Qt fd ⟨us,[]⟩=pure (ps.zip us)):Binds K fd ps []:=λs us _ hl=>by
 rw [LQ] at hl⊢
 exact .of_eq (h us hl)
def iW(CX:CXT)(X:Cx)(E:XK):Prop:=∀(RE:List (Addr×Obj)) (σ:St) (H:Hp) (s:Nn) (e:Nk) (s':Nn),Inv X RE σ H s->CX X.stack H s E e s'->X.xe e s'
section
variable{X:Cx}{CX:CXT}{k:Nat}{f C:Addr}{fd:P1}{ps:List Str}{sp:Sp}{dvs:List V}{ds:List Nk}{E:XK}{x m:Str}{p pos apos:Pos}{e o:Expr}{es:List Expr}{ta:TE}{t:TA}
theorem fO{σ:St}(F:d9 X.prog X.w X.K X.mg X.base CX k f fd ps sp)(hr:Room k X.A)(hb:Binds X.K fd ps ds)(hd:Vals dvs ds)(hx:iW CX X E)
 (I:Inv X RE σ H s) (r:Vals vs us) (h:sp (vs++dvs) H Q E):Nr (model X.prog X.w) X.A (call (.ref f) us) (EP X RE σ Q) X.xe s:=by
 have r2:=r.append hd
 have hl:(us++ds).length=ps.length:=by rw [<-r2.length];exact F.len _ _ _ _ h
 refine QQ (Px (F.run X.A X.stack s H ⟨us,[]⟩ (us++ds) (vs++dvs) Q E hr I.env0 (hb s us I.kIn hl) r2 h) λr s' hq=>?_)
 cases r with
 | error e=>exact hx RE σ H s e s' I hq
 | ok fl=>
  cases fl with
  | ret u=>exact I.after hq
  | next=>exact False.elim hq
  | brk=>exact False.elim hq
  | cont=>exact False.elim hq
theorem BS(F:d9 X.prog X.w X.K X.mg X.base CX k f fd ps sp)(hr:Room k X.A)(hg:Gl X x)(hm:X.mg x=some (.ref f))(hk:Oq X.K (.ref f)=true)(hb:Binds X.K fd ps ds)(hd:Vals dvs ds)(hx:iW CX X E)
 (ha:PA X (e::es) t) (hdb:(x==("__debug__":Str))=false:=by decide) (he:Nt (e::es) X.env=(false,eval e X.env)::Nt es X.env:=by rfl) (hpl:(Oi pos (Nt es X.env)).any (·.1)=false:=by rfl):
 PE X (.Call (.Name x p) (e::es) [] pos) (GM sp dvs E t):=by
 intro RE s σ H Q I h
 refine Og (iN I hg hm ?_ hdb)
 refine ME I.ok.mod.kin hk (thn (ha pos RE s σ H _ I h) λus s1 ⟨vs,H1,I1,r,q⟩=>⟨I1.kIn,?_⟩) he hpl
 exact fO F hr hb hd hx I1 r q
theorem BU{pl:Sem Bool}(he:PE X o ta)(c:Cls X.K C)(hm:lW X.K C m f)(F:d9 X.prog X.w X.K X.mg X.base CX k f fd ps sp)(hr:Room k X.A)(hb:Binds X.K fd ps ds)(hd:Vals dvs ds)(hx:iW CX X E)(ha:PA X (e::es) t)
 (hst:Nt (e::es) X.env=(false,eval e X.env)::Nt es X.env:=by rfl) (hpl:(Oi pos (Nt es X.env)).any (·.1)=false:=by rfl)
 (ht:eval (.Call (.Attribute o m apos) (e::es) [] pos) X.env=(do
  let ov <-eval o X.env
  Pa apos.atName
  let (f,first) <-holding [ov] (Ou ov m pl)
  PL pos f first (Oi pos (Nt (e::es) X.env)) (Ov pos (N4 [] X.env))):=by rfl):
 PE X (.Call (.Attribute o m apos) (e::es) [] pos) (A7 C m sp dvs E ta t):=by
 intro RE s σ H Q I h
 refine Mm (thn (he RE s σ H _ I h) λu s1 z=>?_) ht
 obtain⟨x,H1,I1,rx,a,dx,fs,ex,ea,l,q⟩:=z
 subst ex
 obtain rfl:u=Nk.ref a:=rx
 apply dH I1 ea c hm l
 refine ME (first:=[.ref a]) I.ok.mod.kin hm.kp (thn (ha pos RE s1 σ H1 _ I1 q) λus s2 ⟨vs,H2,I2,r,q2⟩=>⟨I2.kIn,?_⟩) hst hpl
 exact fO (vs:=.ref a::vs) F hr hb hd hx I2 (.cons rfl r) q2
theorem yQ(he:PE X o ta)(c:Cls X.K C)(hm:lW X.K C m f)(F:d9 X.prog X.w X.K X.mg X.base CX k f fd ps sp)(hr:Room k X.A)(hb:Binds X.K fd ps ds)(hd:Vals dvs ds)(hx:iW CX X E)
 (ht:eval (.Call (.Attribute o m apos) [] [] pos) X.env=(do
  let ov <-eval o X.env
  Pa apos.atName
  let (f,first) <-holding [ov] (Ou ov m pl)
  PL pos f first (Oi pos (Nt [] X.env)) (Ov pos (N4 [] X.env))):=by rfl):
 PE X (.Call (.Attribute o m apos) [] [] pos) (A7 C m sp dvs E ta jq):=by
 intro RE s σ H Q I h
 refine Mm (thn (he RE s σ H _ I h) λu s1 z=>?_) ht
 obtain⟨x,H1,I1,rx,a,dx,fs,ex,ea,l,q⟩:=z
 subst ex
 obtain rfl:u=Nk.ref a:=rx
 apply dH I1 ea c hm l
 exact MQ (first:=[.ref a]) I1.kIn hm.kp (fO (us:=[.ref a]) (vs:=[.ref a]) F hr hb hd hx I1 (.cons rfl .nil) q)
structure Mk(K:MF)(C f:Addr):Prop where
 makes:QB K C=true
 init:NL K (.ref C) "__init__" =some (some (.ref f))
 fn:Qo K (.ref f)=true
 kp:Oq K (.ref C)=true
theorem qJ{σ:St}(M:Mk X.K C f)(F:d9 X.prog X.w X.K X.mg X.base CX k f fd ps sp)(hr:Room (k+1) X.A)(hb:Binds X.K fd ps ds)(hd:Vals dvs ds)
 (hx:iW CX X E) (I:Inv X RE σ H s) (r:Vals vs us)
 (h:∀x dx,H x=none->H dx=none->dx≠x->sp (.ref x::(vs++dvs)) (upd (upd H dx (.own x)) x (.ins C dx [])) (λv H2=>v= .non/\Q (.ref x) H2) E):
 Nr (model X.prog X.w) X.A (call (.ref C) us) (EP X RE σ Q) X.xe s:=by
 have hq:=h (s.heap.objs.size+1) s.heap.objs.size (I.hok.fresh (MS _)) (I.hok.fresh (Nat.le_refl _)) (LK (ML _))
 have I2:=Inv.made (C:=C) I
 have r2:Vals (V.ref (s.heap.objs.size+1)::(vs++dvs)) (Nk.ref (s.heap.objs.size+1)::(us++ds)):=.cons rfl (r.append hd)
 have hl:(Nk.ref (s.heap.objs.size+1)::us++ds).length=ps.length:=by
  have e:=r2.length
  rw [F.len _ _ _ _ hq] at e
  exact e.symm
 refine QQ (yP I.kIn M.makes M.init (beq_iff_eq.mp M.fn) (Px (F.run _ X.stack _ _ ⟨Nk.ref (s.heap.objs.size+1)::us,[]⟩ (Nk.ref (s.heap.objs.size+1)::(us++ds)) _ _ E (hr.make C us [])
  (I2.env0.make C us []) (hb _ (Nk.ref (s.heap.objs.size+1)::us) I2.kIn hl) r2 hq) λr s' hq'=>?_))
 cases r with
 | error e=>exact hx RE σ _ _ e s' I2 hq'
 | ok fl=>
  cases fl with
  | ret u=>
   obtain⟨v,H',I3,rv,ev,q3⟩:=I2.after hq'
   subst ev
   exact⟨rv,⟨V.ref (s.heap.objs.size+1),H',I3,rfl,q3⟩⟩
  | next=>exact False.elim hq'
  | brk=>exact False.elim hq'
  | cont=>exact False.elim hq'
end
section
variable{X:Cx}{CX:CXT}{k:Nat}{f C:Addr}{fd:P1}{ps ks:List Str}{sp:Sp}{E:XK}{x m:Str}{p pos apos kpos:Pos}{e o:Expr}{es:List Expr}{kws:List OZ}{te ta:TE}{t tk:TA}{nm:Option Str}
variable{g:List Nk->List Nk->List Nk}{gV:List V->List V->List V}
end
structure am(N P:List Str)(sc:OS):Prop where
 kind:sc.kind= .function
 co:sc.isCoroutine=false
 gen:sc.isGenerator=false
 nd:N.Nodup
 pre:N.take P.length=P
 par:∀x∈P,sc.names.lookup x=some .local\/sc.names.lookup x=some .cell
 nofree:∀y∈sc.names,y.2≠.free
theorem oW{kindOf:Str->Option NZ}:∀{binds:List (Str×Nk)} {m:Str->Option Nk},(∀v,(x,v)∉binds)->Rx kindOf binds m x=m x
 | [],_,_=>rfl
 | (n,v)::r,m,h=>by
  unfold Rx
  rw [oW λw hw=>h w (Lm _ hw)]
  split
  ·have:x≠n:=by rintro rfl;exact h v Ll
   simp [this]
  ·rfl
theorem oX{kindOf:Str->Option NZ}:∀{binds:List (Str×Nk)} {m:Str->Option Nk},(∀v,(x,v)∉binds)->Ry kindOf binds m x=m x
 | [],_,_=>rfl
 | (n,v)::r,m,h=>by
  unfold Ry
  rw [oX λw hw=>h w (Lm _ hw)]
  split
  ·rfl
  ·have:x≠n:=by rintro rfl;exact h v Ll
   simp [this]
theorem oY{kindOf:Str->Option NZ}{x:Str}{v:Nk}:∀{P:List Str} {vs:List Nk} {i:Nat} {m:Str->Option Nk},P.Nodup->P[i]? =some x->vs[i]? =some v->kindOf x=some .local->
 Rx kindOf (P.zip vs) m x=some v
 | [],_,_,_,_,h,_,_=>by simp at h
 | _::_,[],_,_,_,_,h,_=>by simp at h
 | p::P,w::vs,0,m,nd,h1,h2,hk=>by
  simp at h1 h2;subst h1;subst h2
  show Rx kindOf ((p,w)::P.zip vs) m p=_
  unfold Rx
  rw [oW λv hv=>(List.nodup_cons.mp nd).1 (M3 hv).1,RD hk]
  simp
 | p::P,w::vs,i+1,m,nd,h1,h2,hk=>by
  show Rx kindOf ((p,w)::P.zip vs) m x=_
  exact oY (i:=i) (List.nodup_cons.mp nd).2 (by simpa using h1) (by simpa using h2) hk
theorem oZ{kindOf:Str->Option NZ}{x:Str}{v:Nk}:∀{P:List Str} {vs:List Nk} {i:Nat} {m:Str->Option Nk},P.Nodup->P[i]? =some x->vs[i]? =some v->kindOf x≠some .local->
 Ry kindOf (P.zip vs) m x=some v
 | [],_,_,_,_,h,_,_=>by simp at h
 | _::_,[],_,_,_,_,h,_=>by simp at h
 | p::P,w::vs,0,m,nd,h1,h2,hk=>by
  simp at h1 h2;subst h1;subst h2
  show Ry kindOf ((p,w)::P.zip vs) m p=_
  unfold Ry
  rw [oX λv hv=>(List.nodup_cons.mp nd).1 (M3 hv).1,RC hk]
  simp
 | p::P,w::vs,i+1,m,nd,h1,h2,hk=>by
  show Ry kindOf ((p,w)::P.zip vs) m x=_
  exact oZ (i:=i) (List.nodup_cons.mp nd).2 (by simpa using h1) (by simpa using h2) hk
def start(N:List Str)(vs:List V):St:=vs.map some++List.replicate (N.length-vs.length) none
def eU(CX:CXT)(P:Np)(w:Nu)(K:MF)(mg:Str->Option Nk)(base:Heap)(N:List Str)(qual:Str)(scope:OS)(f:Addr)(cd:Nk)(A:Nw)(outer:List Env)(s:Nn)(H:Hp)(E:XK):Cx where
 prog:=P
 w:=w
 K:=K
 mg:=mg
 base:=base
 A:=A.deeper (N0 qual scope s.heap.objs.size f cd)
 N:=N
 s₀:=s
 H₀:=H
 env:=N0 qual scope s.heap.objs.size f cd
 outer:=outer
 stack:=N0 qual scope s.heap.objs.size f cd::outer
 ex:=[]
 calm:=true
 fn:=λ_=>true
 pn:=[]
 xe:=λe s'=>Nr (model P w) (A.deeper (N0 qual scope s.heap.objs.size f cd)) (leaving (N0 qual scope s.heap.objs.size f cd) e) (λ_ s''=>CX outer H s E e s'') (λe' s''=>CX outer H s E e' s'') s'
theorem qK{sc:OS}(h:sc.names.lookup x=some .cell):∃c,(Rh n sc.names []).lookup x=some c:=by
 have q:=MX sc.names n [] (.inl h)
 exact Option.isSome_iff_exists.mp q
theorem wV{K:MF}
 (S:am N ps scope) (hd:A.handled=none) (e0:Env0 P w K mg base A outer s H) (hl:vs.length=ps.length) (r:Vals vs us)
 (x:InCallC s s.heap.objs.size (Rx (N0 qual scope s.heap.objs.size f cd).kindOf (ps.zip us) λ_=>none) (Rh (s.heap.objs.size+1) scope.names []) (Ry (N0 qual scope s.heap.objs.size f cd).kindOf (ps.zip us) λ_=>none) s1):
 Inv (eU CX P w K mg base N qual scope f cd A outer s H E) [] (start N vs) H s1:=by
 have hpl:ps.length<=N.length:=by have:=congrArg List.length S.pre;rw [Ma] at this;lia
 obtain⟨h1,tk,rfl,hk⟩:=x.done
 have noA:∀b:Addr,b∉(eU CX P w K mg base N qual scope f cd A outer s H E).ex:=λb z=>absurd (show b∈([]:List Addr) from z) (by simp)
 refine⟨⟨e0.mod,S.kind,rfl,rfl,Nat.le_refl _,λy z c h1 h2=>?_,λy hy=>?_,λy c _ h=>?_,λ_=>hd,Nw.frames_deeper e0.frames,.inr ⟨rfl,rfl⟩,λb z=>absurd z (noA b),e0.bs,e0.bsz,λb _ _=>noA b,λb z=>absurd z (noA b),e0.funs,e0.frf⟩,
  rfl,e0.bare,Un.kept hk,⟨_,x.toInCall.ns,λi y v h1 h2 h3=>?_⟩,λy c h=>⟨_,x.cell y c h⟩,e0.hok.fresh (Nat.le_refl _),λy c h=>?_,λp hp=>absurd (show p∈([]:List (Addr×Obj)) from hp) (by simp),e0.hok.kept hk,?_⟩
 ·exact name_of_addr x.apart (N6 h1) (N6 h2)
 ·have hy:=hy
  rcases hy with hy | hy
  ·exact qK hy
  ·exact absurd rfl (S.nofree _ (N6 hy))
 ·exact Nat.le_of_lt (x.above y c (N6 h))
 ·have hi:i<vs.length:=by
   unfold start at h2
   by_cases hi:i<vs.length
   ·exact hi
   ·rw [List.getElem?_append_right (by simpa using hi)] at h2
    rw [List.getElem?_replicate] at h2
    split at h2<;>cases h2
  have ha:vs[i]? =some v:=by
   unfold start at h2
   rw [LY (by simpa using hi),LF] at h2
   cases e:vs[i]? with
   | none=>simp_all
   | some a=>simp_all
  obtain⟨u,hu,rv⟩:=r.get ha
  have hp:ps[i]? =some y:=by
   rw [<-S.pre,List.getElem?_take_of_lt (by lia)];exact h1
  have ndP:ps.Nodup:=by rw [<-S.pre];exact S.nd.sublist (List.take_sublist _ _)
  refine⟨u,rv,?_⟩
  rcases S.par y (LC hp) with k | k
  ·exact .inl ⟨k,oY ndP hp hu k⟩
  ·obtain⟨c,e⟩:=qK k
   refine .inr ⟨.inl k,c,e,?_⟩
   have q:=x.cell y c e
   rw [oZ ndP hp hu (by show scope.names.lookup y≠_;rw [k];decide)] at q
   exact q
 ·exact e0.hok.fresh (Nat.le_of_lt (x.above y c (N6 h)))
 ·unfold start
  show _=N.length
  rw [Lq,Ln,Md]
  lia
theorem mL{K:MF}{kV:Nk}
 (lk:K.lookup f=some ⟨oc,od,.func (Qp name qual params body scope dV kV doc pm an cdv ct),osl⟩) (hcd:QM K cdv qual=true) (S:am N ps scope)
 (len:∀vs H Q E,sp vs H Q E->vs.length=ps.length)
 (hbody:∀(A:Nw) (outer:List Env) (s:Nn) (H:Hp) (vs:List V) (Q:VK) (E:XK),Room k (A.deeper (N0 qual scope s.heap.objs.size f cdv))->sp vs H Q E->
  ∃t,PSs (eU CX P w K mg base N qual scope f cdv A outer s H E) body t/\t {nx:=λ_ H'=>Q .non H',rt:=Q} (start N vs) H):
 d9 P w K mg base CX (k+1) f (Qp name qual params body scope dV kV doc pm an cdv ct) ps sp:=by
 refine⟨len,λA outer s H args us vs Q E hr e0 hb r hsp=>?_⟩
 have hl:=len _ _ _ _ hsp
 have KX:=e0.mod.kin.keeps λb o e=>(e0.bs b o e).1
 have lim:=e0.mod.nolimit.keeps λb o e=>(e0.bs b o e).1
 have hkind:∀y∈ps.zip us,scope.names.lookup y.1=some .local\/(scope.names.lookup y.1=some .cell/\((Rh (s.heap.objs.size+1) scope.names []).lookup y.1).isSome=true):=λ⟨n,v⟩ hy=>by
  rcases S.par n (M3 hy).1 with q | q
  ·exact .inl q
  ·exact .inr ⟨q,MX _ _ _ (.inl q)⟩
 refine codeAny_call_function hr.depth (KX _ _ lk) rfl S.co S.gen rfl (PySem.W.codeRec_of KX hcd) (hb _ _ _ _ ?_)
 refine wpAny_newFunctionEnv_cells S.kind hkind λenv he s1 x=>?_
 subst he
 refine⟨lim.keeps x.toInCall.keep,codeAny_func ?_⟩
 obtain⟨t,ht,hq⟩:=hbody A outer s H vs Q E (hr.deeper _) hsp
 have I:Inv (eU CX P w K mg base N qual scope f cdv A outer s H E) [] (start N vs) H s1:=wV S hr.hd e0 hl r x
 refine NC (ht [] s1 (start N vs) H _ I hq) (λfl s' hs=>?_) λe s' hs=>hs
 have fin:∀{σ':St} {H':Hp} {v:V} {u:Nk},Inv (eU CX P w K mg base N qual scope f cdv A outer s H E) [] σ' H' s'->RelV v u->Q v H'->CE outer P w H s Q u s':=
  λ{σ' H' v u} J rv q=>⟨v,H',J.os,J.bare,J.base,J.hok,rv,q⟩
 cases fl with
 | ret u=>
  obtain⟨v,σ',H',J,rv,q⟩:=hs
  exact fin J rv q
 | next=>
  obtain⟨σ',H',J,q⟩:=hs
  exact fin (v:=V.non) J rfl q
 | brk=>
  obtain⟨_,_,_,q⟩:=hs
  exact False.elim q
 | cont=>
  obtain⟨_,_,_,q⟩:=hs
  exact False.elim q
section
variable{X:Cx}{x:Str}{p pos:Pos}{e:Expr}{es:List Expr}{t:TA}{id T:String}{r:List V->Hp->VK->Prop}
def tCB(r:List V->Hp->VK->Prop)(t:TA):TE:=λσ H Q=>t σ H λvs H1=>r vs H1 Q
theorem yR(hc:bG X (.builtin id) r)(hg:Gl X x)(hm:X.mg x=none)(hv:NN x=some (.builtin id))(ha:PA X (e::es) t)(hn:x≠"__name__":=by decide)(hdb:(x==("__debug__":Str))=false:=by decide)
 (he:Nt (e::es) X.env=(false,eval e X.env)::Nt es X.env:=by rfl) (hpl:(Oi pos (Nt es X.env)).any (·.1)=false:=by rfl):PE X (.Call (.Name x p) (e::es) [] pos) (tCB r t):=by
 intro RE s σ H Q I h
 refine Og (gH I hg hm hv ?_ hn hdb)
 exact Qq (thn (ha pos RE s σ H _ I h) λus s1 z=>by obtain⟨vs,H1,I1,r1,q1⟩:=z;exact hc RE s1 σ H1 vs us Q I1 r1 q1) he hpl
theorem wW(hc:bG X (.type T) r)(hg:Gl X x)(hm:X.mg x=none)(hv:NN x=some (.type T))(ha:PA X (e::es) t)(hn:x≠"__name__":=by decide)(hdb:(x==("__debug__":Str))=false:=by decide)
 (he:Nt (e::es) X.env=(false,eval e X.env)::Nt es X.env:=by rfl) (hpl:(Oi pos (Nt es X.env)).any (·.1)=false:=by rfl):PE X (.Call (.Name x p) (e::es) [] pos) (tCB r t):=by
 intro RE s σ H Q I h
 refine Og (gH I hg hm hv ?_ hn hdb)
 exact NP (thn (ha pos RE s σ H _ I h) λus s1 ⟨vs,H1,I1,r1,q1⟩=>hc RE s1 σ H1 vs us Q I1 r1 q1) he hpl
end
end L2
namespace HT
open PySem PyProof.Rows
def aF:List Int->List Int->Bool
 | [],[]=>false
 | [],_::_=>true
 | _::_,[]=>false
 | x::xs,y::ys=>if x=y then aF xs ys else decide (x<y)
theorem bC(x y:Int)(xs ys:List Int):aF (x::xs) (y::ys)=if x=y then aF xs ys else decide (x<y):=rfl
theorem lexLt_nil_nil:aF [] []=false:=rfl
theorem lexLt_nil_cons(y:Int)(ys:List Int):aF [] (y::ys)=true:=rfl
theorem lexLt_cons_nil(x:Int)(xs:List Int):aF (x::xs) []=false:=rfl
theorem yS(A:Nw)(s:Nn)(a:Int)(t:Tok)(c:Int)(u:Tok):∃e,SeqAt.EqAt A s (.int a t) (.int c u) e/\(e=true↔a=c):=
 ⟨(a==c),SeqAt.EqAt.int_int a t c u,by simp⟩
theorem yT(A:Nw)(s:Nn)(a:Int)(t:Tok)(c:Int)(u:Tok)(prog:Np)(w:Nu)(E:Nk->Nn->Prop)(Q:Nk->Nn->Prop)(h:Q (.bool (decide (a<c))) s):
 Nr (model prog w) A (richCompare .Lt (.int a t) (.int c u)) Q E s:=
 (Ru h:Nr (model prog w) A (NO .Lt (.int a t) (.int c u)) Q E s)
section
open PySem.SeqAt
open PySem.AutoSeq1 renaming wpAny_loadPart'→MG
open PySem.MeetsSeq PySem.MeetsSeq2 PySem.MeetsSeq3
theorem p9(l b:Addr)(items items2:Array Nk)(n n2:Nat)(dd dd2:Option Addr)(sl sl2:Array (Option Nk))(ns ms:List Int)(hi:N7 items.toList ns)(hj:N7 items2.toList ms):
 Meets (ND.«tuple.__lt__» ⟨[.ref l,.ref b],[]⟩)
  (λ_ R s=>s.heap.get? l=some {cls:=.type "tuple",dict:=dd,data:=.seq items n,slots:=sl}/\s.heap.get? b=some {cls:=.type "tuple",dict:=dd2,data:=.seq items2 n2,slots:=sl2}/\
   R (.ok (.ret (.bool (aF ns ms)))) s):=
 .of_wp λprog w A R s h=>by
  obtain⟨hp,g,d,tk,os⟩:=s;obtain⟨hl,hb,h⟩:=h
  have f2:=AutoSeq1.sub_tuple_tuple
  have z1:items.size=ns.length:=by rw [<-hi.length];simp
  have z2:items2.size=ms.length:=by rw [<-hj.length];simp
  wp_walk using MG hl,MG hb,wpAny_forIn_list _ (λrest b s'=>b.1=none/\s'=⟨hp,g,d,tk,os⟩/\∃(vs ws:List Nk) (ns' ms':List Int),rest=vs.zip ws/\
   N7 vs ns'/\N7 ws ms'/\ns'.length+items2.size=ms'.length+items.size/\R (.ok (.ret (.bool (aF ns' ms')))) ⟨hp,g,d,tk,os⟩) _
  case turn=>
   rintro⟨y,x⟩ rest b s' ⟨hb',rfl,vs,ws,ns',ms',hz,hvi,hwi,IV,hR⟩
   cases hvi with
   | nil=>rw [List.zip_nil_left] at hz;cases hz
   | cons a t hvi'=>
    cases hwi with
    | nil=>rw [List.zip_nil_right] at hz;cases hz
    | cons c u hwi'=>
     rw [List.zip_cons_cons] at hz
     injection hz with hyx hrest
     injection hyx with hy hx
     subst hy hx
     rw [bC] at hR
     simp only [Lw] at IV
     obtain⟨e,he,hiff⟩:=yS A.in1 ⟨hp,g,d,tk,os⟩ a t c u
     refine Nj (he prog w _ _ ?_)
     cases e with
     | true=>
      rw [RD (hiff.mp rfl)] at hR
      wp_walk
      exact⟨rfl,rfl,_,_,_,_,hrest,hvi',hwi',by lia,hR⟩
     | false=>
      rw [RC (λq=>absurd (hiff.mpr q) Bool.false_ne_true)] at hR
      have hri:=yT A.in1 ⟨hp,g,d,tk,os⟩ a t c u prog w
      wp_walk using hri
      exact⟨_,rfl,by simpa using hR⟩
  case fin=>
   rintro⟨b1,b2⟩ s' ⟨hb',rfl,vs,ws,ns',ms',hz,hvi,hwi,IV,hR⟩
   simp only at hb'
   subst hb'
   have hv:aF ns' ms'=decide (items.size<items2.size):=by
    cases hvi with
    | nil=>
     cases hwi with
     | nil=>
      exact(decide_eq_false (by lia)).symm
     | cons c u hw=>
      simp only [Mr,Lw] at IV
      exact(decide_eq_true (by lia)).symm
    | cons a t hv=>
     cases hwi with
     | nil=>
      simp only [Mr,Lw] at IV
      exact(decide_eq_false (by lia)).symm
     | cons c u hw=>
      cases hz
   rw [hv] at hR
   wp_walk
   exact⟨_,rfl,by simpa [ND.Tuple.tupleCompareSizes] using hR⟩
  case h=>
   exact⟨rfl,rfl,items.toList,items2.toList,ns,ms,rfl,hi,hj,by lia,h⟩
end
section
variable{prog:Np}{w:Nu}{A:Nw}{E:Nk->Nn->Prop}{s:Nn}
theorem vt(hl:Q9 s.heap l items)(hb:Q9 s.heap b items2)(hi:N7 items.toList ns)(hj:N7 items2.toList ms)
 (hu:A.units<Po) (h:Q (.bool (aF ns ms)) s):Nr (model prog w) A (NO .Lt (.ref l) (.ref b)) Q E s:=by
 obtain⟨⟨cls,dd,data,sl⟩,ho,hc,n,hd⟩:=id hl
 obtain⟨⟨cls2,dd2,data2,sl2⟩,ho2,hc2,n2,hd2⟩:=id hb
 simp only at hc hd hc2 hd2
 subst hc hd hc2 hd2
 exact richCompare_meets_room (op:=.Lt) ⟨_,ho,rfl⟩ ⟨_,ho2,rfl⟩ PySem.F.slot_tuple_lt PySem.F.entry_tuple_lt (PySem.F.args_tuple_lt_2 _ _) (p9 l b items items2 n n2 dd dd2 sl sl2 ns ms hi hj)
  ⟨ho,ho2,show Nk.bool (aF ns ms)≠Nk.notImplemented/\Q (.bool (aF ns ms)) s from ⟨(λx=>nomatch x),h⟩⟩ hu
theorem BV(ht:Q9 s.heap t vs.toArray)(hb:Q9 s.heap b ws.toArray)(hv:vs≠[])
 (h1:ws= []->Q (.ref t) s) (h2:ws≠[]->Q (.ref s.heap.objs.size) {s with heap:=s.heap.push {cls:=.type "tuple",data:=.seq (vs++ws).toArray}})
 (hsz:vs.length+ws.length<=Nm):Nr (model prog w) A (OH .Add (.ref t) (.ref b)) Q E s:=by
 obtain⟨⟨cls,dd,data,sl⟩,ho,hc,n,hd⟩:=id ht
 obtain⟨⟨cls2,dd2,data2,sl2⟩,ho2,hc2,n2,hd2⟩:=id hb
 simp only at hc hd hc2 hd2
 subst hc hd hc2 hd2
 have e:vs.toArray++ws.toArray=(vs++ws).toArray:=by simp
 by_cases hw:ws= []
 ·exact concat_meets ⟨_,ho,rfl⟩ ⟨_,ho2,rfl⟩ noFill_tuple_add seq_tuple_add Pq Ph (O8 _ _)
   (tuple_addW1 t b vs.toArray ws.toArray n n2 dd dd2 sl sl2 (by simpa using hv) (by simp [hw])) ⟨ho,ho2,h1 hw⟩
 ·refine concat_meets ⟨_,ho,rfl⟩ ⟨_,ho2,rfl⟩ noFill_tuple_add seq_tuple_add Pq Ph (O8 _ _)
   (tuple_addW2 t b vs.toArray ws.toArray n n2 dd dd2 sl sl2 (by simpa using hv) (by simpa using hw) (by rw [LB];exact hsz)) ⟨ho,ho2,?_⟩
  rw [e]
  exact h2 hw
def sIx(n d:Nat):Option Int->Nat
 | none=>d
 | some v=>if v<0 then (v+(n:Int)).toNat else min v.toNat n
theorem sIx_le(n d:Nat)(hd:d<=n)(o:Option Int):sIx n d o<=n:=by
 cases o with
 | none=>exact hd
 | some v=>
  show(if v<0 then (v+(n:Int)).toNat else min v.toNat n)<=n
  by_cases hv:v<0
  ·grind
  ·rw [RC hv];exact Nat.min_le_right _ _
theorem tW(v:Int)(n d:Nat):(if v<0 then max (v+(n:Int)) 0 else min v (n:Int))=((sIx n d (some v):Nat):Int):=by
 show(if v<0 then max (v+(n:Int)) 0 else min v (n:Int))=(((if v<0 then (v+(n:Int)).toNat else min v.toNat n):Nat):Int)
 by_cases hv:v<0
 ·grind
 ·grind
theorem vv(lo hi:Option Int)(n:Nat):ND.Slice.sliceAdjust lo hi 1 (n:Int)=(((sIx n 0 lo:Nat):Int),((sIx n n hi:Nat):Int)):=by
 refine Prod.ext ?_ ?_
 ·cases lo with
  | none=>rfl
  | some v=>exact tW v n 0
 ·cases hi with
  | none=>rfl
  | some v=>exact tW v n n
theorem vw(i j:Nat):ND.Slice.slicePlaces (i:Int) (j:Int) 1=j-i:=by
 unfold ND.Slice.slicePlaces
 have h1:(1:Int)>0:=by lia
 simp only [h1,if_true,Int.ediv_one]
 split<;>lia
theorem mM(p:Qu v o)(h:Q o s):Nr (model prog w) A (ND.Slice.slicePartIndex v) Q E s:=by
 cases p with
 | none=>exact slicePart_none h
 | int i t=>exact slicePart_int h
theorem lX{lo:Option Int}{n:Nat}(hs:s.heap.IsSliceOf sl vl vu .none)(pl:Qu vl lo)(pu:Qu vu hi)
 (h:Q (((sIx n 0 lo:Nat):Int),1,sIx n n hi-sIx n 0 lo) s):Nr (model prog w) A (ND.Slice.sliceApplied (.ref sl) (pure (n:Int))) Q E s:=by
 obtain⟨os,hos,hcs,hds⟩:=id hs
 refine Nj (Nj (Nv hos hds (x:=vl) rfl (Nj (Nv hos hds (x:=vu) rfl (Nj (Nv hos hds rfl (Nl ?_)))))))
 refine Nj (slicePart_none ?_)
 refine Nj (mM pl (Nj (mM pu (Nj (Nl ?_)))))
 show Nr _ _ (match ND.Slice.sliceAdjust lo hi 1 (n:Int) with | (lo,hi)=>pure (lo,(1:Int),ND.Slice.slicePlaces lo hi 1)) _ _ s
 rw [vv lo hi n]
 show Nr _ _ (pure (((sIx n 0 lo:Nat):Int),(1:Int),ND.Slice.slicePlaces ((sIx n 0 lo:Nat):Int) ((sIx n n hi:Nat):Int) 1)) _ _ s
 rw [vw]
 exact Nl h
theorem yU(xs:Array Nk)(i k:Nat):((List.range k).filterMap λ(m:Nat)=>xs[((i:Int)+(m:Int)*1).toNat]?).toArray=((xs.toList.drop i).take k).toArray:=by
 have e:(λ(m:Nat)=>xs[((i:Int)+(m:Int)*1).toNat]?)=λm=>xs[i+m]?:=by
  funext m
  have:((i:Int)+(m:Int)*1).toNat=i+m:=by lia
  rw [this]
 rw [e]
 have:=pick_run xs i k
 rw [List.filterMap_map] at this
 have e2:((λx=>xs[x]?)∘λx=>i+x)=λm=>xs[i+m]?:=rfl
 rw [e2] at this
 rw [this]
theorem lj{lo:Option Int}(ht:Q9 s.heap t items)(hs:s.heap.IsSliceOf sl vl vu .none)(pl:Qu vl lo)(pu:Qu vu hi)
 (hw:¬(sIx items.size 0 lo=0/\sIx items.size items.size hi=items.size))
 (h:Q (.ref s.heap.objs.size) {s with heap:=s.heap.push {cls:=.type "tuple",data:=.seq ((items.toList.drop (sIx items.size 0 lo)).take (sIx items.size items.size hi-sIx items.size 0 lo)).toArray}})
 (hsz:items.size<=Nm):Nr (model prog w) A (PV (.ref t) (.ref sl)) Q E s:=by
 have htake:sizeOk (.seq ((items.toList.drop (sIx items.size 0 lo)).take (sIx items.size items.size hi-sIx items.size 0 lo)).toArray):=by
  show((items.toList.drop (sIx items.size 0 lo)).take (sIx items.size items.size hi-sIx items.size 0 lo)).toArray.size<=Nm
  rw [LB,Ma,MO,Array.length_toList]
  lia
 obtain⟨os,hos,hcs,hds⟩:=id hs
 have hTs:s.TypeIs (.ref sl) "slice":=⟨os,hos,hcs⟩
 unfold PV
 try with_reducible apply NA
 first | apply Nj (Nl) | skip
 refine Nj (wpAny_sequenceKey ht.typeIs (by decide) ?_)
 refine Nj (NB ht.typeIs OG
  (NF OG ht.typeIs entry_tuple_getitem ?_ (args_tuple_getitem _ _)))
 show Nr _ _ (ND.Tuple.tupleItemsOf (.ref t) >>= _) _ _ s
 refine Nj (tupleItemsOf_ ht ?_)
 refine Nj (OX hTs ?_)
 refine Nj (lX hs pl pu ?_)
 have hno:¬((((sIx items.size 0 lo:Nat):Int)==0&&(1:Int)==1&&(sIx items.size items.size hi-sIx items.size 0 lo)==items.size)=true):=by
  intro q
  rw [Mc,Mc] at q
  have q1:=eq_of_beq q.1.1
  have q2:=eq_of_beq q.2
  exact hw ⟨by lia,by lia⟩
 show Nr _ _ (if (((sIx items.size 0 lo:Nat):Int)==0&&(1:Int)==1&&(sIx items.size items.size hi-sIx items.size 0 lo)==items.size)=true then _ else _) _ _ s
 rw [RC hno,yU]
 first
  | exact Nj (NS (Nl ⟨_,rfl,Nl h⟩) htake)
  | exact Nj (NS (Nj (Nl (Nl ⟨_,rfl,Nl h⟩))) htake)
  | exact Nj (Nj (NS (Nl (Nl ⟨_,rfl,Nl h⟩)) htake))
  | exact Nj (Nj (NS (Nl ⟨_,rfl,Nl h⟩) htake))
end
end HT
namespace L2
open PySem PySem.Spec PyProof.Rows
abbrev TO:=St->Hp->(Option Int->Hp->Prop)->Prop
def PO(X:Cx)(e:Option Expr)(t:TO):Prop:=
 ∀(RE:List (Addr×Obj)) (s:Nn) (σ:St) (H:Hp) (Q:Option Int->Hp->Prop),Inv X RE σ H s->t σ H Q->
  Nr (model X.prog X.w) X.A (evalPart e X.env) (λu s'=>∃o H',Inv X RE σ H' s'/\Qu u o/\Q o H') X.xe s
def tX:TO:=λ_ H Q=>Q none H
def A8(t:TE):TO:=λσ H Q=>t σ H λx H1=>∃i,x= .int i/\Q (some i) H1
theorem jr:∀{us:List Nk},Vals (ns.map V.int) us->N7 us ns:=by
 induction ns with
 | nil=>intro us r;cases r;exact .nil
 | cons n ns ih=>
  intro us r
  cases r with
  | cons r1 r2=>
   obtain⟨t,e⟩:=r1
   subst e
   exact .cons n t (ih r2)
section
variable{X:Cx}{e:Expr}{te:TE}{lo hi:Option Expr}{tl th:TO}{pos p2:Pos}
theorem nZ:PO X none tX:=by
 intro RE s σ H Q I h
 exact Nl ⟨none,H,I,.none,h⟩
theorem iX(h:PE X e te):PO X (some e) (A8 te):=by
 intro RE s σ H Q I hw
 refine thn (h RE s σ H _ I hw) λu s1 z=>?_
 obtain⟨x,H1,I1,r1,q1⟩:=z
 obtain⟨i,rfl,q⟩:=q1
 obtain⟨t,rfl⟩:=r1
 exact⟨some i,H1,I1,.int i t,q⟩
def SlR(X:Cx)(r:V->Option Int->Option Int->Hp->VK->Prop):Prop:=
 ∀(RE:List (Addr×Obj)) (s:Nn) (σ:St) (H:Hp) (x:V) (v vl vu:Nk) (lo hi:Option Int) (sl:Addr) (Q:VK),Inv X RE σ H s->RelV x v->s.heap.IsSliceOf sl vl vu .none->Qu vl lo->Qu vu hi->r x lo hi H Q->
  ∃T id,OO (.type T) "__getitem__" =pure (some (.builtin id))/\s.TypeIs v T/\Nr (model X.prog X.w) X.A (PV v (.ref sl)) (EP X RE σ Q) X.xe s
def tSl(r:V->Option Int->Option Int->Hp->VK->Prop)(te:TE)(tl th:TO):TE:=λσ H Q=>te σ H λx H1=>tl σ H1 λl H2=>th σ H2 λu H3=>r x l u H3 Q
theorem js(hr:SlR X r)(he:PE X e te)(hl:PO X lo tl)(hu:PO X hi th):PE X (.Subscript e (.Slice lo hi none p2) pos) (tSl r te tl th):=by
 intro RE s σ H Q I h
 refine QR (thn (he RE s σ H _ I h) λv s1 y=>?_)
 obtain⟨x,H1,I1,r1,q1⟩:=y
 refine wpAny_Slice (thn (hl RE s1 σ H1 _ I1 q1) λvl s2 ⟨l,H2,I2,pl,q2⟩=>thn (hu RE s2 σ H2 _ I2 q2) λvu s3 z=>?_)
 obtain⟨u,H3,I3,pu,q3⟩:=z
 apply Nl
 have I4:Inv X RE σ H3 {s3 with heap:=s3.heap.push {cls:=.type "slice",data:=.fields #[vl,vu,.none]}}:=I3.kept λb ob q=>Lk _ q
 obtain⟨T,id,hT,ht,hg⟩:=hr RE {s3 with heap:=s3.heap.push {cls:=.type "slice",data:=.fields #[vl,vu,.none]}} σ H3 x v vl vu l u s3.heap.objs.size Q I4 r1 (Heap.IsSliceOf.new ..) pl pu q3
 exact tail_any (ops:=[.ref s3.heap.objs.size,v]) ht hT hg (by with_unfolding_all rfl)
def gb(xs:List V)(lo hi:Option Int):List V:=(xs.drop (HT.sIx xs.length 0 lo)).take (HT.sIx xs.length xs.length hi-HT.sIx xs.length 0 lo)
theorem lC(xs:List V)(lo hi:Option Int):(gb xs lo hi).length<=xs.length:=by
 unfold gb
 rw [Ma,MO]
 lia
def Ib(K:MF):V->Option Int->Option Int->Hp->VK->Prop:=λx lo hi H Q=>∃a xs,x= .ref a/\SqT K H a xs/\
 ¬(HT.sIx xs.length 0 lo=0/\HT.sIx xs.length xs.length hi=xs.length)/\∀p,H p=none->Q (.ref p) (upd H p (.tup (gb xs lo hi)))
theorem Eg:SlR X (Ib X.K):=by
 intro RE s σ H x v vl vu lo hi sl Q I rx hs pl pu h
 obtain⟨a,xs,rfl,hx,hw,q⟩:=h
 cases rx
 obtain⟨its,r,ht,hz⟩:=I.tuple hx
 have IV:its.toArray.size=xs.length:=by rw [LB];exact r.length.symm
 refine⟨"tuple",_,OG.lookup,ht.typeIs,?_⟩
 refine HT.lj ht hs pl pu (by rw [IV];exact hw) ?_ (by rw [IV];exact hz)
 rw [IV]
 refine⟨.ref s.heap.objs.size,_,I.laid (o:=.tup (gb xs lo hi)) (λb ob q=>Lk _ q) (Nat.le_refl _) ?_,rfl,q _ (I.hok.fresh (Nat.le_refl _))⟩
 exact⟨Nat.le_trans (lC xs lo hi) hz,_,(r.drop (HT.sIx xs.length 0 lo)).take (HT.sIx xs.length xs.length hi-HT.sIx xs.length 0 lo),Q9.new _ _⟩
def Eh(K:MF):R2:=λx y H Q=>∃a b ns ms,x= .ref a/\y= .ref b/\SqT K H a (ns.map V.int)/\SqT K H b (ms.map V.int)/\Q (.bl (HT.aF ns ms)) H
theorem wX(hu:X.A.units<Po):OpR X (NO .Lt) (Eh X.K):=by
 intro RE s σ H x y v u Q I rx ry h
 obtain⟨a,b,ns,ms,rfl,rfl,ha,hb,q⟩:=h
 cases rx
 cases ry
 obtain⟨its,r1,p1,_⟩:=I.tuple ha
 obtain⟨its2,r2,p2,_⟩:=I.tuple hb
 have i1:=jr r1
 have i2:=jr r2
 exact HT.vt p1 p2 i1 i2 hu ⟨.bl (HT.aF ns ms),H,I,rfl,q⟩
def GN(K:MF):R2:=λx y H Q=>∃a b xs ys,x= .ref a/\y= .ref b/\SqT K H a xs/\SqT K H b ys/\xs≠[]/\xs.length+ys.length<=Nm/\
 (ys= []->Q (.ref a) H)/\(ys≠[]->∀p,H p=none->Q (.ref p) (upd H p (.tup (xs++ys))))
theorem Vals.nil_iff(r:Vals xs us):us= []↔xs= []:=by
 cases r with
 | nil=>simp
 | cons _ _=>simp
theorem BW:OpR X (OH .Add) (GN X.K):=by
 intro RE s σ H x y v u Q I rx ry h
 obtain⟨a,b,xs,ys,rfl,rfl,ha,hb,hx,hz,q1,q2⟩:=h
 cases rx
 cases ry
 obtain⟨its,r1,p1,_⟩:=I.tuple ha
 obtain⟨its2,r2,p2,_⟩:=I.tuple hb
 refine HT.BV p1 p2 (λz=>hx (r1.nil_iff.mp z)) (λz=>⟨.ref a,H,I,rfl,q1 (r2.nil_iff.mp z)⟩) (λz=>?_) (by rw [<-r1.length,<-r2.length];exact hz)
 refine⟨.ref s.heap.objs.size,_,I.laid (o:=.tup (xs++ys)) (λb ob q=>Lk _ q) (Nat.le_refl _) ?_,rfl,q2 (λw=>z (r2.nil_iff.mpr w)) _ (I.hok.fresh (Nat.le_refl _))⟩
 exact⟨by rw [Lq];exact hz,_,r1.append r2,Q9.new _ _⟩
end
def ixN(n:Nat)(i:Int):Option Nat:=if 0<=i then (if i<n then some i.toNat else none) else if -(n:Int)<=i then some (i+n).toNat else none
def atI{α:Type}(xs:List α)(i:Int):Option α:=(ixN xs.length i).bind λj=>xs[j]?
theorem tY(h:ixN n i=some j):Rj i n=some j/\j<n/\ -(n:Int)<=i/\i<n:=by
 unfold ixN at h
 by_cases h0:0<=i
 ·rw [RD h0] at h
  by_cases h1:i<n
  ·rw [RD h1] at h
   have e:=Option.some.inj h
   exact⟨by rw [Qw h0 h1,e],by lia,by lia,h1⟩
  ·simp_all
 ·rw [RC h0] at h
  by_cases h1: -(n:Int)<=i
  ·rw [RD h1] at h
   have e:=Option.some.inj h
   exact⟨by rw [Qf (by lia) h1,e],by lia,h1,by lia⟩
  ·simp_all
theorem tZ(h:atI xs i=some v):∃j,Rj i xs.length=some j/\xs[j]? =some v/\j<xs.length/\ -(xs.length:Int)<=i/\i<xs.length:=by
 unfold atI at h
 cases e:ixN xs.length i with
 | none=>simp_all
 | some j=>
  rw [e] at h
  obtain⟨h1,h2,h3,h4⟩:=tY e
  exact⟨j,h1,h,h2,h3,h4⟩
theorem cC{xs:List α}{j:Nat}{v:α}(h:xs[j]? =some v):atI xs (j:Int)=some v:=by
 have hj:=(List.getElem?_eq_some_iff.mp h).1
 have e:ixN xs.length (j:Int)=some j:=by
  unfold ixN
  rw [RD (by lia),RD (by lia)];simp
 unfold atI;rw [e];exact h
theorem qL(xs:List α)(v:α):atI (xs++[v]) (-1)=some v:=by
 have hl:(xs++[v]).length=xs.length+1:=by simp
 have e:ixN (xs++[v]).length (-1)=some xs.length:=by
  unfold ixN
  rw [hl,RC (by decide),RD (by lia)]
  congr 1
  lia
 unfold atI
 rw [e]
 simp
def t7(b:Expr):Prop:=∀o i,subscripted b false o i=operate [o,i] (PV o i)
def IxR(X:Cx)(r:R2):Prop:=
 ∀(value slice:Expr) (RE:List (Addr×Obj)) (s:Nn) (σ:St) (H:Hp) (x y:V) (v u:Nk) (Q:VK),Inv X RE σ H s->RelV x v->RelV y u->r x y H Q->
  subscripted slice false v u=operate [v,u] (PV v u)->Nr (model X.prog X.w) X.A (subscriptTail value slice v u) (EP X RE σ Q) X.xe s
def MtR (X : Cx) (id : String) (r : V → List V → Hp → VK → Prop) : Prop :=
  ∀ (RE : List (Addr × Obj)) (s : Nn) (σ : St) (H : Hp) (x : V) (xs : List V) (v : Nk) (us : List Nk) (Q : VK), Inv X RE σ H s → RelV x v → Vals xs us → r x xs H Q →
    Nr (model X.prog X.w) X.A (call (.builtin id) (v :: us)) (EP X RE σ Q) X.xe s
section
variable{X:Cx}{a b:Expr}{ta tb:TE}{pos:Pos}
theorem GO(hr:IxR X r)(ha:PE X a ta)(hb:PE X b tb)(hs:t7 b):PE X (.Subscript a b pos) (tOp r ta tb):=by
 intro RE s σ H Q I h
 exact QR (yN ha hb I h λv u s2 x y H2 I2 rx ry q=>hr a b RE s2 σ H2 x y v u Q I2 rx ry q (hs _ _))
def Ei(K:MF):R2:=λx y H Q=>∃p xs i v,x= .ref p/\y= .int i/\SqL K H p xs/\atI xs i=some v/\Q v H
def Id(K:MF):R2:=λx y H Q=>∃p xs i v,x= .ref p/\y= .int i/\SqT K H p xs/\atI xs i=some v/\Q v H
theorem BX:IxR X (Ei X.K):=by
 intro value slice RE s σ H x y v u Q I rx ry h hs
 obtain⟨p,xs,i,z,rfl,rfl,hq,he,q⟩:=h
 cases rx
 obtain⟨t,rfl⟩:=ry
 obtain⟨its,r,pl,hz⟩:=I.list hq
 obtain⟨j,h1,h2,h3,h4,h5⟩:=tZ he
 obtain⟨w,ew,rw'⟩:=r.get h2
 have hl:=r.length
 have hn:=mJ
 have fin:EP X RE σ Q w s:=⟨z,H,I,rw',q⟩
 by_cases h0:0<=i
 ·have hj:i.toNat=j:=by
   rw [Qw h0 h5] at h1
   exact Option.some.inj h1
  exact item_listR pl.isList h0 (by lia) (by rw [hj];simpa using ew) fin hs
 ·have hj:(i+(its.toArray.size:Int)).toNat=j:=by
   rw [Qf (by lia) h4] at h1
   rw [LB,<-hl]
   exact Option.some.inj h1
  exact subscriptTail_builtinR pl.isList.typeIs slot_list_getitem.lookup
   (wpAny_getItem_list_neg pl.isList (by lia) (by rw [LB]<;>lia) (by lia) (by rw [hj];simpa using ew) ⟨rfl,fin⟩) hs
theorem Ej:IxR X (Id X.K):=by
 intro value slice RE s σ H x y v u Q I rx ry h hs
 obtain⟨p,xs,i,z,rfl,rfl,hq,he,q⟩:=h
 cases rx
 obtain⟨t,rfl⟩:=ry
 obtain⟨its,r,pl,hz⟩:=I.tuple hq
 obtain⟨j,h1,h2,h3,h4,h5⟩:=tZ he
 obtain⟨w,ew,rw'⟩:=r.get h2
 have hl:=r.length
 have hn:=mJ
 have fin:EP X RE σ Q w s:=⟨z,H,I,rw',q⟩
 exact subscriptTail_builtinR pl.typeIs slot_tuple_getitem.lookup
  (getItem_tuple pl (by lia) (by lia) (by rw [LB,<-hl];exact h1) (by simpa using ew) ⟨rfl,fin⟩) hs
theorem vx(its:List Nk)(n j:Nat)(u:Nk):Obj.mapSeq (·.setIfInBounds j u) {cls:=.type "list",data:=.seq its.toArray n}={cls:=.type "list",data:=.seq (its.set j u).toArray n}:=by
 simp [Obj.mapSeq]
theorem Inv.lst{σ:St}(I:Inv X RE σ H s)(h:H p=some (.lst xs)):
 ∃(its:List Nk) (n:Nat),Vals xs its/\s.heap.get? p=some {cls:=.type "list",data:=.seq its.toArray n}/\xs.length<=Nm:=by
 obtain⟨z,its,n,r,e⟩:=I.hok p _ h
 exact⟨its,n,r,e,z⟩
theorem Inv.lstUpd{σ:St}{its:List Nk}(I:Inv X RE σ H s)(h:H p=some (.lst xs))
 (ho:s.heap.get? p=some {cls:=.type "list",data:=.seq its.toArray n}) (hf:f {cls:=.type "list",data:=.seq its.toArray n}={cls:=.type "list",data:=.seq its'.toArray n'}) (r:Vals ys its') (hz:ys.length<=Nm) (t:Nat):
 Inv X RE σ (upd H p (.lst ys)) {s with heap:=s.heap.update p f,toks:=t}:=by
 have e:(s.heap.update p f).get? p=some {cls:=.type "list",data:=.seq its'.toArray n'}:=by
  rw [Heap.get?_update_self f ho (by rw [hf]<;>rfl),hf]
 refine I.write (by rw [h];trivial) (.inl rfl) (λb u hb q=>(Heap.get?_update_other _ _ (Ne.symm hb)).trans q) ⟨_,e⟩ ?_
 exact⟨hz,its',n',r,e⟩
def GP:V->V->V->Hp->(Hp->Prop)->Prop:=λo i v H Q=>∃p xs k j,o= .ref p/\i= .int k/\H p=some (.lst xs)/\ixN xs.length k=some j/\Q (upd H p (.lst (xs.set j v)))
theorem yV:uZ X GP:=by
 intro RE s σ H o i v ov iv u Q I ro ri rv h
 obtain⟨p,xs,k,j,rfl,rfl,hp,hj,q⟩:=h
 cases ro
 obtain⟨t,rfl⟩:=ri
 obtain⟨its,n,r,ho,hz⟩:=I.lst hp
 obtain⟨h1,h2,h3,h4⟩:=tY hj
 have hl:=r.length
 have hn:=mJ
 have I':Inv X RE σ (upd H p (.lst (xs.set j v))) {s with heap:=s.heap.update p (Obj.mapSeq (·.setIfInBounds j u))}:=
  I.lstUpd hp ho (vx its n j u) (r.set rv j) (by rw [MD];exact hz) s.toks
 by_cases h0:0<=k
 ·have hk:k.toNat=j:=by
   rw [Qw h0 h4] at h1
   exact Option.some.inj h1
  exact PySem.W.ki_setAt ho h0 (by lia) (by rw [LB,<-hl];exact h4) (by rw [hk];exact⟨_,I',q⟩)
 ·have hk:(k+(its.toArray.size:Int)).toNat=j:=by
   rw [Qf (by lia) h3] at h1
   rw [LB,<-hl]
   exact Option.some.inj h1
  exact PySem.W.ki_setBack ho (by lia) (by rw [LB,<-hl];exact h3) (by lia) (by rw [hk];exact⟨_,I',q⟩)
theorem qM(lo hi:Option Int)(n:Nat):(OF lo hi none n).1=((HT.sIx n 0 lo:Nat):Int)/\(OF lo hi none n).2.1=((HT.sIx n n hi:Nat):Int)/\(OF lo hi none n).2.2=1:=by
 refine⟨?_,?_,rfl⟩
 ·cases lo with
  | none=>simp [OF,HT.sIx]
  | some i=>
   simp only [OF,HT.sIx,Nd,show(1:Int)>0 by decide,if_true]
   by_cases h:i<0
   ·simp only [h,if_true]<;>lia
   ·simp only [h,if_false]<;>lia
 ·cases hi with
  | none=>simp [OF,HT.sIx]
  | some i=>
   simp only [OF,HT.sIx,Nd,show(1:Int)>0 by decide,if_true]
   by_cases h:i<0
   ·simp only [h,if_true]<;>lia
   ·simp only [h,if_false]<;>lia
theorem qa(its:List Nk)(lo hi:Option Int):slicePick its.toArray lo hi none=((its.drop (HT.sIx its.length 0 lo)).take (HT.sIx its.length its.length hi-HT.sIx its.length 0 lo)).toArray:=by
 obtain⟨h1,h2,h3⟩:=qM lo hi its.toArray.size
 unfold slicePick
 rw [h1,h2,h3]
 simp only [sliceRange_one,pick_run]<;>rfl
def Ie(K:MF):V->Option Int->Option Int->Hp->VK->Prop:=λx lo hi H Q=>∃a xs,x= .ref a/\SqL K H a xs/\∀p,H p=none->Q (.ref p) (upd H p (.lst (gb xs lo hi)))
theorem ub:SlR X (Ie X.K):=by
 intro RE s σ H x v vl vu lo hi sl Q I rx hs pl pu h
 obtain⟨a,xs,rfl,hx,q⟩:=h
 cases rx
 obtain⟨its,r,ht,hz⟩:=I.list hx
 have IV:=r.length
 refine⟨"list",_,slot_list_getitem.lookup,ht.isList.typeIs,?_⟩
 refine wpAny_getItem_list_slice ht.isList hs pl pu .none (by simp) ?_ (by rw [LB]<;>lia)
 rw [qa,<-IV]
 refine⟨.ref s.heap.objs.size,_,I.laid (o:=.lst (gb xs lo hi)) (λb ob q=>Lk _ q) (Nat.le_refl _) ?_,rfl,q _ (I.hok.fresh (Nat.le_refl _))⟩
 exact⟨Nat.le_trans (lC xs lo hi) hz,_,0,(r.drop (HT.sIx xs.length 0 lo)).take (HT.sIx xs.length xs.length hi-HT.sIx xs.length 0 lo),Lp _ rfl⟩
def dy:V->Bool
 | .non=>true
 | .bl _=>true
 | .int _=>true
 | .str _=>true
 | _=>false
def eqV:V->V->Bool
 | .non,.non=>true
 | .bl a,.bl b=>a==b
 | .bl a,.int b=>(if a then 1 else 0)==b
 | .int a,.bl b=>a==(if b then 1 else 0)
 | .int a,.int b=>a==b
 | .str a,.str b=>a==b
 | _,_=>false
theorem Ek(ry:RelV y u)(rx:RelV x v)(fy:dy y=true)(fx:dy x=true):SeqAt.EqAt A s u v (eqV y x):=by
 cases y with
 | non=>
  cases ry
  cases x with
  | non=>cases rx;exact SeqAt.EqAt.same _
  | bl b=>cases rx;exact SeqAt.EqAt.none_bool b
  | int b=>obtain⟨t,rfl⟩:=rx;exact SeqAt.EqAt.none_int b t
  | str b=>obtain⟨t,rfl⟩:=rx;exact SeqAt.EqAt.none_str b t
  | _=>exact absurd (fx) Bool.false_ne_true
 | bl a=>
  cases ry
  cases x with
  | non=>cases rx;exact SeqAt.EqAt.bool_none a
  | bl b=>cases rx;exact SeqAt.EqAt.bool_bool a b
  | int b=>obtain⟨t,rfl⟩:=rx;exact SeqAt.EqAt.bool_int a b t
  | str b=>obtain⟨t,rfl⟩:=rx;exact SeqAt.EqAt.bool_str a b t
  | _=>exact absurd (fx) Bool.false_ne_true
 | int a=>
  obtain⟨t',rfl⟩:=ry
  cases x with
  | non=>cases rx;exact SeqAt.EqAt.int_none a t'
  | bl b=>cases rx;exact SeqAt.EqAt.int_bool a t' b
  | int b=>obtain⟨t,rfl⟩:=rx;exact SeqAt.EqAt.int_int a t' b t
  | str b=>obtain⟨t,rfl⟩:=rx;exact SeqAt.EqAt.int_str a t' b t
  | _=>exact absurd (fx) Bool.false_ne_true
 | str a=>
  obtain⟨t',rfl⟩:=ry
  cases x with
  | non=>cases rx;exact SeqAt.EqAt.str_none a t'
  | bl b=>cases rx;exact SeqAt.EqAt.str_bool a t' b
  | int b=>obtain⟨t,rfl⟩:=rx;exact SeqAt.EqAt.str_int a t' b t
  | str b=>obtain⟨t,rfl⟩:=rx;exact SeqAt.EqAt.str_str a t' b t
  | _=>exact absurd (fx) Bool.false_ne_true
 | _=>exact absurd (fy) Bool.false_ne_true
def eqU(x:V)(u:Nk):Bool:=match u with
 | .none=>eqV .non x
 | .bool b=>eqV (.bl b) x
 | .int i _=>eqV (.int i) x
 | .str z _=>eqV (.str z) x
 | _=>false
theorem wY(r:RelV y u)(f:dy y=true):eqU x u=eqV y x:=by
 cases y with
 | non=>cases r;rfl
 | bl b=>cases r;rfl
 | int i=>obtain⟨t,rfl⟩:=r;rfl
 | str z=>obtain⟨t,rfl⟩:=r;rfl
 | _=>exact absurd (f) Bool.false_ne_true
theorem uc{x:V}:∀{xs:List V} {us:List Nk},Vals xs us->xs.all dy=true->us.any (eqU x)=xs.any λy=>eqV y x:=by
 intro xs us h
 induction h with
 | nil=>intro _;rfl
 | cons r t ih=>
  intro f
  rw [List.all_cons,Mc] at f
  rw [M7,M7,wY r f.1,ih f.2]
theorem lY{s:Nn}{x:V}{v:Nk}(rx:RelV x v)(fx:dy x=true):∀{xs:List V} {us:List Nk},Vals xs us->xs.all dy=true->∀u∈us,SeqAt.EqAt A s u v (eqU x u)
 | _,_,.nil,_=>λu hu=>by cases hu
 | y::xs,u::us,.cons r t,f=>λu' hu=>by
  rw [List.all_cons,Mc] at f
  rcases List.mem_cons.mp hu with rfl | hu
  ·rw [wY r f.1];exact Ek r rx f.1 fx
  ·exact lY rx fx t f.2 u' hu
def inV(x:V)(xs:List V):Bool:=xs.any λy=>eqV y x
def rIn(K:MF)(neg:Bool):R2:=λx y H Q=>∃p xs,y= .ref p/\(SqL K H p xs\/SqT K H p xs)/\dy x=true/\xs.all dy=true/\Q (.bl (if neg then !inV x xs else inV x xs)) H
theorem wZ:OpR X (NO .In) (rIn X.K false):=by
 intro RE s σ H x y v u Q I rx ry h
 obtain⟨p,xs,rfl,hq,fx,fs,q⟩:=h
 cases ry
 rcases hq with hq | hq
 ·obtain⟨its,r,pl,hz⟩:=I.list hq
  refine SeqAt.in_listAt (eqU x) pl.isList (λw hw=>lY rx fx r fs w (by simpa using hw)) ⟨.bl _,H,I,rfl,?_⟩
  rw [show its.toArray.any (eqU x)=its.any (eqU x) by simp,uc r fs]
  exact q
 ·obtain⟨its,r,pl,hz⟩:=I.tuple hq
  refine SeqAt.in_tupleAt (eqU x) pl (λw hw=>lY rx fx r fs w (by simpa using hw)) ⟨.bl _,H,I,rfl,?_⟩
  rw [show its.toArray.any (eqU x)=its.any (eqU x) by simp,uc r fs]
  exact q
theorem eV:bG X (.builtin "len") (λxs H Q=>∃p ys,xs= [.ref p]/\(SqL X.K H p ys\/SqT X.K H p ys)/\Q (.int ys.length) H):=by
 intro RE s σ H xs us Q I r h
 obtain⟨p,ys,rfl,hq,q⟩:=h
 obtain⟨u,rfl,rx⟩:=fF r
 cases rx
 have hn:=mJ
 rcases hq with hq | hq
 ·obtain⟨its,r',pl,hz⟩:=I.list hq
  have IV:=r'.length
  exact Calls.call_len_list pl.isList (by simp only [LB]<;>lia) ⟨.int ys.length,H,I.tok _,⟨s.toks+1,by rw [LB,IV]⟩,q⟩
 ·obtain⟨its,r',pl,hz⟩:=I.tuple hq
  have IV:=r'.length
  exact len_tuple pl (by simp only [LB]<;>lia) ⟨.int ys.length,H,I.tok _,⟨s.toks+1,by rw [LB,IV]⟩,q⟩
theorem qN:bG X (.type "list") (λxs H Q=>∃p ys,xs= [.ref p]/\(SqL X.K H p ys\/SqT X.K H p ys)/\∀l,H l=none->Q (.ref l) (upd H l (.lst ys))):=by
 intro RE s σ H xs us Q I r h
 obtain⟨p,ys,rfl,hq,q⟩:=h
 obtain⟨u,rfl,rx⟩:=fF r
 cases rx
 have fin:∀(its:List Nk),Vals ys its->ys.length<=Nm->∀(h':Heap) (c':Nat),(∀b o',s.heap.get? b=some o'->h'.get? b=some o')->
  h'.get? s.heap.objs.size=some {cls:=.type "list",dict:=none,data:=.seq its.toArray c',slots:= #[]}->EP X RE σ Q (.ref s.heap.objs.size) {s with heap:=h'}:=λits r' hz h' c' kp e=>
  ⟨.ref s.heap.objs.size,_,I.laid kp (Nat.le_refl _) (show ObjOk X.prog X.w _ h' _ (.lst ys) from ⟨hz,its,c',r',e⟩),rfl,q _ (I.hok.fresh (Nat.le_refl _))⟩
 rcases hq with hq | hq
 ·obtain⟨its,r',pl,hz⟩:=I.list hq
  have IV:=r'.length
  obtain⟨o,ho,hc,n,hd⟩:=pl.isList
  exact call_list_seq p (.inl rfl) ho hc hd (λh' c' kp e=>fin its r' hz h' c' kp e) (by simp only [LB]<;>lia)
 ·obtain⟨its,r',pl,hz⟩:=I.tuple hq
  have IV:=r'.length
  obtain⟨o,ho,hc,n,hd⟩:=pl
  exact call_list_seq p (.inr rfl) ho hc hd (λh' c' kp e=>fin its r' hz h' c' kp e) (by simp only [LB]<;>lia)
def tyV (K : MF) (T : String) (x : V) (H : Hp) : Prop := match x with
  | .str _ => T = "str"
  | .int _ => T = "int"
  | .ref p => (T = "list" ∧ ∃ xs, SqL K H p xs) ∨ (T = "tuple" ∧ ∃ o, K.lookup p = some o ∧ o.cls = .type "tuple" ∧ o.dict = none) ∨
      (T = "dict" ∧ ((∃ kvs, H p = some (.dK kvs)) ∨ ∃ kvs, H p = some (.dT kvs))) ∨ (T = "set" ∧ ∃ S n, H p = some (.set S n))
  | _ => False
theorem iY{σ:St}(I:Inv X RE σ H s)(r:RelV x v)(ty:tyV X.K T x H):
 s.TypeIs v T/\∀a,v= .ref a->∃ob,s.heap.get? a=some ob/\ob.dict=none:=by
 cases x with
 | str z=>
  obtain⟨t,rfl⟩:=r
  cases (ty)
  exact⟨typeIs_str s z t,λ_ e=>nomatch e⟩
 | int i=>
  obtain⟨t,rfl⟩:=r
  cases (ty)
  exact⟨typeIs_int s i t,λ_ e=>nomatch e⟩
 | ref p=>
  cases r
  rcases ty with ⟨rfl,xs,hq⟩ | ⟨rfl,o,hk,hc,hd⟩ | ⟨rfl,hk⟩ | ⟨rfl,S,n,hk⟩
  ·obtain⟨its,_,pl,_⟩:=I.list hq
   refine⟨pl.isList.typeIs,λa e=>?_⟩
   cases e
   obtain⟨o,n,e,c,hd,_⟩:=pl
   exact⟨o,e,hd⟩
  ·refine⟨⟨o,I.kIn p o hk,hc⟩,λa e=>?_⟩
   cases e
   exact⟨o,I.kIn _ o hk,hd⟩
  ·have z:∃o,s.heap.get? p=some o/\o.ExactDict:=by
    rcases hk with ⟨kvs,hk⟩ | ⟨kvs,hk⟩
    ·obtain⟨_,_,_,_,o,_,_,e,ex,_⟩:=I.hok p _ hk
     exact⟨o,e,ex⟩
    ·obtain⟨_,_,_,_,o,_,_,e,ex,_⟩:=I.hok p _ hk
     exact⟨o,e,ex⟩
   obtain⟨o,e,ex⟩:=z
   refine⟨⟨o,e,ex.1⟩,λa e2=>?_⟩
   cases e2
   exact⟨o,e,ex.2.1⟩
  ·obtain⟨o,_,_,_,e,ex,_⟩:=I.hok p _ hk
   refine⟨⟨o,e,ex.1⟩,λa e2=>?_⟩
   cases e2
   exact⟨o,e,ex.2.1⟩
 | _=>exact False.elim ty
def El (K : MF) (T : String) (r : V → List V → Hp → VK → Prop) (to : TE) : TE := fun σ H Q => to σ H fun x H1 => tyV K T x H1 ∧ r x [] H1 Q
def tBM (K : MF) (T : String) (r : V → List V → Hp → VK → Prop) (to : TE) (t : TA) : TE := fun σ H Q => to σ H fun x H1 => tyV K T x H1 ∧ t σ H1 fun xs H2 => r x xs H2 Q
variable{o e:Expr}{es:List Expr}{to:TE}{t:TA}{name:Str}{apos cpos:Pos}{T id:String}{r:V->List V->Hp->VK->Prop}
theorem w9(pa:PlainAttrs T)(slot:Slot T name id)(hty:typeOf (.builtin id)=pure (.type "method_descriptor"))(hm:MtR X id r)(ho:PE X o to)
 (hbase:NU o name X.env (eval o X.env)=eval o X.env:=by rfl) (hline:(apos.endLine==cpos.line)=true:=by rfl):PE X (.Call (.Attribute o name apos) [] [] cpos) (El X.K T r to):=by
 intro RE s σ H Q I h
 refine Oc hbase hline (thn (ho RE s σ H _ I h) λv s1 z=>?_)
 obtain⟨x,H1,I1,r1,ty,q1⟩:=z
 obtain⟨h1,h2⟩:=iY I1 r1 ty
 exact⟨T,id,pa,slot,hty,h1,h2,Calls.callWith_builtin rfl (Os (hm RE s1 σ H1 x [] v [] Q I1 r1 .nil q1))⟩
theorem vy(pa:PlainAttrs T)(slot:Slot T name id)(hty:typeOf (.builtin id)=pure (.type "method_descriptor"))(hm:MtR X id r)(ho:PE X o to)(ha:PA X (e::es) t)
 (hbase:NU o name X.env (eval o X.env)=eval o X.env:=by rfl)
 (hfew:((Oi cpos (Nt (e::es) X.env)).all (λx=>!x.1)&&(Ov cpos (N4 [] X.env)).all (λx=>x.1.isSome)
  && decide ((e::es).length+([]:List OZ).length+(if ([]:List OZ).isEmpty then 0 else 1)<30))=true:=by rfl)
 (hline:(apos.endLine==cpos.line)=true:=by rfl) (hs:Nt (e::es) X.env=(false,eval e X.env)::Nt es X.env:=by rfl) (hplain:(Oi cpos (Nt es X.env)).any (·.1)=false:=by rfl):
 PE X (.Call (.Attribute o name apos) (e::es) [] cpos) (tBM X.K T r to t):=by
 intro RE s σ H Q I h
 refine wpAny_Call_method_late hbase hfew hline rfl (thn (ho RE s σ H _ I h) λv s1 y=>?_)
 obtain⟨x,H1,I1,r1,ty,q1⟩:=y
 obtain⟨h1,h2⟩:=iY I1 r1 ty
 refine⟨T,id,pa,slot,hty,h1,h2,?_⟩
 have hA:=ha cpos RE s1 σ H1 _ I1 q1
 rw [hs] at hA⊢
 refine Calls.callWith_builtin (by show(false || (Oi cpos (Nt es X.env)).any (·.1))=false;rw [hplain]<;>rfl) (Calls.evalArgs_plain ?_)
 exact thn hA λus s2 z=>by obtain⟨vs,H2,I2,r2,q2⟩:=z;exact hm RE s2 σ H2 x vs v us Q I2 r1 r2 q2
/- xs.append(e),list.index on a module's tuple .. are MtR facts of 06m -/
end
def MtM (X : Cx) (id : String) (r : V → List V → Hp → VK → Prop) : Prop :=
  ∀ (RE : List (Addr × Obj)) (s : Nn) (σ : St) (H : Hp) (x : V) (xs : List V) (v : Nk) (us : List Nk) (Q : VK), Inv X RE σ H s → RelV x v → Vals xs us → r x xs H Q →
    Nr (model X.prog X.w) X.A (call (.builtin id) (v :: us)) (EP X RE σ Q) X.xe s
theorem Vals.one:∀{x:V} {us:List Nk},Vals [x] us->∃u,us= [u]/\RelV x u:=by
 intro x us h
 cases h with
 | cons r t=>cases t;exact⟨_,rfl,r⟩
theorem Vals.two:∀{x y:V} {us:List Nk},Vals [x,y] us->∃u v,us= [u,v]/\RelV x u/\RelV y v:=by
 intro x y us h
 cases h with
 | cons r t=>
  cases t with
  | cons q t=>cases t;exact⟨_,_,rfl,r,q⟩
theorem Vals.zero:∀{us:List Nk},Vals [] us->us= []
 | _,.nil=>rfl
theorem Vals.dropLast(h:Vals xs us):Vals xs.dropLast us.dropLast:=by
 induction h with
 | nil=>exact .nil
 | cons r t ih=>
  cases t with
  | nil=>exact .nil
  | cons q t'=>exact .cons r ih
theorem Vals.eraseIdx:∀{xs:List V} {us:List Nk} (i:Nat),Vals xs us->Vals (xs.eraseIdx i) (us.eraseIdx i)
 | _,_,_,.nil=>.nil
 | _,_,0,.cons _ t=>t
 | _,_,i+1,.cons r t=>.cons r (Vals.eraseIdx i t)
theorem erase_last{α:Type}(l:List α):l.eraseIdx (l.length-1)=l.dropLast:=by grind
theorem o0{α:Type}:∀(l:List α) (i:Nat),(l.eraseIdx i).length<=l.length
 | [],_=>Nat.le_refl _
 | _::_,0=>MS _
 | _::r,i+1=>Nat.succ_le_succ (o0 r i)
section
variable{X:Cx}{RE:List (Addr×Obj)}{σ:St}{H:Hp}{s:Nn}{l b:Addr}{xs ys zs:List V}
theorem Inv.lset{its:List Nk}(I:Inv X RE σ H s)(hH:H l=some (.lst xs))
 (e:s.heap.get? l=some {cls:=.type "list",data:=.seq its.toArray n}) (hf:f its.toArray=its'.toArray) (hv:Vals ys its') (hz:ys.length<=Nm):
 Inv X RE σ (upd H l (.lst ys)) {s with heap:=s.heap.update l (Obj.mapSeq f),toks:=t'}:=by
 have q:=PySem.IsL.update e f
 rw [hf] at q
 refine I.write (by rw [hH];exact trivial) (.inl rfl) (λb' u hb hu=>(Heap.get?_update_other s.heap (Obj.mapSeq f) (Ne.symm hb)).trans hu) ⟨_,q⟩ ?_
 exact⟨hz,its',_,hv,q⟩
theorem Inv.lnew(I:Inv X RE σ H s)(hv:Vals ys its)(hz:ys.length<=Nm):
 Inv X RE σ (upd H s.heap.objs.size (.lst ys)) {s with heap:=s.heap.push {cls:=.type "list",data:=.seq its.toArray},toks:=t'}:=
 I.laid (λ_ _ q=>Lk _ q) (Nat.le_refl _) ⟨hz,its,0,hv,Lp _ rfl⟩
theorem Inv.fresh(I:Inv X RE σ H s):H s.heap.objs.size=none:=I.hok.fresh (Nat.le_refl _)
theorem Inv.lstM(I:Inv X RE σ H s)(hH:H l=some (.lst xs)):xs.length<=Nm/\∃(its:List Nk) (n:Nat),Vals xs its/\xs.length=its.length/\s.heap.get? l=some {cls:=.type "list",data:=.seq its.toArray n}:=by
 obtain⟨z,its,n,r,e⟩:=I.hok l _ hH
 exact⟨z,its,n,r,r.length,e⟩
end
section
variable{X:Cx}
def oa:V->List V->Hp->VK->Prop:=λx vs H Q=>∃l xs y,x= .ref l/\vs= [y]/\H l=some (.lst xs)/\xs.length<Nm/\Q .non (upd H l (.lst (xs++[y])))
theorem o7:MtM X "list.append" oa:=by
 intro RE s σ H x vs v us Q I rx rv h
 obtain⟨l,xs,y,rfl,rfl,hH,hz,q⟩:=h
 cases rx
 obtain⟨u,rfl,ru⟩:=rv.one
 obtain⟨z,its,n,r,hl,e⟩:=I.lstM hH
 refine O5 F.slot_list_append ⟨_,e,rfl⟩ F.entry_list_append (F.args_list_append_2 _ _) (PySem.list_append l its.toArray n u (by rw [LB];lia)) ⟨e,?_⟩
 refine⟨.non,_,I.lset (its':=its++[u]) hH e (by simp) (r.append (.cons ru .nil)) ?_,rfl,q⟩
 rw [Lq,LN]
 lia
def Ig:V->List V->Hp->VK->Prop:=λx vs H Q=>∃l xs y,x= .ref l/\vs= []/\H l=some (.lst xs)/\xs[xs.length-1]? =some y/\Q y (upd H l (.lst xs.dropLast))
theorem Em:MtM X "list.pop" Ig:=by
 intro RE s σ H x vs v us Q I rx rv h
 obtain⟨l,xs,y,rfl,rfl,hH,hy,q⟩:=h
 cases rx
 have hus:=rv.zero
 subst hus
 obtain⟨z,its,n,r,hl,e⟩:=I.lstM hH
 obtain⟨u,hu,ru⟩:=r.get hy
 have hy':its.toArray[its.toArray.size-1]? =some u:=by
  show its.toArray[its.length-1]? =some u
  rw [<-Array.getElem?_toList,<-hl]
  exact hu
 refine O5 F.slot_list_pop ⟨_,e,rfl⟩ F.entry_list_pop (F.args_list_pop_1 _) (MeetsSeq.list_pop_last l its.toArray n u hy' (by rw [LB];lia)) ⟨e,?_⟩
 refine⟨y,_,I.lset hH e ?_ r.dropLast ?_,ru,q⟩
 ·simp_all
 ·rw [List.length_dropLast]
  lia
def En:V->List V->Hp->VK->Prop:=λx vs H Q=>∃l xs i k y,x= .ref l/\vs= [.int i]/\H l=some (.lst xs)/\ -(2^63)<=i/\i<2^63/\Rj i xs.length=some k/\xs[k]? =some y/\Q y (upd H l (.lst (xs.eraseIdx k)))
theorem yW:MtM X "list.pop" En:=by
 intro RE s σ H x vs v us Q I rx rv h
 obtain⟨l,xs,i,k,y,rfl,rfl,hH,h1,h2,hk,hy,q⟩:=h
 cases rx
 obtain⟨u,rfl,ru⟩:=rv.one
 obtain⟨t,rfl⟩:=ru
 obtain⟨z,its,n,r,hl,e⟩:=I.lstM hH
 obtain⟨w,hw,rw'⟩:=r.get hy
 refine O5 F.slot_list_pop ⟨_,e,rfl⟩ F.entry_list_pop (F.args_list_pop_2 _ _)
  (MeetsSeq.list_pop_at l its.toArray n i t k w (fitsIndex_both h1 h2) (by rw [LB,<-hl];exact hk) (by rw [<-Array.getElem?_toList];lia)) ⟨e,?_⟩
 refine⟨y,_,I.lset hH e ?_ (r.eraseIdx k) ?_,rw',q⟩
 ·simp_all
 ·have:=o0 xs k
  lia
def Ih:R2:=λx y H Q=>∃l b xs zs,x= .ref l/\y= .ref b/\H l=some (.lst xs)/\H b=some (.lst zs)/\xs.length+zs.length<=Nm/\∀p,H p=none->Q (.ref p) (upd H p (.lst (xs++zs)))
theorem Eo:OpR X (OH .Add) Ih:=by
 intro RE s σ H x y v u Q I rx ry h
 obtain⟨l,b,xs,zs,rfl,rfl,hH,hB,hz,q⟩:=h
 cases rx
 cases ry
 obtain⟨z,its,n,r,hl,e⟩:=I.lstM hH
 obtain⟨z2,its2,n2,r2,hl2,e2⟩:=I.lstM hB
 refine PySem.P.add_list e e2 ?_ (by rw [LB,LB];lia)
 have ea:its.toArray++its2.toArray=(its++its2).toArray:=by simp
 rw [ea]
 exact⟨.ref _,_,I.lnew (r.append r2) (by rw [Lq];lia),rfl,q _ I.fresh⟩
end
section
variable{prog:Np}{w:Nu}{A:Nw}{E:Nk->Nn->Prop}{s:Nn}
end
section
variable{X:Cx}
end
section
variable{κ:Type}[DecidableEq κ]
def aZ(kvs:List (κ×V))(k:κ):Option V:=(kvs.find? λkv=>decide (kv.1=k)).map (·.2)
def bN(kvs:List (κ×V))(k:κ)(v:V):List (κ×V):=
 if (kvs.any λkv=>decide (kv.1=k))=true then kvs.map (λkv=>if kv.1=k then (kv.1,v) else kv) else kvs++[(k,v)]
def ig(kvs:List (κ×V))(k:κ):List (κ×V):=kvs.filter λkv=>decide (kv.1≠k)
theorem bQ{p:κ×V}(e:p.1=k):aZ (p::r) k=some p.2:=by simp [aZ,e]
theorem bR{p:κ×V}(e:¬p.1=k):aZ (p::r) k=aZ r k:=by simp [aZ,e]
theorem jt(k:κ):∀kvs:List (κ×V),(kvs.any λkv=>decide (kv.1=k))=(aZ kvs k).isSome
 | []=>rfl
 | p::r=>by
  rw [M7]
  by_cases e:p.1=k
  ·simp only [bQ e,decide_eq_true e,Bool.true_or,Option.isSome_some]
  ·rw [bR e,decide_eq_false e];exact jt k r
theorem qO(k j:κ)(y:V):∀kvs:List (κ×V),aZ (kvs.map λkv=>if kv.1=k then (kv.1,y) else kv) j=(aZ kvs j).map λx=>if j=k then y else x
 | []=>rfl
 | p::r=>by
  have ih:=qO k j y r
  rw [Ls]
  by_cases h:p.1=k
  ·rw [RD h]
   by_cases e:p.1=j
   ·rw [bQ (p:=(p.1,y)) e,bQ e,MK,RD (e.symm.trans h)]
   ·rw [bR (p:=(p.1,y)) e,bR e,ih]
  ·rw [RC h]
   by_cases e:p.1=j
   ·rw [bQ e,bQ e,MK,RC (λz=>h (e.trans z))]
   ·rw [bR e,bR e,ih]
theorem o9(k j:κ)(y:V):∀kvs:List (κ×V),aZ kvs k=none->aZ (kvs++[(k,y)]) j=if j=k then some y else aZ kvs j
 | [],_=>by
  by_cases e:k=j
  ·rw [RD e.symm];exact bQ (p:=(k,y)) e
  ·rw [RC (λz=>e z.symm)];exact bR (p:=(k,y)) e
 | p::r,hn=>by
  rw [MP]
  have hk:¬p.1=k:=λz=>by rw [bQ z] at hn;cases hn
  rw [bR hk] at hn
  have ih:=o9 k j y r hn
  by_cases e:p.1=j
  ·rw [bQ e,bQ e,RC (λz=>hk (e.trans z))]
  ·rw [bR e,bR e,ih]
theorem qP(kvs:List (κ×V))(k j:κ)(y:V):aZ (bN kvs k y) j=if j=k then some y else aZ kvs j:=by
 unfold bN
 by_cases a:(kvs.any λkv=>decide (kv.1=k))=true
 ·rw [RD a,qO]
  rw [jt] at a
  by_cases e:j=k
  ·obtain⟨x,hx⟩:=Option.isSome_iff_exists.mp a
   rw [RD e,e,hx,MK,RD rfl]
  ·simp_all
 ·rw [RC a]
  apply o9 k j y kvs
  rw [jt] at a
  cases q:aZ kvs k with
  | none=>rfl
  | some x=>rw [q] at a;exact(a rfl).elim
theorem fG(kvs:List (κ×V))(k:κ)(v:V):(bN kvs k v).length<=kvs.length+1:=by
 unfold bN
 split
 ·grind
 ·simp_all
theorem RelO.isSome_eq(r:RelO o u):o.isSome=u.isSome:=by
 cases o with
 | none=>cases u with
  | none=>rfl
  | some _=>exact(r).elim
 | some _=>cases u with
  | none=>exact(r).elim
  | some _=>rfl
theorem RelO.getD(r:RelO o u)(rd:RelV d d'):RelV (o.getD d) (u.getD d'):=by
 cases o with
 | none=>cases u with
  | none=>exact rd
  | some _=>exact(r).elim
 | some _=>cases u with
  | none=>exact(r).elim
  | some _=>exact r
theorem KV.val(r:KV kvs vs)(k:κ):RelO (aZ kvs k) (P9 vs k):=by
 induction r with
 | nil=>exact True.intro
 | @cons p q ps qs h t ih=>
  obtain⟨h1,h2⟩:=h
  by_cases e:p.1=k
  ·have e':=h1.symm.trans e
   have b:P9 (q::qs) k=some q.2:=by simp [P9,e']
   rw [bQ e,b];exact h2
  ·have e':¬q.1=k:=λz=>e (h1.trans z)
   have b:P9 (q::qs) k=P9 qs k:=by simp [P9,e']
   rw [bR e,b];exact ih
theorem KV.any(r:KV kvs vs)(k:κ):(kvs.any λkv=>decide (kv.1=k))=vs.any λkv=>decide (kv.1=k):=by
 induction r with
 | nil=>rfl
 | cons h t ih=>simp_all
theorem KV.repl(r:KV kvs vs)(k:κ)(ry:RelV y u):
 KV (kvs.map λkv=>if kv.1=k then (kv.1,y) else kv) (vs.map λkv=>if kv.1=k then (kv.1,u) else kv):=by
 induction r with
 | nil=>exact .nil
 | @cons p q ps qs h t ih=>
  rw [Ls,Ls]
  refine .cons ?_ ih
  obtain⟨h1,h2⟩:=h
  by_cases e:p.1=k
  ·rw [RD e,RD (h1.symm.trans e)];exact⟨h1,ry⟩
  ·rw [RC e,RC (λz=>e (h1.trans z))];exact⟨h1,h2⟩
theorem KV.put(r:KV kvs vs)(k:κ)(ry:RelV y u):KV (bN kvs k y) (stored vs k u):=by
 unfold bN stored
 rw [r.any k]
 by_cases e:(vs.any λkv=>decide (kv.1=k))=true
 ·rw [RD e,RD e];exact r.repl k ry
 ·rw [RC e,RC e];exact OV.snoc r ⟨rfl,ry⟩
theorem KV.drop(r:KV kvs vs)(k:κ):KV (ig kvs k) (without vs k):=by
 unfold ig without
 induction r with
 | nil=>exact .nil
 | @cons p q ps qs h t ih=>
  obtain⟨h1,h2⟩:=h
  rw [List.filter_cons,List.filter_cons]
  by_cases e:p.1=k
  ·have a:¬decide (p.1≠k)=true:=by simp [e]
   have b:¬decide (q.1≠k)=true:=by simp [h1.symm.trans e]
   rw [RC a,RC b];exact ih
  ·have e':¬q.1=k:=λz=>e (h1.trans z)
   have a:decide (p.1≠k)=true:=by simp [e]
   have b:decide (q.1≠k)=true:=by simp [e']
   rw [RD a,RD b];exact .cons ⟨h1,h2⟩ ih
theorem KV.keys{kvs:List (κ×V)}(r:KV kvs vs):kvs.map (·.1)=vs.map (·.1):=by
 induction r with
 | nil=>rfl
 | cons h t ih=>simp_all
theorem KV.length{kvs:List (κ×V)}(r:KV kvs vs):kvs.length=vs.length:=OV.length r
theorem yX(kvs:List (κ×V))(k:κ):(ig kvs k).length<=kvs.length:=List.length_filter_le _ _
end
theorem eW(r:RelV (kV k) u):(ay P w).is k u=true:=by
 cases k with
 | inl i=>obtain⟨t,e⟩:=(r);subst e;exact sZ P w i t
 | inr x=>obtain⟨t,e⟩:=(r);subst e;exact tm P w x t
theorem pc:∀{ks:List Key} {us:List Nk},Vals (ks.map kV) us->ItemsAre (ay P w) ks us
 | [],_,r=>by rw [Ni] at r;cases r;exact .nil
 | k::ks,_,r=>by
  cases r with
  | cons h t=>exact .cons (eW h) (pc t)
abbrev KT(H:Hp):List (List Key×V)->List (List Key×Addr×Nk)->Prop:=OV λp q=>p.1=q.1/\H q.2.1=some (.tup (p.1.map kV))/\RelV p.2 q.2.2
theorem KT.val(r:KT H kvs xs)(k:List Key):RelO (aZ kvs k) ((Rk xs k).map (·.2)):=by
 induction r with
 | nil=>exact True.intro
 | @cons p q ps qs h t ih=>
  obtain⟨h1,_,h2⟩:=h
  by_cases e:p.1=k
  ·have e':=h1.symm.trans e
   have b:Rk (q::qs) k=some q.2:=by simp [Rk,e']
   rw [bQ e,b];exact h2
  ·have e':¬q.1=k:=λz=>e (h1.trans z)
   have b:Rk (q::qs) k=Rk qs k:=by simp [Rk,e']
   rw [bR e,b];exact ih
theorem KT.repl(r:KT H kvs xs)(k:List Key)(ry:RelV y u):
 KT H (kvs.map λkv=>if kv.1=k then (kv.1,y) else kv) (xs.map (putAt k u)):=by
 induction r with
 | nil=>exact .nil
 | @cons p q ps qs h t ih=>
  rw [Ls]
  refine .cons ?_ ih
  obtain⟨h1,h2,h3⟩:=h
  unfold putAt
  by_cases e:p.1=k
  ·rw [RD e,RD (h1.symm.trans e)];exact⟨h1,h2,ry⟩
  ·rw [RC e,RC (λz=>e (h1.trans z))];exact⟨h1,h2,h3⟩
theorem KT.put(r:KT H kvs xs)(k:List Key)(hb:H b=some (.tup (k.map kV)))(ry:RelV y u):
 KT H (bN kvs k y) (storedH xs k b u):=by
 have e:(kvs.any λkv=>decide (kv.1=k))=(Rk xs k).isSome:=by
  rw [jt,(r.val k).isSome_eq,M9]
 unfold bN storedH
 rw [e]
 by_cases q:(Rk xs k).isSome=true
 ·rw [RD q,RD q];exact r.repl k ry
 ·rw [RC q,RC q];exact OV.snoc r ⟨rfl,hb,ry⟩
theorem KT.keeps(r:KT H kvs xs)(ht:∀b ys,H b=some (.tup ys)->H' b=some (.tup ys)):KT H' kvs xs:=
 OV.mapP r λ_ _ z=>⟨z.1,ht _ _ z.2.1,z.2.2⟩
section
variable{P:Np}{w:Nu}{H:Hp}{h:Heap}{a:Addr}
theorem A9(ok:HOk P w H h)(e:Rd H a u):ObjOk P w H h a u:=e.ok ok
theorem ju(ok:HOk P w H h)(e:Rd H a (.dK kvs)):kvs.length<=Nm/\(a==NX)=false/\∃vs,KV kvs vs/\h.DictOf (ay P w) a vs:=
 show ObjOk P w H h a (.dK kvs) from A9 ok e
theorem ii(ok:HOk P w H h)(e:H a=some (.dK kvs)):kvs.length<=Nm/\(a==NX)=false/\∃vs,KV kvs vs/\h.DictOf (ay P w) a vs:=ju ok (.inl e)
theorem iZ(ok:HOk P w H h)(e:H a=some (.tup (ks.map kV))):(O2 (ay P w)).is h ks a:=by
 obtain⟨_,its,r,o,h1,h2,n,h3⟩:=(ok a _ e)
 exact⟨o,its.toArray,n,h1,h2,h3,by simpa using pc r⟩
theorem jv(ok:HOk P w H h)(e:Rd H a (.dT kvs)):kvs.length<=Nm/\(a==NX)=false/\
 ∃xs,KT H kvs xs/\h.DictOfH (O2 (ay P w)) a xs:=by
 obtain⟨z,y,xs,r,o,es,ep,h1,h2,h3,h4,h5⟩:=(A9 ok e)
 refine⟨z,y,xs,r,o,es,ep,h1,h2,h3,h4,λx hx=>?_,h5⟩
 have all:∀{l:List (List Key×V)} {m:List (List Key×Addr×Nk)},KT H l m->∀x∈m,(O2 (ay P w)).is h x.1 x.2.1:=by
  intro l m q
  induction q with
  | nil=>simp_all
  | @cons p q ps qs hq t ih=>
   intro x hx
   rcases List.mem_cons.mp hx with e | hx
   ·subst e
    exact iZ ok (by rw [<-hq.1];exact hq.2.1)
   ·exact ih x hx
 exact all r x hx
theorem GR(ok:HOk P w H h)(e:H a=some (.dT kvs)):kvs.length<=Nm/\(a==NX)=false/\
 ∃xs,KT H kvs xs/\h.DictOfH (O2 (ay P w)) a xs:=jv ok (.inl e)
end
def DGet(H:Hp)(a:Addr)(y:V)(r:Option V):Prop:=
 (∃kvs k,Rd H a (.dK kvs)/\y=kV k/\r=aZ kvs k)\/∃kvs k b,Rd H a (.dT kvs)/\y= .ref b/\H b=some (.tup (k.map kV))/\r=aZ kvs k
def DPut(H:Hp)(a:Addr)(y v:V)(H':Hp):Prop:=
 (∃kvs k,H a=some (.dK kvs)/\y=kV k/\kvs.length<Nm/\H'=upd H a (.dK (bN kvs k v)))\/
 ∃kvs k b,H a=some (.dT kvs)/\y= .ref b/\H b=some (.tup (k.map kV))/\kvs.length<Nm/\H'=upd H a (.dT (bN kvs k v))
theorem DGet.k{k:Key}(e:H a=some (.dK kvs)):DGet H a (kV k) (aZ kvs k):=.inl ⟨kvs,k,.inl e,rfl,rfl⟩
theorem DPut.k{k:Key}(e:H a=some (.dK kvs))(hl:kvs.length<Nm):DPut H a (kV k) v (upd H a (.dK (bN kvs k v))):=.inl ⟨kvs,k,e,rfl,hl,rfl⟩
section
variable{X:Cx}{RE:List (Addr×Obj)}{σ:St}{H:Hp}{s:Nn}{a:Addr}{y v:V}{u r:Nk}{o:Option V}{A:Nw}{E:Nk->Nn->Prop}
theorem Inv.big(I:Inv X RE σ H s):NX<s.heap.objs.size:=by
 have h:=(I.mod.glob.keeps I.bk).lt
 exact Na (by decide) h
theorem xc(hu:A.units+1<Po)(I:Inv X RE σ H s)(g:DGet H a y (some v))(ry:RelV y u)(h:∀w' s',Inv X RE σ H s'->RelV v w'->Q w' s'):
 Nr (model X.prog X.w) A (PV (.ref a) u) Q E s:=by
 rcases g with ⟨kvs,k,e,ey,l⟩ | ⟨kvs,k,b,e,ey,eb,l⟩
 ·subst ey
  obtain⟨z,hd,vs,rel,dd⟩:=ju I.hok e
  obtain⟨w',hw,rw'⟩:=RelO.some_of (by rw [l];exact rel.val k)
  exact wpAny_getItem_of (eW ry) dd.mapOf hw (h w' _ (I.tok _) rw')
 ·subst ey
  cases (ry)
  obtain⟨z,hd,xs,rel,dd⟩:=jv I.hok e
  obtain⟨w',hw,rw'⟩:=RelO.some_of (o:=(Rk xs k).map (·.2)) (by rw [l];exact rel.val k)
  obtain⟨p,hp,hp2⟩:=Option.map_eq_some_iff.mp hw
  apply wpAny_getItem_heap (Oh hu) (iZ I.hok eb) dd hp
  rw [hp2]
  exact h w' _ (I.tok _) rw'
theorem Ii(hu:A.units+1<Po)(I:Inv X RE σ H s)(g:DGet H a y o)(ry:RelV y u)(h:∀s',Inv X RE σ H s'->Q (.bool o.isSome) s'):
 Nr (model X.prog X.w) A (NO .In u (.ref a)) Q E s:=by
 rcases g with ⟨kvs,k,e,ey,l⟩ | ⟨kvs,k,b,e,ey,eb,l⟩
 ·subst ey
  obtain⟨z,hd,vs,rel,dd⟩:=ju I.hok e
  apply wpAny_in_of (eW ry) hd dd.mapOf
  rw [<-(rel.val k).isSome_eq,<-l]
  exact h _ (I.tok _)
 ·subst ey
  cases (ry)
  obtain⟨z,hd,xs,rel,dd⟩:=jv I.hok e
  apply wpAny_in_heap (Oh hu) (iZ I.hok eb) hd dd
  have q:=(rel.val k).isSome_eq
  rw [M9] at q
  rw [<-q,<-l]
  exact h _ (I.tok _)
theorem og(I:Inv X RE σ H s)(mu:Mut (H a))(hs:Heap.SameBut a s.heap h')(he:∃q,h'.get? a=some q)(new:ObjOk X.prog X.w (upd H a ob) h' a ob):
 Inv X RE σ (upd H a ob) {s with heap:=h',toks:=t'}:=
 I.write mu (.inl rfl) (λb q hb z=>(hs.2 b hb).trans z) he new
theorem xf(z:kvs.length<=Nm)(hd:(a==NX)=false)(rel:KV kvs vs)(dd:h'.DictOf (ay P w) a vs):
 ObjOk P w H' h' a (.dK kvs):=⟨z,hd,vs,rel,dd⟩
theorem xg(hu:A.units+1<Po)(I:Inv X RE σ H s)(g:DPut H a y v H')(ry:RelV y u)(rv:RelV v r)(h:∀s',Inv X RE σ H' s'->Q () s'):
 Nr (model X.prog X.w) A (setItem (.ref a) u r) Q E s:=by
 rcases g with ⟨kvs,k,e,ey,l,eH⟩ | ⟨kvs,k,b,e,ey,eb,l,eH⟩
 ·subst ey eH
  obtain⟨z,hd,vs,rel,dd⟩:=ii I.hok e
  have hz:vs.length<=Nm:=by rw [<-rel.length];exact z
  have hl:(bN kvs k v).length<=Nm:=by have:=fG kvs k v;lia
  refine wpAny_setItem_pairs (eW ry) dd λh' dd' hs=>h _ ?_
  have he:∃q,h'.get? a=some q:=let ⟨q,_,_,hq,_⟩:=dd';⟨q,hq⟩
  exact og I (by rw [e];exact True.intro) hs he (xf hl hd (rel.put k rv) dd')
 ·subst ey eH
  cases (ry)
  obtain⟨z,hd,xs,rel,dd⟩:=GR I.hok e
  have hz:xs.length<=Nm:=by rw [<-OV.length rel];exact z
  have hl:(bN kvs k v).length<=Nm:=by have:=fG kvs k v;lia
  refine wpAny_setItem_heap (Oh hu) (iZ I.hok eb) dd λh' dd' hs=>h _ ?_
  obtain⟨q,es,ep,hq,h2,h3,h4,_,h5⟩:=dd'
  refine og I (by rw [e];exact True.intro) hs ⟨q,hq⟩ ⟨hl,hd,_,(rel.put k eb rv).keeps λc ys ec=>?_,q,es,ep,hq,h2,h3,h4,h5⟩
  rw [aN (GK ec e (λz=>nomatch z))]
  exact ec
end
section
variable{X:Cx}{RE:List (Addr×Obj)}{σ:St}{H:Hp}{s:Nn}{a:Addr}{kvs:List (Key×V)}{k:Key}{u:Nk}{A:Nw}{E:Nk->Nn->Prop}
theorem GU(I:Inv X RE σ H s)(e:H a=some (.dK kvs))(ry:RelV (kV k) u)(l:aZ kvs k=some v)(hm:more= []\/∃x,more= [x])
 (h:∀w' s',Inv X RE σ (upd H a (.dK (ig kvs k))) s'->RelV v w'->Q w' s'):Nr (model X.prog X.w) A (call (.builtin "dict.pop") (.ref a::u::more)) Q E s:=by
 obtain⟨z,hd,vs,rel,dd⟩:=ii I.hok e
 obtain⟨w',hw,rw'⟩:=RelO.some_of (by rw [<-l];exact rel.val k)
 have hp:(keyPart u).isSome=true:=by
  cases k with
  | inl i=>obtain⟨t,q⟩:=(ry);subst q;rfl
  | inr x=>obtain⟨t,q⟩:=(ry);subst q;rfl
 have ha:argsOk "dict.pop" ⟨.ref a::u::more,[]⟩:=by
  rcases hm with q | ⟨x,q⟩
  ·subst q;exact PySem.F.args_dict_pop_2 _ _
  ·subst q;exact PySem.F.args_dict_pop_3 _ _ _
 refine Oj PH dd.typeIs PySem.F.entry_dict_pop ha (meets_dict_pop_there (ay X.prog X.w) a (eW ry) more hm hp)
  ⟨vs,w',dd,by rw [<-rel.length];exact z,hw,λh' dd' hs=>h w' _ ?_ rw'⟩
 have he:∃q,h'.get? a=some q:=let ⟨q,_,_,hq,_⟩:=dd';⟨q,hq⟩
 exact og I (by rw [e];exact True.intro) hs he (xf (Nat.le_trans (yX kvs k) z) hd (rel.drop k) dd')
end
def yY(i:Expr):Prop:=∀ov iv,subscripted i false ov iv=operate [ov,iv] (PV ov iv)
theorem ud {id : String}
    (hl : OO (.type T) "__getitem__" = pure (some (.builtin id))) (hs : yY slice)
    (h : Nr (model prog w) A (eval value env) (fun o s₁ => Nr (model prog w) A (eval slice env) (fun i s₂ => s₂.TypeIs o T ∧ Nr (model prog w) A (PV o i) Q E s₂) E s₁) E s) :
    Nr (model prog w) A (eval (.Subscript value slice pos) env) Q E s := by
  refine QR (NC h (fun o s₁ h₁ => NC h₁ (fun i s₂ h₂ => ?_) fun _ _ x => x) fun _ _ x => x)
  obtain ⟨hT, h₂⟩ := h₂
  apply Nj
  refine Nj (wpAny_specialOf hT hl ?_)
  have fin : Nr (model prog w) A (subscripted slice false o i) (fun r s₃ => Nr (model prog w) A (letTemporaryGo value o r >>= fun _ => pure r) Q E s₃) E s₂ := by
    rw [hs o i]
    exact wpAny_operating (NC h₂ (fun r s₃ h₃ => Nj (wpAny_letTemporaryGo (Nl h₃))) fun _ _ x => x)
  first
    | exact Nl (Nj fin)
    | exact Nj (Nl (Nj fin))
    | exact Nj fin
theorem tu{σ:St}(I:Inv X RE σ H s)(g:DGet H a y o):s.TypeIs (.ref a) "dict":=by
 rcases g with ⟨kvs,k,e,_⟩ | ⟨kvs,k,b,e,_⟩
 ·obtain⟨_,_,vs,_,dd⟩:=ju I.hok e
  exact dd.typeIs
 ·obtain⟨_,_,xs,_,dd⟩:=jv I.hok e
  exact dd.typeIs
section
variable{X:Cx}{o i e value:Expr}{pos pos' tpos:Pos}{td ty tv:TE}
end
theorem yZ(h:Heap)(hb:NX<h.objs.size):ObjOk P w H (h.push {cls:=.type "dict",data:=.dict #[]}) h.objs.size (.dK []):=
 ⟨Mf _,beq_eq_false_iff_ne.mpr (Ne.symm (LK hb)),[],.nil,Heap.DictOf.new h⟩
def xh:TE:=λ_ H Q=>∀p,H p=none->Q (.ref p) (upd H p (.dK []))
section
variable{X:Cx}{pos:Pos}
theorem y0:PE X (.Dict [] [] pos) xh:=λRE s σ H Q I h=>
 wpAny_Dict_empty ⟨.ref s.heap.objs.size,_,I.laid (o:=.dK []) (λ_ _ q=>Lk _ q) (Nat.le_refl _) (yZ s.heap I.big),rfl,h _ (I.hok.fresh (Nat.le_refl _))⟩
end
def xi:List (TE×TE)->St->Hp->(List (V×V)->Hp->Prop)->Prop
 | [],_,H,Q=>Q [] H
 | (tk,tv)::r,σ,H,Q=>tk σ H λx H1=>tv σ H1 λy H2=>xi r σ H2 λps H3=>Q ((x,y)::ps) H3
structure M1(X:Cx)(o:Expr)(m:Str)(apos:Pos)(e:Expr)(cpos:Pos):Prop where
 base:NU o m X.env (eval o X.env)=eval o X.env
 few:((Oi cpos (Nt [e] X.env)).all (λx=>!x.1)&&(Ov cpos (N4 [] X.env)).all (λx=>x.1.isSome)
  && decide (([e]:List Expr).length+([]:List OZ).length+(if ([]:List OZ).isEmpty then 0 else 1)<30))=true
 line:(apos.endLine==cpos.line)=true
 trees:Oi cpos (Nt [e] X.env)= [(false,eval e X.env)]
structure M2(X:Cx)(o:Expr)(m:Str)(apos:Pos)(e f:Expr)(cpos:Pos):Prop where
 base:NU o m X.env (eval o X.env)=eval o X.env
 few:((Oi cpos (Nt [e,f] X.env)).all (λx=>!x.1)&&(Ov cpos (N4 [] X.env)).all (λx=>x.1.isSome)
  && decide (([e,f]:List Expr).length+([]:List OZ).length+(if ([]:List OZ).isEmpty then 0 else 1)<30))=true
 line:(apos.endLine==cpos.line)=true
 trees:Oi cpos (Nt [e,f] X.env)= [(false,eval e X.env),(false,eval f X.env)]
def IsD(H:Hp)(a:Addr):Prop:=(∃kvs,Rd H a (.dK kvs))\/∃kvs,Rd H a (.dT kvs)
theorem qQ{σ:St}(I:Inv X RE σ H s)(d:IsD H a):
 s.TypeIs (.ref a) "dict"/\(∀b,Nk.ref a= .ref b->∃ob,s.heap.get? b=some ob/\ob.dict=none)/\(a==NX)=false:=by
 rcases d with ⟨kvs,e⟩ | ⟨kvs,e⟩
 ·obtain⟨_,hd,vs,_,dd⟩:=ju I.hok e
  refine⟨dd.typeIs,λb q=>?_,hd⟩
  cases q
  obtain⟨ob,_,_,h1,h2,_⟩:=dd
  exact⟨ob,h1,h2.2.1⟩
 ·obtain⟨_,hd,xs,_,dd⟩:=jv I.hok e
  refine⟨dd.typeIs,λb q=>?_,hd⟩
  cases q
  obtain⟨ob,_,_,h1,h2,_⟩:=dd
  exact⟨ob,h1,h2.2.1⟩
section
variable{X:Cx}{RE:List (Addr×Obj)}{σ:St}{H:Hp}{s:Nn}{a:Addr}{y d:V}{u r:Nk}{o:Option V}{A:Nw}{E:Nk->Nn->Prop}
theorem Ep(hu:A.units+1<Po)(I:Inv X RE σ H s)(g:DGet H a y o)(ry:RelV y u)(h:∀w' s',Inv X RE σ H s'->RelV (o.getD .non) w'->Q w' s'):
 Nr (model X.prog X.w) A (call (.builtin "dict.get") [.ref a,u]) Q E s:=by
 rcases g with ⟨kvs,k,e,ey,l⟩ | ⟨kvs,k,b,e,ey,eb,l⟩
 ·subst ey
  obtain⟨z,hd,vs,rel,dd⟩:=ju I.hok e
  refine Oj NW dd.typeIs Of (Pi _ _) (meets_dict_get (ay X.prog X.w) a (eW ry) hd) ⟨_,dd.mapOf,h _ _ (I.tok _) ?_⟩
  rw [l]
  exact(rel.val k).getD rfl
 ·subst ey
  cases (ry)
  obtain⟨z,hd,xs,rel,dd⟩:=jv I.hok e
  refine Oj NW dd.typeIs Of (Pi _ _) (meetsH_dict_get (O2 (ay X.prog X.w)) a b hd) ⟨Oh hu,k,xs,iZ I.hok eb,dd,h _ _ (I.tok _) ?_⟩
  rw [l]
  exact(rel.val k).getD rfl
theorem Er(hu:A.units+1<Po)(I:Inv X RE σ H s)(g:DGet H a y o)(ry:RelV y u)(rd:RelV d r)(h:∀w' s',Inv X RE σ H s'->RelV (o.getD d) w'->Q w' s'):
 Nr (model X.prog X.w) A (call (.builtin "dict.get") [.ref a,u,r]) Q E s:=by
 rcases g with ⟨kvs,k,e,ey,l⟩ | ⟨kvs,k,b,e,ey,eb,l⟩
 ·subst ey
  obtain⟨z,hd,vs,rel,dd⟩:=ju I.hok e
  refine Oj NW dd.typeIs Of (Pj _ _ _) (meets_dict_get_default (ay X.prog X.w) a (eW ry) hd r) ⟨_,dd.mapOf,h _ _ (I.tok _) ?_⟩
  rw [l]
  exact(rel.val k).getD rd
 ·subst ey
  cases (ry)
  obtain⟨z,hd,xs,rel,dd⟩:=jv I.hok e
  refine Oj NW dd.typeIs Of (Pj _ _ _) (meetsH_dict_get_default (O2 (ay X.prog X.w)) a b hd r) ⟨Oh hu,k,xs,iZ I.hok eb,dd,h _ _ (I.tok _) ?_⟩
  rw [l]
  exact(rel.val k).getD rd
end
def xj(td ty:TE):TE:=λσ H Q=>td σ H λx H1=>∃a,x= .ref a/\IsD H1 a/\ty σ H1 λy H2=>∃o,DGet H2 a y o/\Q (o.getD .non) H2
def Es(td ty tx:TE):TE:=λσ H Q=>td σ H λx H1=>∃a,x= .ref a/\IsD H1 a/\ty σ H1 λy H2=>tx σ H2 λz H3=>∃o,DGet H3 a y o/\Q (o.getD z) H3
def Et(td ty:TE):TE:=λσ H Q=>td σ H λx H1=>∃a,x= .ref a/\IsD H1 a/\ty σ H1 λy H2=>∃kvs k v,H2 a=some (.dK kvs)/\y=kV k/\aZ kvs k=some v/\Q v (upd H2 a (.dK (ig kvs k)))
section
variable{X:Cx}{o e f:Expr}{apos cpos:Pos}{td ty tx:TE}
theorem y6(hu:X.A.units+1<Po)(ho:PE X o td)(he:PE X e ty)(m:M1 X o "get" apos e cpos):PE X (.Call (.Attribute o "get" apos) [e] [] cpos) (xj td ty):=by
 intro RE s σ H Q I h
 refine O6 m.base m.few m.line NQ NW PJ (thn (ho RE s σ H _ I h) λu s1 z=>?_)
 obtain⟨x,H1,I1,rx,a,ex,d,q1⟩:=z
 subst ex
 obtain rfl:u=Nk.ref a:=rx
 obtain⟨t1,t2,_⟩:=qQ I1 d
 refine⟨t1,t2,?_⟩
 rw [m.trees]
 refine Calls.callWith_builtin rfl (Calls.evalArgs_plain (Calls.spliced_cons (thn (he RE s1 σ H1 _ I1 q1) λiv s2 ⟨y,H2,I2,ry,ov,g,q2⟩=>Calls.spliced_nil ?_)))
 exact Ep hu I2 g ry λw' s3 I3 rw'=>⟨_,H2,I3,rw',q2⟩
theorem y8(hu:X.A.units+1<Po)(ho:PE X o td)(he:PE X e ty)(hf:PE X f tx)(m:M2 X o "get" apos e f cpos):PE X (.Call (.Attribute o "get" apos) [e,f] [] cpos) (Es td ty tx):=by
 intro RE s σ H Q I h
 refine O6 m.base m.few m.line NQ NW PJ (thn (ho RE s σ H _ I h) λu s1 w=>?_)
 obtain⟨x,H1,I1,rx,a,ex,d,q1⟩:=w
 subst ex
 obtain rfl:u=Nk.ref a:=rx
 obtain⟨t1,t2,_⟩:=qQ I1 d
 refine⟨t1,t2,?_⟩
 rw [m.trees]
 refine Calls.callWith_builtin rfl (Calls.evalArgs_plain (Calls.spliced_cons (thn (he RE s1 σ H1 _ I1 q1) λiv s2 ⟨y,H2,I2,ry,q2⟩=>
  Calls.spliced_cons (thn (hf RE s2 σ H2 _ I2 q2) λfv s3 ⟨z,H3,I3,rz,ov,g,q3⟩=>Calls.spliced_nil ?_))))
 exact Er hu I3 g ry rz λw' s4 I4 rw'=>⟨_,H3,I4,rw',q3⟩
theorem y9(ho:PE X o td)(he:PE X e ty)(m:M1 X o "pop" apos e cpos):PE X (.Call (.Attribute o "pop" apos) [e] [] cpos) (Et td ty):=by
 intro RE s σ H Q I h
 refine O6 m.base m.few m.line NQ PH PySem.F.type_dict_pop (thn (ho RE s σ H _ I h) λu s1 z=>?_)
 obtain⟨x,H1,I1,rx,a,ex,d,q1⟩:=z
 subst ex
 obtain rfl:u=Nk.ref a:=rx
 obtain⟨t1,t2,_⟩:=qQ I1 d
 refine⟨t1,t2,?_⟩
 rw [m.trees]
 refine Calls.callWith_builtin rfl (Calls.evalArgs_plain (Calls.spliced_cons (thn (he RE s1 σ H1 _ I1 q1) λiv s2 ⟨y,H2,I2,ry,kvs,k,v,ea,ey,l,q2⟩=>Calls.spliced_nil ?_)))
 subst ey
 exact GU I2 ea ry l (.inl rfl) λw' s3 I3 rw'=>⟨v,_,I3,rw',q2⟩
end
section
variable{X:Cx}{RE:List (Addr×Obj)}{σ:St}{H:Hp}{s:Nn}{a:Addr}{kvs:List (Key×V)}{A:Nw}{E:Nk->Nn->Prop}
end
section
variable{X:Cx}{RE:List (Addr×Obj)}{σ:St}{H:Hp}{s:Nn}{a:Addr}{y:V}{u:Nk}{A:Nw}{E:Nk->Nn->Prop}
end
end L2
namespace Att
open PySem PySem.W PySem.Calls PyProof.Rows
theorem mN:∀(ns:List Int) (vs:List Nk),WellAll P h vs (ns.map WData.int)->N7 vs ns:=by
 intro ns
 induction ns with
 | nil=>
  intro vs w
  cases w
  exact .nil
 | cons n ns ih=>
  intro vs w
  cases w with
  | cons a b=>
   cases a
   exact .cons _ _ (ih _ b)
theorem xm{l:Ra}(hn:l.most=some n)
 (hpre:l.row.toRowW.claim.pre args=true) (hwl:WellAll P h vals args):
 ∃a vs ns,vals= [Nk.ref a]/\args= [WData.list (ns.map WData.int)]/\h.get? a=some {cls:=.type "list",data:=.seq vs.toArray}/\N7 vs ns/\ns.length<=n:=by
 have hsh:WShape.hasAll [] args [.list .int]=true:=(pre_splitW hpre).1
 have hc:l.pre.holds [] {args:=args}=true:=(pre_splitW hpre).2
 obtain⟨d,r,rfl,h1,h2⟩:=hasAllW_cons hsh
 obtain rfl:=hasAllW_nil h2
 obtain⟨xs,rfl,h3⟩:=hasW_list h1
 obtain⟨ns,rfl⟩:=items_int h3
 have IV:ns.length<=n:=by
  have h4:(WTm.not (.lt (.lit (.int (n:Int))) (.len (.arg 0)))).holds [] {args:=[.list (ns.map .int)]}=true:=by
   have h4:=(holds_andW hc).1
   rw [hn] at h4
   exact h4
  have h5:=condW_of h4 (w_not (w_lt w_lit (w_len_list (w_arg rfl))))
  refine Nat.le_of_not_lt λq=>?_
  first
   | (rw [decide_eq_true q'] at h5;exact absurd h5 (by decide))
   | (simp at h5;lia)
 cases hwl with
 | cons w1 w2=>
  cases w2
  cases w1 with
  | list ho hall=>exact⟨_,_,ns,rfl,rfl,ho,mN ns _ hall,IV⟩
theorem xn(l:Ra)(args:List WData):l.row.toRowW.claim.post args (.bool true) args=true:=
 postW_of (X:=(true==true))
  (show WShape.has [] (.bool true) .bool=true by first | rfl | decide | simp [WShape.has])
  (w_eq_bool (w_res rfl) w_lit) rfl
theorem tw{l:Ra}
 (hn:l.most=some n) (hdf:d.params.defaults= [])
 (call:∀(w:Nu) (s₀ s₁:Nn) (mg mb:Str->Option Nk) (fa:Addr) (o:Obj) (pm cd doc:Nk) (a:Addr) (vs:List Nk) (ns:List Int),
  Ground q loose [] XP w s₀ mg mb s₁.heap->YP w s₁.heap->
  s₁.heap.get? fa=some o->o.data= .func (docDef d.name d.params d.body d.scope pm cd doc)->s₁.heap.CodeRec cd d.name->mg d.name=some (.ref fa)->
  s₁.heap.get? a=some {cls:=.type "list",data:=.seq vs.toArray}->N7 vs ns->ns.length<=n->s₁.gens= #[]->
  OJ (model l.prog w) Qa (.call (.ref fa) ⟨[.ref a],[]⟩) (λr s'=>r= .ok (.ret (.bool true))/\OldK s₁.heap s'.heap/\s'.os=s₁.os/\Pt s'.gens) s₁):
 WalkO q loose XP YP l.row.toRowW d [] (λf vs=>Q8 f vs):=by
 intro w s₀ s₁ mg mb G Y fa o pm cd doc dV kV ho hd hcd hD hmg hg args vals as hpre hlay hrd hwl hlo
 obtain rfl:dV= .none:=Dflts.none hD hdf
 obtain rfl:kV= .none:=Dflts.noKw hD
 obtain⟨a,vs,ns,rfl,rfl,hobj,hints,IV⟩:=xm hn hpre hwl
 refine enter_call (Px (call w s₀ s₁ mg mb fa o pm cd doc a vs ns G Y ho (fd_plain hd) hcd hmg hobj hints IV hg) λr s' hq=>?_)
 obtain⟨rfl,h2,h3,h4⟩:=hq
 exact⟨.inl ⟨.bool true,.bool true,[],rfl,λ_=>rfl,.bool true,xn l _,λ_=>⟨List.Pairwise.nil,λ_ hm=>(nomatch hm)⟩⟩,h2,h3,h4⟩
section
variable{prog:Np}{w:Nu}{A:Nw}{E:Nk->Nn->Prop}{s:Nn}{K:Frag}
end
end Att
namespace L2
open PySem PySem.Spec PyProof.Rows
theorem xo:∀{vs:List Nk} {ns:List Int},N7 vs ns->Vals (ns.map V.int) vs:=by
 intro x0 x1 zq
 induction zq with
 | nil=>exact .nil
 | cons n t h ih=>exact .cons ⟨t,rfl⟩ ih
def za(H:Hp):Prop:=∀b,H b=none\/∃o xs,H b=some (.frz o (.lst xs))
theorem zc{K:MF}
 (KX:K.In s₁.heap) (hns:s₁.heap.Ns Ny mg) (hb:s₁.heap.Ns P7 mb) (hbb:∀x:Str,x≠"__name__"->mb x=NN x) (hlim:s₁.heap.NoLimit) (hg:s₁.gens= #[])
 (ha:s₁.heap.get? a=some {cls:=.type "list",data:=.seq vs.toArray}) (hi:N7 vs ns) (hl:ns.length<=Nm) (hr:Room k Qa)
 (F:∀base:Heap,K.In base->base.Ns Ny mg->d9 P w K mg base CX k fa fd [x] sp) (hbind:∀(s:Nn) (u:Nk),P8 s fd ⟨[u],[]⟩ [(x,u)])
 (hsp:∀H:Hp,za H->SqL K H a (ns.map V.int)->sp [.ref a] H (λv _=>v= .bl true) λ_ _ _=>False)
 (hCX:∀H e s',CX [] H s₁ (λ_ _ _=>False) e s'->False):
 OJ (model P w) Qa (.call (.ref fa) ⟨[.ref a],[]⟩) (λr s'=>r= .ok (.ret (.bool true))/\OldK s₁.heap s'.heap/\s'.os=s₁.os/\Pt s'.gens) s₁:=by
 have rv:=xo hi
 have lenV:=hi.length
 -- from an abstract heap in which nothing but the script may be tracked
 have core:∀H:Hp,za H->SqL K H a (ns.map V.int)->HOk P w H s₁.heap->(∀b,H b≠none->b=a)->(H a≠none->K.lookup a=none)->
  OJ (model P w) Qa (.call (.ref fa) ⟨[.ref a],[]⟩) (λr s'=>r= .ok (.ret (.bool true))/\OldK s₁.heap s'.heap/\s'.os=s₁.os/\Pt s'.gens) s₁:=by
  intro H hO hS hok hA hK
  have base_of:∀{b:Addr} {o:Obj},s₁.heap.get? b=some o->H b=none->(jS s₁.heap H).get? b=some o:=λe n=>yL e n
  have noA:∀{b:Addr} {o:Obj} {es:Array Pw} {ep:Nat},s₁.heap.get? b=some o->o.data= .dict es ep->H b=none:=λ{b o es ep} e d=>by
   cases q:H b with
   | none=>rfl
   | some u=>
    have e':=hA b (by rw [q];simp)
    subst e'
    rw [ha] at e;cases e
    have d':=d
    cases d'
  have nsK:∀{b:Addr} {m:Str->Option Nk},s₁.heap.Ns b m->(jS s₁.heap H).Ns b m:=λ{b m} y=>by obtain⟨o,es,ep,e,d,r⟩:=y;exact⟨o,es,ep,base_of e (noA e d),d,r⟩
  have hKb:=λb o e=>base_of (KX b o e) (by
   cases q:H b with
   | none=>rfl
   | some u=>
    have e':=hA b (by rw [q];simp)
    subst e'
    rw [hK (by rw [q];simp)] at e;cases e)
  have hM:Mod K mg (jS s₁.heap H):=⟨hKb,nsK hns,⟨mb,nsK hb,hbb⟩,let ⟨mc,h1,h2⟩:=hlim;⟨mc,nsK h1,h2⟩⟩
  have e0:Env0 P w K mg (jS s₁.heap H) Qa [] s₁ H:=⟨rfl,hM,λb o e=>BL e,M0 (wK _ _),trivial,λb hb=>absurd (show b∈([]:List Addr) from hb) (by simp),hok,.of_eq hg⟩
  refine Px ((F _ hKb (nsK hns)).run Qa [] s₁ H ⟨[.ref a],[]⟩ [.ref a] [.ref a] _ _ hr e0 (hbind s₁ (.ref a)) (.cons rfl .nil) (hsp H hO hS)) λr s' h=>?_
  cases r with
  | error e=>exact(hCX H e s' h).elim
  | ok fl=>
   cases fl with
   | next=>exact False.elim h
   | brk=>exact False.elim h
   | cont=>exact False.elim h
   | ret u=>
    obtain⟨v,H',os,bare,un,hok',r',q⟩:=h
    have q':=q
    subst q'
    obtain rfl:u=Nk.bool true:=r'
    refine⟨rfl,OldK.of_keep λb o e=>?_,os,bare⟩
    cases q:H b with
    | none=>exact un.keep b o e q (by intro z;exact absurd (show b∈([]:List Addr) from z) (by simp)) (by simp)
    | some u=>
     rcases hO b with z | ⟨ob,xs,z⟩
     ·rw [q] at z;cases z
     ·have z2:=un.frzs b ob _ z
      obtain⟨e1,_⟩:=hok b _ z
      obtain⟨e2,_⟩:=hok' b _ z2
      rw [e] at e1;cases e1
      exact e2
 cases hk:K.lookup a with
 | some o=>
  -- the script is one of the module's own objects
  have e:=KX a o hk
  rw [ha] at e
  cases e
  refine core (λ_=>none) (λ_=>.inl rfl) (.inr ⟨_,vs.toArray,_,hk,rfl,rfl,rfl,by rw [LB,lenV];exact hl,by simpa using rv⟩) (λb u z=>by have z':=z;cases z') (λb z=>absurd rfl z) λz=>absurd rfl z
 | none=>
  refine core (λb=>if b=a then some (.frz {cls:=.type "list",data:=.seq vs.toArray} (.lst (ns.map V.int))) else none) (λb=>?_) (.inl (.inr ⟨{cls:=.type "list",data:=.seq vs.toArray},RD rfl⟩)) (λb u z=>?_) (λb z=>?_) λ_=>hk
  ·by_cases hb:b=a
   ·exact .inr ⟨_,_,RD hb⟩
   ·exact .inl (RC hb)
  ·by_cases hb:b=a
   ·have z':=(RD hb).symm.trans z
    cases z'
    subst hb
    exact⟨ha,by rw [Ln];exact hl,vs,_,rv,ha⟩
   ·simp_all
  ·simp_all
end L2
/- THE LAST THEOREM (shape;LID,My.* are yours):
 My.Adr:a structure of the addresses that your layer names (classes,functions);My.Txt K t:a structure (Prop) of the equations over K;
 My.txt_mk:{K} {implicit addresses ..} (e1:nsIn K Ny "law" =some (some (.ref f))) (e2:K.lookup f=some ⟨oc,od,.func (fnOf "law" "law" params body scope dV kV doc pm an cdv ct),sl⟩) (e3:codeIn K cdv "law" =true) ..:∃t,My.Txt K t
set_option maxRecDepth 100000 in
set_option maxHeartbeats 0 in
theorem PySem.Challenge.cw_LID_holds : PySem.Challenge.rw_LID.Holds := by
 w_on;o_law;k_head;(case hw=>w_witness2)
 k_fill
 refine L2.walk_of (l:=PySem.Challenge.rw_LID) (n:=63) (k:=40) (x:="script") (CX:=λw=>..) (sp:=λ_=>My.sp_law) rfl (by decide) rfl ⟨rfl,by decide,by decide⟩ (λw h Y=>kIn_of Y) ?F ?S ?C
 case F=>
  intro w mg fa h KX G hmg
  have T:∃t,My.Txt (L2.KOf KX) t:=by
   dsimp only [L2.KOf] -- K must stand as «<heap const> w.params» for k_is
   refine' My.txt_mk ?e1 ?e2 ?e3 ..
   (case e1=>PySem.W.k_is) -- in the order: a name -> its address -> its object -> its parts
   (case e2=>PySem.W.k_is)
   ..
  obtain⟨t,T⟩:=T
  have e0:=hmg.symm.trans (P6 KX G T.law)
  cases e0 -- fa is the law's own address
  exact⟨_,λs u=>.of_eq rfl,λbase kb nb=>My.law_fn T kb nb⟩ -- if «.of_eq rfl» comes too early: refine' ⟨_, ?b, fun base kb nb => My.law_fn T kb nb⟩; exact fun s u => .of_eq rfl
 case S=>exact λw H a ns hl hO hS=>..
 case C=>exact ..
(the tactic k_is has no namespace:write k_is) -/
namespace L2
open PySem PySem.Spec PyProof.Rows
def aH(s:Stmt)(j:Nat):Stmt:=match s with
 | .ClassDef _ _ _ body _ _ _ _ _ _ _=>body.getD j (.Pass ⟨0,0,0,0⟩)
 | _=>.Pass ⟨0,0,0,0⟩
def fA(s:Stmt):Arguments:=match s with
 | .FunctionDef _ a _ _ _ _ _ _ _ _=>a
 | _=>{posonlyargs:=[],args:=[],vararg:=none,kwonlyargs:=[],kw_defaults:=[],kwarg:=none,defaults:=[]}
def bS(s:Stmt):List Stmt:=match s with
 | .FunctionDef _ _ b _ _ _ _ _ _ _=>b
 | _=>[]
def aj(s:Stmt):OS:=match s with
 | .FunctionDef _ _ _ _ _ _ sc _ _ _=>sc
 | _=>{kind:=.function,names:=[],isGenerator:=false,isCoroutine:=false}
abbrev CX0:CXT:=λ_ _ _ _ _ _=>False
abbrev E0:XK:=λ_ _ _=>False
theorem fH:iW CX0 X E0:=λ_ _ _ _ _ _ _ h=>h.elim
structure Fun(K:MF)(x qual:Str)(st:Stmt)(f:Addr)(fd:P1):Prop where
 ex:∃(oc:Nk) (od:Option Addr) (kV doc pm:Nk) (an:Option Addr) (cdv ct:Nk) (osl:Array (Option Nk)),
  fd=Qp x qual (fA st) (bS st) (aj st) .none kV doc pm an cdv ct/\K.lookup f=some ⟨oc,od,.func fd,osl⟩/\QM K cdv qual=true
 kp:Oq K (.ref f)=true
section
variable{P:Np}{w:Nu}{K:MF}{mg:Str->Option Nk}{base:Heap}
theorem Fun.ok{st:Stmt}(F:Fun K x qual st f fd)(S:am N ps (aj st))(len:∀vs H Q E,sp vs H Q E->vs.length=ps.length)
 (hbody:∀(cdv:Nk) (A:Nw) (outer:List Env) (s:Nn) (H:Hp) (vs:List V) (Q:VK) (E:XK),Room k (A.deeper (N0 qual (aj st) s.heap.objs.size f cdv))->sp vs H Q E->
  ∃t,PSs (eU CX0 P w K mg base N qual (aj st) f cdv A outer s H E).nox (bS st) t/\t {nx:=λ_ H'=>Q .non H',rt:=Q} (start N vs) H):d9 P w K mg base CX0 (k+1) f fd ps sp:=by
 obtain⟨oc,od,kV,doc,pm,an,cdv,ct,osl,rfl,lk,hcd⟩:=F.ex
 refine mL lk hcd S len λA outer s H vs Q E hr hsp=>?_
 obtain⟨t,h,q⟩:=hbody cdv A outer s H vs Q E hr hsp
 exact⟨t,h.nox,q⟩
end
theorem cJ(hr:Room k A):A.units+1<Po:=L7 (Nat.add_le_add_left (by decide:1<=64) _) hr.units
theorem xp(h:n<=1000):n<Nm:=L7 h (by decide)
section
variable{X:Cx}
theorem pv(i:Nat){pos:Pos}(hN:X.N[i]? =some x:=by rfl)(hv:Vis X.env.scope x:=by first | exact Or.inl rfl | exact Or.inr (Or.inl rfl) | exact Or.inr (Or.inr rfl))(hd:(x==("__debug__":Str))=false:=by decide)
 (hcd:(x==("__classdict__":Str))=false:=by decide):PE X (.Name x pos) (iF i):=DL hN hv hd hcd
end
theorem Eu{B:Prop}(h:B):if false=true then A else B:=by
 exact h
theorem zd{B:Prop}(h:A):if true=true then A else B:=by
 exact h
theorem cv{B:Prop}[Decidable c](h1:c->A)(h2:¬c->B):if c then A else B:=by simp_all
def Same(H H':Hp):Prop:=∀b o,H b=some o->H' b=some o
theorem Same.trans(a:Same H H1)(b:Same H1 H2):Same H H2:=λc o h=>b c o (a c o h)
theorem Same.free(e:Same H H')(h:H' l=Option.none):H l=Option.none:=by
 cases q:H l with
 | none=>rfl
 | some o=>
  rw [e l o q] at h
  cases h
section
variable{X:Cx}
end
section
variable{κ:Type}[DecidableEq κ]
end
end L2
set_option maxHeartbeats 4000000
namespace L2
open PySem PySem.Spec PyProof.Rows
mutual
inductive Rp (K:MF) (H:Hp):V->Nq->Prop
 | non:Rp K H .non .none
 | bl (b:Bool):Rp K H (.bl b) (.bool b)
 | int (i:Int):Rp K H (.int i) (.int i)
 | str (x:Str):Rp K H (.str x) (.str x)
 | lst {a:Addr} {xs:List V} {ds:List Nq}:H a=some (.lst xs)->RpL K H xs ds->Rp K H (.ref a) (.list ds)
 | tup {a:Addr} {xs:List V} {ds:List Nq}:H a=some (.tup xs)->RpL K H xs ds->Rp K H (.ref a) (.tuple ds)
inductive RpL (K:MF) (H:Hp):List V->List Nq->Prop
 | nil:RpL K H [] []
 | cons {x:V} {d:Nq} {xs:List V} {ds:List Nq}:Rp K H x d->RpL K H xs ds->RpL K H (x::xs) (d::ds)
end
theorem Rp.mono{K:MF}{H H':Hp}(g:Same H H'):∀{v:V} {d:Nq},Rp K H v d->Rp K H' v d:=λh=>Rp.rec (motive_1:=λv d _=>Rp K H' v d) (motive_2:=λv d _=>RpL K H' v d) .non .bl .int .str (λh _ i=>.lst (g _ _ h) i) (λh _ i=>.tup (g _ _ h) i) .nil (λ_ _ i j=>.cons i j) h
theorem RpL.mono{K:MF}{H H':Hp}(g:Same H H'):∀{vs:List V} {ds:List Nq},RpL K H vs ds->RpL K H' vs ds:=λh=>RpL.rec (motive_1:=λv d _=>Rp K H' v d) (motive_2:=λv d _=>RpL K H' v d) .non .bl .int .str (λh _ i=>.lst (g _ _ h) i) (λh _ i=>.tup (g _ _ h) i) .nil (λ_ _ i j=>.cons i j) h
theorem Rp.reads{X:Cx}{RE:List (Addr×Obj)}{σ:St}{H:Hp}{s:Nn}(I:Inv X RE σ H s):∀{v:V} {d:Nq} {u:Nk},Rp X.K H v d->RelV v u->∃as,Reads s.heap u d as:=by
 intro v d u h
 refine Rp.rec (motive_1:=λv d _=>∀{u},RelV v u->∃as,Reads s.heap u d as) (motive_2:=λv d _=>∀{u},Vals v u->∃as,ReadsAll s.heap u d as) ?_ ?_ ?_ ?_ ?_ ?_ ?_ ?_ h
 ·intro _ r;cases r;exact⟨_,.none⟩
 ·intro b _ r;cases r;exact⟨_,.bool b⟩
 ·intro i _ r;obtain⟨t,rfl⟩:=r;exact⟨_,.int i t⟩
 ·intro x _ r;obtain⟨t,rfl⟩:=r;exact⟨_,.str x t⟩
 ·intro _ _ _ h _ q _ r
  cases r
  obtain⟨its,rv,⟨o,n,e,hc,hd,hs⟩,_⟩:=I.list (SqL.of h)
  obtain⟨as,ra⟩:=q rv
  exact⟨_,.list e hc hs (by simpa using ra)⟩
 ·intro _ _ _ h _ q _ r
  cases r
  obtain⟨its,rv,⟨o,e,hc,n,hs⟩,_⟩:=I.tuple (SqT.of h)
  obtain⟨as,ra⟩:=q rv
  exact⟨_,.tuple e hc hs (by simpa using ra)⟩
 ·intro _ r;cases r;exact⟨_,.nil⟩
 ·intro _ _ _ _ _ _ h q _ r
  cases r with
  | cons r t=>
   obtain⟨as,ra⟩:=h r
   obtain⟨bs,rb⟩:=q t
   exact⟨_,.cons ra rb⟩
theorem bh(h:H p=none)(o:HO):Same H (upd H p o):=λb u q=>by rw [aN (aK q h)];exact q
section
variable{X:Cx}
def Ev(K:MF):R2:=λx y H Q=>∃d e,Rp K H x d/\Rp K H y e/\SeqAt.shaped d=true/\SeqAt.shaped e=true/\Q (.bl (Nq.eqv d e)) H
def Ew(K:MF):R2:=λx y H Q=>∃d e,Rp K H x d/\Rp K H y e/\SeqAt.shaped d=true/\SeqAt.shaped e=true/\Q (.bl (!Nq.eqv d e)) H
theorem mO(hu:X.A.units+64<Po):OpR X (NO .Eq) (Ev X.K):=by
 intro RE s σ H x y v u Q I rx ry h
 obtain⟨d,e,hx,hy,sd,se,q⟩:=h
 obtain⟨as,ra⟩:=hx.reads I rx
 obtain⟨bs,rb⟩:=hy.reads I ry
 exact eq_dataH ra rb sd se hu ⟨.bl _,H,I,rfl,q⟩
theorem mP(hu:X.A.units+64<Po):OpR X (NO .NotEq) (Ew X.K):=by
 intro RE s σ H x y v u Q I rx ry h
 obtain⟨d,e,hx,hy,sd,se,q⟩:=h
 obtain⟨as,ra⟩:=hx.reads I rx
 obtain⟨bs,rb⟩:=hy.reads I ry
 exact ne_dataH ra rb sd se hu ⟨.bl _,H,I,rfl,q⟩
theorem ue{pos:Pos}(hg:Gl X n)(hm:X.mg n=none)(hv:NN n=some (.type T))(hn:n≠"__name__":=by decide)(hd:(n==("__debug__":Str))=false:=by decide):PE X (.Name n pos) (tC (.ty T)):=
 BN hg hm hv rfl hn hd
end
def vz:R2:=λx y H Q=>∃p i xs v,x= .ref p/\y= .int i/\(H p=some (.tup xs)\/H p=some (.lst xs))/\atI xs i=some v/\Q v H
theorem Ij:IxR X vz:=by
 intro value slice RE s σ H x y v u Q I rx ry h hs
 obtain⟨p,i,xs,z,rfl,rfl,hq,he,q⟩:=h
 rcases hq with hq | hq
 ·exact Ej value slice RE s σ H _ _ v u Q I rx ry ⟨p,xs,i,z,rfl,rfl,SqT.of hq,he,q⟩ hs
 ·exact BX value slice RE s σ H _ _ v u Q I rx ry ⟨p,xs,i,z,rfl,rfl,SqL.of hq,he,q⟩ hs
theorem Ba:atI (a::l) 0=some a:=cC rfl
theorem GV:atI (a::b::l) 1=some b:=cC rfl
theorem GW:atI (a::b::c::l) 2=some c:=cC rfl
theorem GX:atI (a::b::c::d::l) 3=some d:=cC rfl
theorem GY{α:Type}{a b c d e:α}{l:List α}:atI (a::b::c::d::e::l) 4=some e:=cC (j:=4) rfl
theorem cV{R:Addr->Hp->Prop}(h:∀p H',H p=none->Same H H'->H' p=some o->R p H'):∀p,H p=none->R p (upd H p o):=λp hp=>h p _ hp (bh hp o) aB
theorem sz(h:n<=1000):(n<=Nm)=True:=eq_true (Nat.le_of_lt (xp h))
theorem mn1:min 1 (n+1)=1:=by lia
theorem mn2{n:Nat}:min 2 (n+2)=2:=by lia
theorem na2:Int.natAbs 2=2:=rfl
theorem Ik:Int.natAbs 10=10:=rfl
theorem sz0:(0<=Nm)=True:=sz (by decide)
theorem sz1:(1<=Nm)=True:=sz (by decide)
theorem sz2:(2<=Nm)=True:=sz (by decide)
theorem sz3:(3<=Nm)=True:=sz (by decide)
theorem sz4:(4<=Nm)=True:=sz (by decide)
theorem sz5:(5<=Nm)=True:=sz (by decide)
theorem sz6:(6<=Nm)=True:=sz (by decide)
theorem qR:(Str.ofString a=Str.ofString b)=(a=b):=by
 apply propext
 constructor
 ·intro h
  rw [Str.ofString_eq_toList,Str.ofString_eq_toList] at h
  injection h with h
  have h2:a.toList.map Char.toNat=b.toList.map Char.toNat:=by simpa using congrArg Array.toList h
  have inj:∀c d:Char,c.toNat=d.toNat->c=d:=λc d e=>Char.ext (UInt32.toNat_inj.mp e)
  exact String.toList_inj.mp (List.map_inj_right (λc d e=>inj c d e) |>.mp h2)
 ·rintro rfl;rfl
theorem RpL.nil_inv{K:MF}(h:RpL K H vs []):vs= []:=by cases h;rfl
theorem RpL.cons_inv{K:MF}(h:RpL K H vs (d::ds)):∃x xs,vs=x::xs/\Rp K H x d/\RpL K H xs ds:=by cases h with | cons a b=>exact⟨_,_,rfl,a,b⟩
theorem Rp.str_inv{K:MF}(h:Rp K H v (.str x)):v= .str x:=by cases h;rfl
theorem Rp.int_inv{K:MF}(h:Rp K H v (.int x)):v= .int x:=by cases h;rfl
theorem Rp.tup_inv{K:MF}(h:Rp K H v (.tuple ds)):∃a xs,v= .ref a/\H a=some (.tup xs)/\RpL K H xs ds:=by cases h with | tup a b=>exact⟨_,_,rfl,a,b⟩
theorem Rp.tup1{K:MF}(h:Rp K H v (.tuple [d])):∃a x,v= .ref a/\H a=some (.tup [x])/\Rp K H x d:=by
 obtain⟨a,xs,rfl,ha,r⟩:=h.tup_inv
 obtain⟨x,xs,rfl,hx,r⟩:=r.cons_inv
 cases r.nil_inv
 exact⟨a,x,rfl,ha,hx⟩
theorem Rp.tup2{K:MF}(h:Rp K H v (.tuple [d,e])):∃a x y,v= .ref a/\H a=some (.tup [x,y])/\Rp K H x d/\Rp K H y e:=by
 obtain⟨a,xs,rfl,ha,r⟩:=h.tup_inv
 obtain⟨x,xs,rfl,hx,r⟩:=r.cons_inv
 obtain⟨y,xs,rfl,hy,r⟩:=r.cons_inv
 cases r.nil_inv
 exact⟨a,x,y,rfl,ha,hx,hy⟩
def dz:V->Option Key
 | .int i=>some (.inl i)
 | .str x=>some (.inr x)
 | _=>none
theorem jw(h:dz y=some k):y=kV k:=by
 cases y<;>simp only [dz,Option.some.injEq,reduceCtorEq] at h<;>subst h<;>rfl
section
variable{X:Cx}{i o e value:Expr}{ty td te tv:TE}{pos pos' apos cpos:Pos}
def Bb(ty td:TE):TE:=λσ H Q=>ty σ H λy H1=>td σ H1 λx H2=>∃a kvs k,x= .ref a/\H2 a=some (.dK kvs)/\dz y=some k/\Q (.bl (aZ kvs k).isSome) H2
def xq(td ty:TE):TE:=λσ H Q=>td σ H λx H1=>ty σ H1 λy H2=>∃a kvs k v,x= .ref a/\H2 a=some (.dK kvs)/\dz y=some k/\aZ kvs k=some v/\Q v H2
def Ex(td ty tv:TE):TS:=λD σ H=>tv σ H λv H1=>td σ H1 λx H2=>ty σ H2 λy H3=>∃a kvs k,x= .ref a/\H3 a=some (.dK kvs)/\dz y=some k/\kvs.length<Nm/\D.nx σ (upd H3 a (.dK (bN kvs k v)))
theorem cL(hu:X.A.units+1<Po)(ho:PE X o td)(hi:PE X i ty)(hs:yY i):PE X (.Subscript o i pos) (xq td ty):=by
 intro RE s σ H Q I h
 refine ud PySem.F.slot_dict_getitem.lookup hs (thn (ho RE s σ H _ I h) λu s1 ⟨x,H1,I1,rx,q1⟩=>thn (hi RE s1 σ H1 _ I1 q1) λiv s2 z=>?_)
 obtain⟨y,H2,I2,ry,a,kvs,k,v,ex,ha,ek,ev,q2⟩:=z
 subst ex
 obtain rfl:u=Nk.ref a:=rx
 have g:DGet H2 a y (some v):=by rw [jw ek,<-ev];exact DGet.k ha
 exact⟨tu I2 g,xc hu I2 g ry λw' s3 I3 rw'=>⟨v,H2,I3,rw',q2⟩⟩
theorem BY(hu:X.A.units+1<Po)(hi:PE X i ty)(ho:PE X o td):PC X .In i o (Bb ty td):=by
 intro RE s σ H Q I h
 refine thn (hi RE s σ H _ I h) λiv s1 ⟨y,H1,I1,ry,q1⟩=>thn (ho RE s1 σ H1 _ I1 q1) λu s2 z=>?_
 obtain⟨x,H2,I2,rx,a,kvs,k,ex,ha,ek,q2⟩:=z
 subst ex
 obtain rfl:u=Nk.ref a:=rx
 have g:DGet H2 a y (aZ kvs k):=by rw [jw ek];exact DGet.k ha
 exact Ii hu I2 g ry λs3 I3=>⟨.bl _,H2,I3,rfl,q2⟩
theorem ze(hu:X.A.units+1<Po)(ho:PE X o td)(hi:PE X i ty)(hv:PE X value tv)(hs:O3 value (some (.Subscript o i pos')) pos.line X.env=pure false:=by rfl):
 PS X (.Assign [.Subscript o i pos'] value pos) (Ex td ty tv):=by
 intro RE s σ H D I h
 refine wpAny_Assign_Subscript (thn (hv RE s σ H _ I h) λr s1 ⟨v,H1,I1,rv,q1⟩=>thn (ho RE s1 σ H1 _ I1 q1) λu s2 ⟨x,H2,I2,rx,q2⟩=>thn (hi RE s2 σ H2 _ I2 q2) λiv s3 z=>?_) hs
 obtain⟨y,H3,I3,ry,a,kvs,k,ex,ha,ek,hz,q3⟩:=z
 subst ex
 obtain rfl:u=Nk.ref a:=rx
 have g:DPut H3 a y v (upd H3 a (.dK (bN kvs k v))):=by rw [jw ek];exact DPut.k ha hz
 exact xg hu I3 g ry rv λs4 I4=>⟨σ,_,I4,q3⟩
def Il(to te:TE):TE:=λσ H Q=>to σ H λx H1=>∃l xs,x= .ref l/\H1 l=some (.lst xs)/\te σ H1 λy H2=>oa (.ref l) [y] H2 Q
theorem Ey(ho:PE X o td)(he:PE X e te)
 (hbase:NU o "append" X.env (eval o X.env)=eval o X.env:=by rfl)
 (hfew:((Oi cpos (Nt [e] X.env)).all (λx=>!x.1)&&(Ov cpos (N4 [] X.env)).all (λx=>x.1.isSome)
  && decide ([e].length+([]:List OZ).length+(if ([]:List OZ).isEmpty then 0 else 1)<30))=true:=by rfl)
 (hline:(apos.endLine==cpos.line)=true:=by rfl) (hs:Nt [e] X.env= [(false,eval e X.env)]:=by rfl):
 PE X (.Call (.Attribute o "append" apos) [e] [] cpos) (Il td te):=by
 intro RE s σ H Q I h
 refine wpAny_Call_method_late hbase hfew hline rfl (thn (ho RE s σ H _ I h) λv s1 y=>?_)
 obtain⟨x,H1,I1,r1,l,xs,ex,hl,q1⟩:=y
 subst ex
 obtain⟨h1,h2⟩:=iY I1 r1 (Or.inl ⟨rfl,xs,SqL.of hl⟩)
 refine⟨"list",_,NR,PySem.F.slot_list_append,PySem.F.type_list_append,h1,h2,?_⟩
 have hA:=(tV he a0 (hs:=by rw [hs];rfl)) cpos RE s1 σ H1 (λvs H2=>oa (.ref l) vs H2 Q) I1 q1
 rw [hs] at hA⊢
 refine Calls.callWith_builtin (by rfl) (Calls.evalArgs_plain ?_)
 exact thn hA λus s2 z=>by obtain⟨vs,H2,I2,r2,q2⟩:=z;exact o7 RE s2 σ H2 _ vs v us Q I2 r1 r2 q2
end
theorem BZ{a b:Str}:iG (.str a) (.str b)=true:=rfl
theorem B0{a b:Int}:iG (.int a) (.int b)=true:=rfl
theorem B1{a b:Bool}:iG (.bl a) (.bl b)=true:=rfl
theorem B2:iG .non .non=true:=rfl
theorem B3{b:Str}:iG .non (.str b)=true:=rfl
theorem B4{b:Str}:iG (.str b) .non=true:=rfl
theorem B5{b:Int}:iG .non (.int b)=true:=rfl
theorem B6{b:Int}:iG (.int b) .non=true:=rfl
theorem B7{a:Str}:dz (.str a)=some (.inr a):=rfl
theorem B8{a:Int}:dz (.int a)=some (.inl a):=rfl
theorem Ez{a:Str}:dy (.str a)=true:=rfl
theorem EA{a:Int}:dy (.int a)=true:=rfl
theorem EB:dy .non=true:=rfl
theorem EC{a:Bool}:dy (.bl a)=true:=rfl
theorem B9{x:V}:inV x []=false:=rfl
theorem zf{x y:V}{l:List V}:inV x (y::l)=(eqV y x || inV x l):=rfl
theorem ED:eqV (.str a) (.str b)=decide (a=b):=by rfl
theorem EE{a b:Int}:eqV (.int a) (.int b)=decide (a=b):=by
 show(a==b)=_
 rw [Bool.eq_iff_iff];simp
theorem Im{CX:CXT}{P:Np}{w:Nu}{K:MF}{mg:Str->Option Nk}{base:Heap}{N:List Str}{qual:Str}{scope:OS}{f:Addr}{cd:Nk}{A:Nw}{outer:List Env}{s:Nn}{H:Hp}{E:XK}:(eU CX P w K mg base N qual scope f cd A outer s H E).K=K:=rfl
section
variable{X:Cx}
def EF(neg:Bool):R2:=λx y H Q=>∃p xs,y= .ref p/\(H p=some (.tup xs)\/H p=some (.lst xs))/\dy x=true/\xs.all dy=true/\Q (.bl (if neg then !inV x xs else inV x xs)) H
theorem mQ:OpR X (NO .In) (EF false):=by
 intro RE s σ H x y v u Q I rx ry h
 obtain⟨p,xs,rfl,hq,fx,fs,q⟩:=h
 exact wZ RE s σ H x _ v u Q I rx ry ⟨p,xs,rfl,hq.symm.imp SqL.of SqT.of,fx,fs,q⟩
def Bc(n:Nat)(t:TGs):TG:=λv σ H Q=>∃a xs,v= .ref a/\H a=some (.tup xs)/\xs.length=n/\t xs σ H Q
theorem cb{k:Nat}{pos:Pos}(n:Nat)(hc:X.calm=true)(h:PGs X es t)
 (hn:(OC es X.env).length=n:=by rfl) (hst:(OC es X.env).findIdx? (·.1)=none:=by rfl):PG X (.Tuple es k pos) (Bc n t):=by
 intro RE s σ H v u Q I r hw
 obtain⟨a,xs,e1,hq,hl,hw⟩:=hw
 exact DU hc h hn hst RE s σ H v u Q I r ⟨a,xs,e1,SqT.of hq,hl,hw⟩
def tM(t:TE):TE:=λσ H Q=>∃Q1:VK,t σ H Q1/\∀v H',Q1 v H'->Q v H'
theorem PE.up(h:PE X e t):PE X e (tM t):=by
 intro RE s σ H Q I hq
 obtain⟨Q1,h1,h2⟩:=hq
 exact thn (h RE s σ H Q1 I h1) λu s' z=>by obtain⟨v,H',I',r,q⟩:=z;exact⟨v,H',I',r,h2 v H' q⟩
def EG:V->Option Int->Option Int->Hp->VK->Prop:=λx lo hi H Q=>∃a xs,x= .ref a/\
 ((H a = some (.tup xs) ∧ ¬ (HT.sIx xs.length 0 lo = 0 ∧ HT.sIx xs.length xs.length hi = xs.length) ∧ ∀ p H', H p = none → Same H H' → H' p = some (.tup (gb xs lo hi)) → Q (.ref p) H') ∨
  (H a=some (.lst xs)/\∀p H',H p=none->Same H H'->H' p=some (.lst (gb xs lo hi))->Q (.ref p) H'))
theorem Ip:SlR X EG:=by
 intro RE s σ H x v vl vu lo hi sl Q I rx hs pl pu h
 obtain⟨a,xs,rfl,⟨ha,hn,q⟩ | ⟨ha,q⟩⟩:=h
 ·exact Eg RE s σ H _ v vl vu lo hi sl Q I rx hs pl pu ⟨a,xs,rfl,SqT.of ha,hn,cV q⟩
 ·exact ub RE s σ H _ v vl vu lo hi sl Q I rx hs pl pu ⟨a,xs,rfl,SqL.of ha,cV q⟩
def Iq(K:MF):V->Option Int->Option Int->Hp->VK->Prop:=λx lo hi H Q=>∃a xs,x= .ref a/\SqL K H a xs/\∀p H',H p=none->Same H H'->H' p=some (.lst (gb xs lo hi))->Q (.ref p) H'
theorem zg:SlR X (Iq X.K):=by
 intro RE s σ H x v vl vu lo hi sl Q I rx hs pl pu h
 obtain⟨a,xs,rfl,ha,q⟩:=h
 exact ub RE s σ H _ v vl vu lo hi sl Q I rx hs pl pu ⟨a,xs,rfl,ha,cV q⟩
def tMA(t:TA):TA:=λσ H Q=>∃Q1:List V->Hp->Prop,t σ H Q1/\∀vs H',Q1 vs H'->Q vs H'
theorem PA.up(h:PA X es t):PA X es (tMA t):=by
 intro pos RE s σ H Q I hq
 obtain⟨Q1,h1,h2⟩:=hq
 exact thn (h pos RE s σ H Q1 I h1) λus s' z=>by obtain⟨vs,H',I',r,q⟩:=z;exact⟨vs,H',I',r,h2 vs H' q⟩
def Bd(t:TA):TE:=λσ H Q=>t σ H λxs H1=>xs.length<=Nm/\∀p H',H1 p=none->Same H1 H'->H' p=some (.tup xs)->Q (.ref p) H'
def Be(t:TA):TE:=λσ H Q=>t σ H λxs H1=>xs.length<=Nm/\∀p H',H1 p=none->Same H1 H'->H' p=some (.lst xs)->Q (.ref p) H'
theorem au(h:PA X es t):PE X (.Tuple es x1 pos) (Bd t):=λRE s σ H Q I hq=>
 Ee h.up RE s σ H Q I ⟨_,hq,λ_ _ q=>⟨q.1,cV q.2⟩⟩
theorem aE(h:PA X es t):PE X (.List es pos) (Be t):=λRE s σ H Q I hq=>
 Ef h.up RE s σ H Q I ⟨_,hq,λ_ _ q=>⟨q.1,cV q.2⟩⟩
def xr:TE:=λ_ H Q=>∀p H',H p=none->Same H H'->H' p=some (.dK [])->Q (.ref p) H'
theorem lZ:PE X (.Dict [] [] pos) xr:=λRE s σ H Q I h=>y0 RE s σ H Q I (cV h)
structure Mu(H:Hp)(l:Addr)(o:HO)(H':Hp):Prop where
 at_:H' l=some o
 else_:∀a,a≠l->H' a=H a
theorem Mu.mk':Mu H l o (upd H l o):=⟨aB,λ_ h=>aN h⟩
theorem Mu.old(m:Mu H l o H')(h:H a=some u)(n:a≠l):H' a=some u:=by rw [m.else_ a n];exact h
theorem Mu.same(m:Mu H l o H')(g:Same H0 H)(n:H0 l=none):Same H0 H':=λa u h=>m.old (g a u h) (aK h n)
def Bf(to te:TE):TE:=λσ H Q=>to σ H λx H1=>∃l xs,x= .ref l/\H1 l=some (.lst xs)/\te σ H1 λy H2=>∃ys,H2 l=some (.lst ys)/\ys.length<Nm/\∀H3,Mu H2 l (.lst (ys++[y])) H3->Q .non H3
theorem dv{apos cpos:Pos}(ho:PE X o td)(he:PE X e te)
 (hbase:NU o "append" X.env (eval o X.env)=eval o X.env:=by rfl)
 (hfew:((Oi cpos (Nt [e] X.env)).all (λx=>!x.1)&&(Ov cpos (N4 [] X.env)).all (λx=>x.1.isSome)
  && decide ([e].length+([]:List OZ).length+(if ([]:List OZ).isEmpty then 0 else 1)<30))=true:=by rfl)
 (hline:(apos.endLine==cpos.line)=true:=by rfl) (hs:Nt [e] X.env= [(false,eval e X.env)]:=by rfl):
 PE X (.Call (.Attribute o "append" apos) [e] [] cpos) (Bf td te):=λRE s σ H Q I h=>
 Ey ho.up he.up hbase hfew hline hs RE s σ H Q I ⟨_,h,λ_ _ w=>by obtain⟨l,xs,e1,h1,q⟩:=w;exact⟨l,xs,e1,h1,_,q,λy _ z=>by obtain⟨ys,h2,hz,q⟩:=z;exact⟨l,ys,y,rfl,rfl,h2,hz,q _ .mk'⟩⟩⟩
def kP(td ty tv:TE):TS:=λD σ H=>tv σ H λv H1=>td σ H1 λx H2=>ty σ H2 λy H3=>∃a kvs k,x= .ref a/\H3 a=some (.dK kvs)/\dz y=some k/\kvs.length<Nm/\∀H4,Mu H3 a (.dK (bN kvs k v)) H4->D.nx σ H4
theorem j5(hu:X.A.units+1<Po)(ho:PE X o td)(hi:PE X i ty)(hv:PE X value tv)(hs:O3 value (some (.Subscript o i pos')) pos.line X.env=pure false:=by rfl):
 PS X (.Assign [.Subscript o i pos'] value pos) (kP td ty tv):=λRE s σ H D I h=>
 ze hu ho.up hi.up hv.up hs RE s σ H D I ⟨_,h,λ_ _ q=>⟨_,q,λ_ _ q=>⟨_,q,λ_ _ z=>by obtain⟨a,kvs,k,e1,e2,e3,e4,q⟩:=z;exact⟨a,kvs,k,e1,e2,e3,e4,q _ .mk'⟩⟩⟩⟩
def pairsOf:List (V×V)->Option (List (Key×V))
 | []=>some []
 | (x,y)::r=>(dz x).bind λk=>(pairsOf r).bind λl=>some ((k,y)::l)
def dX(a:Addr)(o:HO)(g:TG)(tb:TS)(D:jo):List V->St->Hp->Prop
 | [],σ,H=>H a=some o/\D.nx σ H
 | x::r,σ,H=>H a=some o/\g x σ H λσ2 H2=>tb {D with nx:=dX a o g tb D r,ct:=dX a o g tb D r,bk:=D.nx} σ2 H2
def Bg(tl:TE)(g:TG)(tb:TS):TS:=λD σ H=>tl σ H λx H1=>∃a xs,x= .ref a/\H1 a=some (.tup xs)/\dX a (.tup xs) g tb D xs σ H1
def Bh(tl:TE)(g:TG)(tb:TS):TS:=λD σ H=>tl σ H λx H1=>∃a xs,x= .ref a/\H1 a=some (.lst xs)/\dX a (.lst xs) g tb D xs σ H1
theorem pe{xs:List V}(h:dX a o g tb D (xs.drop i) σ H):H a=some o/\
 ((xs.length<=i/\D.nx σ H)\/∃x,xs[i]? =some x/\g x σ H λσ2 H2=>tb {D with nx:=dX a o g tb D (xs.drop (i+1)),ct:=dX a o g tb D (xs.drop (i+1)),bk:=D.nx} σ2 H2):=by
 by_cases hi:i<xs.length
 ·rw [List.drop_eq_getElem_cons hi] at h
  exact⟨h.1,.inr ⟨xs[i],Lo hi,h.2⟩⟩
 ·rw [List.drop_eq_nil_of_le (by lia)] at h
  exact⟨h.1,.inl ⟨by lia,h.2⟩⟩
theorem Ca(hp:NE (model X.prog X.w) X.A X.env X.xe)(hc:X.calm=true)(hi:PE X iter tl)(hg:PG X tg g)(hb:PSs X body tb)
 (hs:∀x,N3 iter X.env x=pure x:=by intro _;rfl):PS X (.For tg iter body [] pos) (Bg tl g tb):=by
 intro RE s σ H D I h
 refine cH hp hc (D9 hi.up) hg hb hs RE s σ H D I ⟨_,h,λx H1 q=>?_⟩
 obtain⟨a,xs,rfl,ha,q⟩:=q
 refine⟨a,rfl,⟨xs,SqT.of ha⟩,λi m σ H=>m=xs.length-i/\i<=xs.length/\dX a (.tup xs) g tb D (xs.drop i) σ H,⟨_,rfl,Mf _,q⟩,?_⟩
 rintro i m σ H ⟨rfl,hi,q⟩
 obtain⟨hH,⟨hl,q⟩ | ⟨x,hx,q⟩⟩:=pe q
 ·exact .inl ⟨⟨xs,SqT.of hH,hl⟩,q⟩
 ·have hlt:=(List.getElem?_eq_some_iff.mp hx).1
  refine .inr ⟨⟨xs,x,SqT.of hH,hx⟩,dX a (.tup xs) g tb D (xs.drop (i+1)),λσ' H' q'=>⟨xs.length-(i+1),by lia,rfl,hlt,q'⟩,λy H' z=>?_⟩
  obtain⟨rfl,z⟩:=z
  cases (hx.symm.trans (z xs (SqT.of hH)))
  exact q
theorem Cb(hp:NE (model X.prog X.w) X.A X.env X.xe)(hc:X.calm=true)(hi:PE X iter tl)(hg:PG X tg g)(hb:PSs X body tb)
 (hs:∀x,N3 iter X.env x=pure x:=by intro _;rfl):PS X (.For tg iter body [] pos) (Bh tl g tb):=by
 intro RE s σ H D I h
 refine cH hp hc (bp hi.up) hg hb hs RE s σ H D I ⟨_,h,λx H1 q=>?_⟩
 obtain⟨a,xs,rfl,ha,q⟩:=q
 refine⟨a,rfl,⟨xs,SqL.of ha⟩,λi m σ H=>m=xs.length-i/\i<=xs.length/\dX a (.lst xs) g tb D (xs.drop i) σ H,⟨_,rfl,Mf _,q⟩,?_⟩
 rintro i m σ H ⟨rfl,hi,q⟩
 obtain⟨hH,⟨hl,q⟩ | ⟨x,hx,q⟩⟩:=pe q
 ·exact .inl ⟨⟨xs,SqL.of hH,hl⟩,q⟩
 ·have hlt:=(List.getElem?_eq_some_iff.mp hx).1
  refine .inr ⟨⟨xs,x,SqL.of hH,hx⟩,dX a (.lst xs) g tb D (xs.drop (i+1)),λσ' H' q'=>⟨xs.length-(i+1),by lia,rfl,hlt,q'⟩,λy H' z=>?_⟩
  obtain⟨rfl,z⟩:=z
  cases (hx.symm.trans (z xs (SqL.of hH)))
  exact q
end
def hoT:HO->Option String
 | .lst _=>some "list"
 | .tup _=>some "tuple"
 | .dK _=>some "dict"
 | _=>none
def tyG(H:Hp):V->Option String
 | .non=>some "NoneType"
 | .bl _=>some "bool"
 | .int _=>some "int"
 | .str _=>some "str"
 | .ref a=>(H a).bind hoT
 | _=>none
theorem GZ{H:Hp}:tyG H .non=some "NoneType":=rfl
theorem G0{H:Hp}{x:Bool}:tyG H (.bl x)=some "bool":=rfl
theorem Hb{H:Hp}{x:Int}:tyG H (.int x)=some "int":=rfl
theorem Hc{H:Hp}{x:Str}:tyG H (.str x)=some "str":=rfl
theorem Bi:tyG H (.ref a)=(H a).bind hoT:=rfl
theorem He{xs:List V}:hoT (.lst xs)=some "list":=rfl
theorem Hf{xs:List V}:hoT (.tup xs)=some "tuple":=rfl
theorem Hg{xs:List (Key×V)}:hoT (.dK xs)=some "dict":=rfl
theorem Cd{K:MF}(h:tyG H x=some t):fw K H x (.type t):=by
 cases x with
 | non=>cases h;exact .non
 | bl b=>cases h;exact .bl b
 | int b=>cases h;exact .int b
 | str b=>cases h;exact .str b
 | ref a=>
  rw [Bi] at h
  cases e:H a with
  | none=>simp_all
  | some o=>
   rw [e] at h
   cases o with
   | lst xs=>cases h;exact .lst e
   | tup xs=>cases h;exact .tup e
   | dK xs=>cases h;exact .dK e
   | _=>cases h
 | _=>cases h
theorem EH{K:MF}:No K (.type "int") (.type "int")=some true:=rfl
theorem EI{K:MF}:No K (.type "int") (.type "tuple")=some false:=rfl
theorem EJ{K:MF}:No K (.type "int") (.type "list")=some false:=rfl
theorem EK{K:MF}:No K (.type "int") (.type "str")=some false:=rfl
theorem EL{K:MF}:No K (.type "int") (.type "bool")=some false:=rfl
theorem EM{K:MF}:No K (.type "int") (.type "dict")=some false:=rfl
theorem EN{K:MF}:No K (.type "NoneType") (.type "int")=some false:=rfl
theorem EO{K:MF}:No K (.type "NoneType") (.type "tuple")=some false:=rfl
theorem EQ{K:MF}:No K (.type "NoneType") (.type "list")=some false:=rfl
theorem ER{K:MF}:No K (.type "NoneType") (.type "str")=some false:=rfl
theorem ES{K:MF}:No K (.type "NoneType") (.type "bool")=some false:=rfl
theorem ET{K:MF}:No K (.type "NoneType") (.type "dict")=some false:=rfl
theorem EU{K:MF}:No K (.type "tuple") (.type "int")=some false:=rfl
theorem EV{K:MF}:No K (.type "tuple") (.type "tuple")=some true:=rfl
theorem EW{K:MF}:No K (.type "tuple") (.type "list")=some false:=rfl
theorem EX{K:MF}:No K (.type "tuple") (.type "str")=some false:=rfl
theorem EY{K:MF}:No K (.type "tuple") (.type "bool")=some false:=rfl
theorem EZ{K:MF}:No K (.type "tuple") (.type "dict")=some false:=rfl
theorem E1{K:MF}:No K (.type "list") (.type "int")=some false:=rfl
theorem E2{K:MF}:No K (.type "list") (.type "tuple")=some false:=rfl
theorem E3{K:MF}:No K (.type "list") (.type "list")=some true:=rfl
theorem E4{K:MF}:No K (.type "list") (.type "str")=some false:=rfl
theorem E5{K:MF}:No K (.type "list") (.type "bool")=some false:=rfl
theorem E6{K:MF}:No K (.type "list") (.type "dict")=some false:=rfl
theorem E7{K:MF}:No K (.type "str") (.type "int")=some false:=rfl
theorem E8{K:MF}:No K (.type "str") (.type "tuple")=some false:=rfl
theorem E9{K:MF}:No K (.type "str") (.type "list")=some false:=rfl
theorem Fa{K:MF}:No K (.type "str") (.type "str")=some true:=rfl
theorem Fb{K:MF}:No K (.type "str") (.type "bool")=some false:=rfl
theorem Fc{K:MF}:No K (.type "str") (.type "dict")=some false:=rfl
theorem Fd{K:MF}:No K (.type "bool") (.type "int")=some true:=rfl
theorem Fe{K:MF}:No K (.type "bool") (.type "tuple")=some false:=rfl
theorem Ff{K:MF}:No K (.type "bool") (.type "list")=some false:=rfl
theorem Fg{K:MF}:No K (.type "bool") (.type "str")=some false:=rfl
theorem Fh{K:MF}:No K (.type "bool") (.type "bool")=some true:=rfl
theorem Fi{K:MF}:No K (.type "bool") (.type "dict")=some false:=rfl
theorem Fj{K:MF}:No K (.type "dict") (.type "int")=some false:=rfl
theorem Fk{K:MF}:No K (.type "dict") (.type "tuple")=some false:=rfl
theorem Fl{K:MF}:No K (.type "dict") (.type "list")=some false:=rfl
theorem Fm{K:MF}:No K (.type "dict") (.type "str")=some false:=rfl
theorem Fn{K:MF}:No K (.type "dict") (.type "bool")=some false:=rfl
theorem Fo{K:MF}:No K (.type "dict") (.type "dict")=some true:=rfl
def bm:Expr->Bool
 | .Starred _ _=>false
 | _=>true
theorem dw(h:bm e=true):Nt (e::es) env=(false,eval e env)::Nt es env:=by
 cases e with
 | Starred v q=>exact absurd (h) Bool.false_ne_true
 | _=>rfl
theorem cX:∀{es:List Expr},es.all bm=true->(Oi pos (Nt es env)).any (·.1)=false
 | [],_=>rfl
 | e::es,h=>by
  rw [List.all_cons,Mc] at h
  rw [dw h.1]
  show(false || (Oi pos (Nt es env)).any (·.1))=false
  rw [cX h.2]
  rfl
section
variable{X:Cx}{e:Expr}{es:List Expr}{te:TE}{t:TA}{x:Str}{p pos:Pos}{id T:String}{r:List V->Hp->VK->Prop}
theorem gJ(ha:PE X e te)(hr:PA X es t)(hn:bm e=true:=by rfl):PA X (e::es) (dI te t):=tV ha hr (dw hn)
theorem dY(hc:bG X (.builtin id) r)(hg:Gl X x)(hm:X.mg x=none)(hv:NN x=some (.builtin id))(ha:PA X (e::es) t)(hn:x≠"__name__":=by decide)(hdb:(x==("__debug__":Str))=false:=by decide)
 (hs:(e::es).all bm=true:=by rfl):PE X (.Call (.Name x p) (e::es) [] pos) (tCB r t):=
 yR hc hg hm hv ha hn hdb (dw (Bool.and_eq_true_iff.mp hs).1) (cX (Bool.and_eq_true_iff.mp hs).2)
theorem Fp(hc:bG X (.type T) r)(hg:Gl X x)(hm:X.mg x=none)(hv:NN x=some (.type T))(ha:PA X (e::es) t)(hn:x≠"__name__":=by decide)(hdb:(x==("__debug__":Str))=false:=by decide)
 (hs:(e::es).all bm=true:=by rfl):PE X (.Call (.Name x p) (e::es) [] pos) (tCB r t):=
 wW hc hg hm hv ha hn hdb (dw (Bool.and_eq_true_iff.mp hs).1) (cX (Bool.and_eq_true_iff.mp hs).2)
end
structure DefAt(K:MF)(mg:Str->Option Nk)(x:Str)(st:Stmt)(ps:List Str):Prop where
 ex:∃f fd,mg x=some (.ref f)/\Fun K x x st f fd/\Binds K fd ps []
structure OkD(P:Np)(w:Nu)(K:MF)(mg:Str->Option Nk)(base:Heap)(n:Nat)(x:Str)(ps:List Str)(sp:Sp):Prop where
 ex:∃f fd,mg x=some (.ref f)/\Oq K (.ref f)=true/\Binds K fd ps []/\d9 P w K mg base CX0 n f fd ps sp
def zh(sp:Sp)(t:TA):TE:=λσ H Q=>t σ H λvs H1=>sp vs H1 Q E0
section
variable{P:Np}{w:Nu}{K:MF}{mg:Str->Option Nk}{base:Heap}{x:Str}{st:Stmt}{N ps:List Str}{k:Nat}{sp:Sp}
theorem DefAt.ok(D:DefAt K mg x st ps)(S:am N ps (aj st))(len:∀vs H Q E,sp vs H Q E->vs.length=ps.length)
 (hbody:∀(f:Addr) (cdv:Nk) (A:Nw) (outer:List Env) (s:Nn) (H:Hp) (vs:List V) (Q:VK) (E:XK),Room k (A.deeper (N0 x (aj st) s.heap.objs.size f cdv))->sp vs H Q E->
  ∃t,PSs (eU CX0 P w K mg base N x (aj st) f cdv A outer s H E).nox (bS st) t/\t {nx:=λ_ H'=>Q .non H',rt:=Q} (start N vs) H):OkD P w K mg base (k+1) x ps sp:=by
 obtain⟨f,fd,hm,F,hb⟩:=D.ex
 exact⟨f,fd,hm,F.kp,hb,F.ok S len (hbody f)⟩
end
section
variable{X:Cx}{k n:Nat}{ps:List Str}{sp:Sp}{x:Str}{p pos:Pos}{e:Expr}{es:List Expr}{t:TA}
theorem aR(G:OkD X.prog X.w X.K X.mg X.base k x ps sp)(hr:Room n X.A)(hg:Gl X x)(ha:PA X (e::es) t)(hk:k<=n:=by lia)(hdb:(x==("__debug__":Str))=false:=by decide)
 (hs:(e::es).all bm=true:=by rfl):PE X (.Call (.Name x p) (e::es) [] pos) (zh sp t):=by
 obtain⟨f,fd,hm,kp,hb,F⟩:=G.ex
 intro RE s σ H Q I h
 apply BS F (hr.mono hk) hg hm kp hb .nil fH ha hdb (dw (Bool.and_eq_true_iff.mp hs).1) (cX (Bool.and_eq_true_iff.mp hs).2) RE s σ H Q I
 have e:(λvs H1=>sp (vs++[]) H1 Q E0)=λvs H1=>sp vs H1 Q E0:=by funext vs H1;rw [LQ]
 show t σ H λvs H1=>sp (vs++[]) H1 Q E0
 rw [e]
 exact h
end
def vA(K:MF):Sp:=λvs H Q _=>∃(a:Addr) (ns:List Int),vs= [.ref a]/\SqL K H a (ns.map V.int)/\ns.length<=63/\∀H',Q (.bl true) H'
section
variable{M:Qx}{A:Nw}{E:Nk->Nn->Prop}{s:Nn}{base:Heap}{env:Env}{outer:List Env}{L x:Addr}{oe:Obj}{vs:Array Nk}{Q:Unit->Nn->Prop}
end
section
variable{X:Cx}{RE:List (Addr×Obj)}{σ:St}{H1:Hp}{s1:Nn}
end
section
variable{P:Np}{w:Nu}{K:MF}{mg:Str->Option Nk}{base:Heap}{N:List Str}{qual:Str}{scope:OS}{f:Addr}{cd:Nk}{A:Nw}{outer:List Env}{s:Nn}{H:Hp}{E:XK}
end
section
variable{X:Cx}{E:XK}{x:Str}{C:Addr}{np cpos pos:Pos}{e:Expr}{es:List Expr}{t:TA}
end
section
variable{P:Np}{w:Nu}{K:MF}{mg:Str->Option Nk}{base:Heap}{N:List Str}{qual:Str}{scope:OS}{f:Addr}{cd:Nk}{A:Nw}{outer:List Env}{s:Nn}{H:Hp}{E:XK}
end
section
variable{P:Np}{w:Nu}{K:MF}{mg:Str->Option Nk}{base:Heap}{x:Str}{st:Stmt}{N ps:List Str}{k:Nat}{sp:Sp}
end
section
variable{X:Cx}{E:XK}{k n:Nat}{ps:List Str}{sp:Sp}{x:Str}{p pos:Pos}{e:Expr}{es:List Expr}{t:TA}
end
section
variable{X:Cx}{RE:List (Addr×Obj)}{σ:St}{H:Hp}{s:Nn}
end
section
open PySem.W
end
abbrev TX:=St->Hp->VK->XK->Prop
section
variable{X:Cx}{k n:Nat}{ps:List Str}{sp:Sp}{x:Str}{p pos:Pos}{e:Expr}{es:List Expr}{t:TA}
end
section
variable{X:Cx}{B:Addr}{i:Nat}{n cx:Str}{e:Expr}{b0:Stmt}{suite:List Stmt}{ep np hpos pos:Pos}{t:TX}{th:TS}
end
abbrev Cx.comp(X:Cx)(scope:OS)(cl:List (Str×Addr))(N:List Str)(C:Addr)(fp:List Addr)(s₀:Nn)(H₀:Hp):Cx:=
 {X with N:=N,s₀:=s₀,H₀:=H₀,env:=compEnvC scope cl C X.env,outer:=X.stack,ex:=fp,fn:=λ_=>false,pn:=[],xe:=λ_ _=>False}
def qy(σ:St)(cap:List Nat):St:=cap.map λi=>(σ[i]?).join
section
variable{X:Cx}{RE:List (Addr×Obj)}{σ:St}{H:Hp}{s:Nn}{scope:OS}{cl:List (Str×Addr)}{N:List Str}{cap:List Nat}
end
def PTs(X:Cx)(ifs:List Expr)(t:TT):Prop:=
 ∀(RE:List (Addr×Obj)) (s:Nn) (σ:St) (H:Hp) (Q:Bool->Hp->Prop),Inv X RE σ H s->t σ H Q->
  Nr (model X.prog X.w) X.A (forIn ifs true λc r=>if r=true then do let ok <-Rg c X.env (eval c X.env);pure (ForInStep.yield ok) else pure (ForInStep.yield r)) (TP X RE σ Q) X.xe s
def zj:TT:=λ_ H Q=>Q true H
theorem cc{X:Cx}:PTs X [] zj:=λ_ _ _ H _ I h=>wpAny_tests_nil ⟨H,I,h⟩
theorem uf{X:Cx}{c:Expr}{t:TT}(h:PT X c t):PTs X [c] t:=λRE s σ H Q I q=>wpAny_tests_one (h RE s σ H Q I q)
section
variable{X:Cx}{scope:OS}{cl:List (Str×Addr)}{N:List Str}{cap:List Nat}{x:Str}{px pos:Pos}{iter elt:Expr}{ifs:List Expr}{wi:TI}{tc:TT}{te:TE}
end
structure qS(J:It)(xs:List V)(ok:Hp->Prop):Prop where
 go:∀i H,ok H->i<xs.length->J.go i H
 stop:∀i H,ok H->xs.length<=i->J.stop i H
 yld:∀i H x H',ok H->i<xs.length->J.yld i H x H'->H'=H/\xs[i]? =some x
theorem pA{K:MF}{a:Addr}{xs:List V}:qS (Itl K a) xs (λH=>H a=some (.lst xs)) where
 go:=λi H e h=>⟨xs,xs[i],SqL.of e,Lo h⟩
 stop:=λi H e h=>⟨xs,SqL.of e,h⟩
 yld:=λi H v H' e h y=>⟨y.1,y.2 xs (SqL.of e)⟩
theorem zk{K:MF}{a:Addr}{xs:List V}:qS (Itt K a) xs (λH=>H a=some (.tup xs)) where
 go:=λi H e h=>⟨xs,xs[i],SqT.of e,Lo h⟩
 stop:=λi H e h=>⟨xs,SqT.of e,h⟩
 yld:=λi H v H' e h y=>⟨y.1,y.2 xs (SqT.of e)⟩
theorem dJ{names:List (Str×NZ)}{y:Str}{k:NZ}(h:names.lookup y=some k):(y,k)∈names:=N6 h
section
variable{X:Cx}
end
def Bj:R2:=λx y H Q=>∃l b xs zs,x= .ref l/\y= .ref b/\H l=some (.lst xs)/\H b=some (.lst zs)/\xs.length+zs.length<=Nm/\∀p H',H p=none->Same H H'->H' p=some (.lst (xs++zs))->Q (.ref p) H'
theorem Cg{X:Cx}:OpR X (OH .Add) Bj:=by
 intro RE s σ H x y v u Q I rx ry h
 obtain⟨l,b,xs,zs,e1,e2,h1,h2,hz,q⟩:=h
 exact Eo RE s σ H x y v u Q I rx ry ⟨l,b,xs,zs,e1,e2,h1,h2,hz,cV q⟩
def Bk:V->V->V->Hp->(Hp->Prop)->Prop:=λo i v H Q=>∃p xs k j,o= .ref p/\i= .int k/\H p=some (.lst xs)/\ixN xs.length k=some j/\∀H',Mu H p (.lst (xs.set j v)) H'->Q H'
theorem fP{X:Cx}:uZ X Bk:=by
 intro RE s σ H o i v ov iv u Q I ro ri rv h
 obtain⟨p,xs,k,j,e1,e2,h1,h2,q⟩:=h
 exact yV RE s σ H o i v ov iv u Q I ro ri rv ⟨p,xs,k,j,e1,e2,h1,h2,q _ .mk'⟩
def tMs(t:TS):TS:=λD σ H=>∃Z:St->Hp->Prop,t {D with nx:=Z} σ H/\∀σ' H',Z σ' H'->D.nx σ' H'
theorem gu{X:Cx}{st:Stmt}{t:TS}(h:PS X st t):PS X st (tMs t):=by
 intro RE s σ H D I hq
 obtain⟨Z,h1,h2⟩:=hq
 refine thn (h RE s σ H _ I h1) λfl s' hs=>?_
 cases fl with
 | next=>obtain⟨σ',H',I',q⟩:=hs;exact⟨σ',H',I',h2 _ _ q⟩
 | _=>exact hs
section
variable{X:Cx}{RE:List (Addr×Obj)}{σ:St}{H:Hp}{s:Nn}{h':Heap}
theorem Inv.turnedL{ch:List Addr}(I:Inv X RE σ H s)(k:∀b o,b∉ch->s.heap.get? b=some o->h'.get? b=some o)(hf:∀b∈ch,ft X RE H b):Inv X RE σ H {s with heap:=h',toks:=t'}:=by
 have nit:∀b u,H b=some u->b∉ch:=λb u e z=>by rw [(hf b z).1] at e;cases e
 refine I.step (λb hb=>?_) (λb o _ _ hc e _=>k b o hc e) (λb o _ _ hc e _=>⟨o.slots,k b o hc e⟩) (λ_ _ _ _ n=>n)
  (λb o hc e=>⟨o,k b o hc e⟩) (λ_ _ e=>e) (λ_ _ _ e=>e) (λb ps e=>⟨#[],by rw [e];simp⟩) (λm hm=>?_) (λb u e=>?_) I.bare
 ·obtain⟨_,f1,_,f3,f4,f5⟩:=hf b hb
  exact⟨f3,f1,f4,f5⟩
 ·obtain⟨o,es,ep,ho,r⟩:=hm
  exact⟨o,es,ep,k _ o (λz=>(hf _ z).2.1 rfl) ho,r⟩
 ·refine(I.hok b u e).stay (λc v hc q=>k c v ?_ q) (λ_ q=>q) λ_ _ q=>q
  rcases hc with z | z
  ·rw [z];exact nit b u e
  ·exact nit c _ z
end
inductive F2 (R:V->V->Prop):List V->List V->Prop
 | nil:F2 R [] []
 | cons {x v:V} {xs vs:List V}:R x v->F2 R xs vs->F2 R (x::xs) (v::vs)
theorem gK{α:Type}{f:α->β->Sem (ForInStep β)}(g:α->β->β):∀(l:List α) (b:β),(∀x∈l,∀b,f x b=pure (.yield (g x b)))->forIn l b f=pure (l.foldl (λb x=>g x b) b)
 | [],b,_=>by rw [M8];rfl
 | x::l,b,h=>by
  rw [M4,h x Ll b]
  exact gK g l (g x b) λy hy=>h y (Lm _ hy)
def gL(env:Env)(x:Str×NZ)(r:List (Str×Addr)):List (Str×Addr):=if x.2== .free then (x.1,(env.cells.lookup x.1).getD 0)::r else r
def oh(env:Env)(scope:OS):List (Str×Addr):=scope.names.foldl (λr x=>gL env x r) []
theorem vB(h:∀y∈scope.names,y.2= .free->∃c,env.cells.lookup y.1=some c):QS scope env=pure (oh env scope):=by
 simp only [QS]
 rw [gK (gL env) scope.names [] (λx hx b=>by
  obtain⟨n,k⟩:=x
  cases hk:(k==NZ.free) with
  | false=>simp [gL,hk]
  | true=>
   have e:k= .free:=by simpa using hk
   obtain⟨c,hc⟩:=h _ hx e
   have hc':=hc
   simp [gL,hk,cellOf,hc'])]
 rfl
theorem xt:∀(names:List (Str×NZ)) (acc:List (Str×Addr)),(∀y∈names,y.2= .free->∃c,env.cells.lookup y.1=some c)->(∀y c,acc.lookup y=some c->env.cells.lookup y=some c)->
 ∀y c,(names.foldl (λr x=>gL env x r) acc).lookup y=some c->env.cells.lookup y=some c
 | [],acc,_,ha,y,c,e=>ha y c e
 | (n,k)::names,acc,h,ha,y,c,e=>by
  refine xt names (gL env (n,k) acc) (λz hz=>h z (Lm _ hz)) (λz d ez=>?_) y c e
  unfold gL at ez
  split at ez
  ·rename_i hk
   have hk':k= .free:=by simpa using hk
   obtain⟨c',hc'⟩:=h _ Ll hk'
   rw [Mj] at ez
   split at ez
   ·simp_all
   ·exact ha z d ez
  ·exact ha z d ez
theorem xu:∀(names:List (Str×NZ)) (acc:List (Str×Addr)) (y:Str),((y,NZ.free)∈names\/(acc.lookup y).isSome)->((names.foldl (λr x=>gL env x r) acc).lookup y).isSome
 | [],acc,y,h=>h.elim (λz=>absurd z Lr) id
 | (n,k)::names,acc,y,h=>by
  apply xu names (gL env (n,k) acc) y
  rcases h with h | h
  ·rcases List.mem_cons.mp h with h | h
   ·obtain⟨rfl,rfl⟩:=Prod.mk.inj h
    right
    simp [gL]
   ·exact .inl h
  ·right
   unfold gL
   split
   ·rw [Mj]
    split
    ·rfl
    ·exact h
   ·exact h
theorem fq{env:Env}:∀{names:List (Str×NZ)} {x:Str},names.lookup x=some .free->
 (names.map λ(n,k)=>if (k==NZ.free&&env.scope.kind== .function&&env.kindOf n==some .cell) then (n,NZ.cell) else (n,k)).lookup x=some .cell\/
 (names.map λ(n,k)=>if (k==NZ.free&&env.scope.kind== .function&&env.kindOf n==some .cell) then (n,NZ.cell) else (n,k)).lookup x=some .free
 | [],_,h=>by simp at h
 | (n,k)::r,x,h=>by
  have ih:= @fq env r x
  rw [Mj] at h
  rw [Ls]
  cases hx:x==n with
  | true=>
   rw [hx] at h
   have hk:k= .free:=by simpa using h
   subst hk
   dsimp only
   split
   ·left;rw [Mj,hx]
   ·right;rw [Mj,hx]
  | false=>
   rw [hx] at h
   dsimp only
   split
   ·rw [Mj,hx];exact ih h
   ·rw [Mj,hx];exact ih h
section
variable{X:Cx}{B:Addr}{cx:Str}{e:Expr}{b0:Stmt}{suite:List Stmt}{ep np hpos pos:Pos}{t:TX}{th:TS}
end
def Ir(J:It)(g:TG)(tb:TS)(D:jo)(σ:St)(H1:Hp):Prop:=∃W:Nat->Nat->St->Hp->Prop,(∃m,W 0 m σ H1)/\∀i m σ H,W i m σ H->
 (J.stop i H/\D.nx σ H)\/(J.go i H/\∃N:St->Hp->Prop,(∀σ' H',N σ' H'->∃m',m'<m/\W (i+1) m' σ' H')/\∀x H',J.yld i H x H'->g x σ H' λσ2 H2=>tb {D with nx:=N,ct:=N,bk:=D.nx} σ2 H2)
theorem cE(h:wi σ H λJ H1=>Ir J g tb D σ H1):vc wi g tb D σ H:=h
section
variable{X:Cx}{RE:List (Addr×Obj)}{σ:St}{H:Hp}{s:Nn}
def qT(X:Cx)(d:Addr):Prop:=∀o u,X.H₀ d≠some (.frz o u)
theorem Inv.retag{d:Addr}{u u':HO}(I:Inv X RE σ H s)(hd:H d=some u)(n1:∀xs,u≠.tup xs)(n2:qT X d)(n3:∀ps,u≠.tbl ps)(n4:∀x,u≠.own x)(new:ObjOk X.prog X.w (upd H d u') s.heap d u'):Inv X RE σ (upd H d u') s:=by
 have ne:∀{b:Addr},H b=none->b≠d:=λh z=>by rw [z,hd] at h;cases h
 have sub:∀{b:Addr},H b=none->upd H d u' b=none:=λ{b} h=>by rw [aN (ne h)];exact h
 have bs:=I.base
 refine⟨I.ok,I.os,I.bare,⟨bs.keep,bs.slot,λb o e n hx=>sub (bs.free b o e n hx),bs.there,λb xs e=>?_,λb o v e=>?_,λb ps e=>?_⟩,I.loc,I.cell,sub I.free,λx c e=>sub (I.freeC x c e),λp hp=>?_,λa v e=>?_,I.len⟩
 ·have:=bs.tups b xs e
  have nb:b≠d:=λz=>by rw [z,hd] at this;exact n1 xs (Option.some.inj this)
  rw [aN nb];exact this
 ·have nb:b≠d:=λz=>n2 o v (by rw [<-z];exact e)
  rw [aN nb];exact bs.frzs b o v e
 ·obtain⟨more,h1⟩:=bs.tbls b ps e
  have nb:b≠d:=λz=>by rw [z,hd] at h1;exact n3 _ (Option.some.inj h1)
  exact⟨more,by rw [aN nb];exact h1⟩
 ·obtain⟨p1,p2,p3,p4,p5⟩:=I.pin p hp
  exact⟨p1,sub p2,p3,p4,p5⟩
 ·by_cases ha:a=d
  ·subst ha
   rw [aB] at e
   cases e
   exact new
  ·rw [aN ha] at e
   refine(I.hok a v e).stay (λ_ _ _ q=>q) (λb q=>?_) λb xs q=>?_
   ·have nb:b≠d:=λz=>by rw [z,hd] at q;exact n4 _ (Option.some.inj q)
    rw [aN nb];exact q
   ·have nb:b≠d:=λz=>by rw [z,hd] at q;exact n1 _ (Option.some.inj q)
    rw [aN nb];exact q
theorem Inv.nofz{d:Addr}{kvs:List (Key×V)}(I:Inv X RE σ H s)(hd:H d=some (.dK kvs)):qT X d:=λo u e=>by
 have:=I.base.frzs d o u e
 rw [hd] at this;cases this
end
theorem qU{k:Key}{v:Nk}(h:ib k v=true):RelV (kV k) v:=by
 rcases bA h with ⟨i,t,rfl,rfl⟩ | ⟨x,t,rfl,rfl⟩
 ·exact⟨t,rfl⟩
 ·exact⟨t,rfl⟩
section
variable{X:Cx}
def Bl:V->List V->Hp->VK->Prop:=λx vs H Q=>∃l xs y,x= .ref l/\vs= []/\H l=some (.lst (xs++[y]))/\∀H',Mu H l (.lst xs) H'->Q y H'
theorem ug:MtR X "list.pop" Bl:=by
 intro RE s σ H x vs v us Q I rx rv h
 obtain⟨l,xs,y,e1,e2,hH,q⟩:=h
 refine Em RE s σ H x vs v us Q I rx rv ⟨l,xs++[y],y,e1,e2,hH,?_,?_⟩
 ·rw [Lq,LN,Nat.add_sub_cancel]
  simp
 ·rw [List.dropLast_concat]
  exact q _ .mk'
end
section
variable{prog:Np}{w:Nu}{A:Nw}{E:Nk->Nn->Prop}{s:Nn}
end
theorem jx:∀{ns:List Int} {its:List Nk},Vals (ns.map V.int) its->N7 its ns
 | [],_,.nil=>.nil
 | n::ns,_,.cons h r=>by
  obtain⟨t,rfl⟩:=h
  exact .cons n t (jx r)
theorem qV:∀{ns:List Int} {its:List Nk},N7 its ns->Vals (ns.map V.int) its:=by
 intro x0 x1 zq
 induction zq with
 | nil=>exact .nil
 | cons n t r ih=>exact .cons ⟨t,rfl⟩ ih
def Fq:List V->Hp->VK->Prop:=λxs H Q=>∃(p:Addr) (ns:List Int),xs= [.ref p]/\H p=some (.lst (ns.map V.int))/\Q (.int ns.sum) H
theorem zm(hc:X.calm=true):bG X (.builtin "sum") Fq:=by
 intro RE s σ H xs us Q I r h
 obtain⟨p,ns,rfl,hp,q⟩:=h
 obtain⟨u,rfl,ru⟩:=fF r
 cases ru
 obtain⟨its,rv,pl,hz⟩:=I.list (SqL.of hp)
 have hi:=jx rv
 obtain⟨xs,hx⟩:=hi.allInts.items
 have hl:=hx▸pl.isList
 refine PySem.sum_intListG (I.ok.hd hc) hl λh' tk t' hk=>?_
 have e1:ns=xs.toList.map (·.1):=by
  rw [<-nums_intItems,<-hx]
  exact(hi.numsOf).symm
 have e2:preSum (numAt xs) xs.size=ns.sum:=by
  rw [preSum_eq,LH (by simp),e1]
 rw [e2]
 exact⟨.int ns.sum,H,I.kept hk,⟨t',rfl⟩,q⟩
def Bm:List V->Hp->VK->Prop:=λxs H Q=>∃(p:Addr) (ns:List Int),xs= [.ref p]/\(H p=some (.lst (ns.map V.int))\/∃kvs:List (Key×V),H p=some (.dK kvs)/\kvs.map (·.1)=ns.map Sum.inl)/\ns.length<64/\
 ∀D H' ms,H D=none->Same H H'->H' D=some (.lst (ms.map V.int))->List.Perm ms ns->List.Pairwise (λx y=>x<=y) ms->Q (.ref D) H'
theorem tD(hc:X.calm=true):bG X (.builtin "sorted") Bm:=by
 intro RE s σ H xs us Q I r h
 obtain⟨p,ns,rfl,hp,h64,q⟩:=h
 obtain⟨u,rfl,ru⟩:=fF r
 cases ru
 rcases hp with hp | ⟨kvs,hp,hk⟩
 ·obtain⟨its,rv,pl,hz⟩:=I.list (SqL.of hp)
  have hi:=jx rv
  have hl:its.length=ns.length:=by have:=rv.length;rw [Ln] at this;exact this.symm
  refine sorted_ints pl.isList hi (by lia) λout ns' a1 a2 a3=>?_
  obtain⟨e,he⟩:=Qg s.heap its out
  have ln:ns'.length<=Nm:=by have:=a2.length_eq;unfold Nm;lia
  have fr:=I.hok.fresh (MS _)
  have I2:=I.laid (o:=.lst (ns'.map V.int)) (t':=s.toks) (λb u e=>P2 e) (MS _) (⟨by rw [Ln];exact ln,out.toList,e,qV a1,he⟩)
  exact⟨.ref (s.heap.objs.size+1),_,I2,rfl,q _ _ _ fr (bh fr _) aB a2 a3⟩
 ·obtain⟨z1,z2,vs,rel,o,es,ep,ho,r⟩:=ii I.hok hp
  have D0:s.heap.DictAt (ay X.prog X.w) p vs ep:=⟨o,es,ho,r⟩
  have lv:vs.length=ns.length:=by
   have h1:=rel.length
   have h2:=congrArg List.length hk
   rw [Ln,Ln] at h2
   lia
  apply Qe Qy Qh Qi (Qj _)
  refine Nj (Nl ?_)
  refine Nj (PySem.W.kdu_collect (Nf z2) (I.ok.hd hc) D0 (by rw [lv];unfold Nm;lia) λh' tk acc hkp hacc=>?_)
  have hla:acc.toList.length=ns.length:=by rw [Array.length_toList,hacc.1,lv]
  refine Nj (ON ?_ (by rw [hla];unfold Nm;lia))
  have hi:N7 acc.toList ns:=by
   have key:∀(n:Nat) (l:List Nk) (ms:List Int),l.length=ms.length->(∀(j:Nat) (v:Nk),l[j]? =some v->∃i t,ms[j]? =some i/\v=Nk.int i t)->N7 l ms:=by
    intro n l
    induction l with
    | nil=>intro ms hl _;cases ms with
     | nil=>exact .nil
     | cons _ _=>cases hl
    | cons v l ih=>
     intro ms hl hv
     cases ms with
     | nil=>cases hl
     | cons i ms=>
      obtain⟨i',t,e1,rfl⟩:=hv 0 v rfl
      cases e1
      exact .cons _ t (ih ms (by simpa using hl) λj v e=>by simpa using hv (j+1) v (by simpa using e))
   refine key 0 _ _ hla λj v e=>?_
   obtain⟨k,x,hx,hkv⟩:=hacc.2 j v (by rw [<-Array.getElem?_toList];exact e)
   obtain⟨h1,h2⟩:=List.getElem?_eq_some_iff.mp hx
   have hj:j<kvs.length:=by have:=rel.length;lia
   have ek:(kvs[j]).1=k:=by
    have h1:=congrArg (λl:List Key=>l[j]?) rel.keys
    simp only [LF,Lo hj,hx,MK] at h1
    exact Option.some.inj h1
   have e3:=congrArg (λl:List Key=>l[j]?) hk
   simp only [LF,Lo hj,MK] at e3
   have hjn:j<ns.length:=by lia
   rw [Lo hjn] at e3
   simp only [MK,Option.some.injEq] at e3
   rw [ek] at e3
   subst e3
   rcases bA (show ib (Sum.inl ns[j]) v=true from hkv) with ⟨i,t,e4,rfl⟩ | ⟨z,t,e4,_⟩
   ·cases e4
    exact⟨_,t,Lo hjn,rfl⟩
   ·cases e4
  have hoL:(h'.push (NY "list" acc.toList.toArray 0)).get? h'.objs.size=some (NY "list" acc.toList.toArray 0):=Lp _ rfl
  refine Nj (NA (NF PP ⟨_,hoL,rfl⟩ Py (list_sort_tree hoL hi (by lia) λout ns' a1 a2 a3=>⟨_,rfl,?_⟩) (PQ _)))
  refine Nl ⟨_,rfl,?_⟩
  obtain⟨e,he⟩:=sortedHeap_at hoL
  have I1:Inv X RE σ H {s with heap:=h',toks:=tk}:=I.kept hkp
  have ln:ns'.length<=Nm:=by have:=a2.length_eq;unfold Nm;lia
  have fr:=I1.hok.fresh (Nat.le_refl _)
  have kp:∀b o,h'.get? b=some o->(QT (h'.push (NY "list" acc.toList.toArray 0)) h'.objs.size acc.toList out).get? b=some o:=λb o e1=>by
   have l1:=LG e1
   rw [sortedHeap_old (LK l1) (by rw [LS];exact Mn l1)]
   exact Lk _ e1
  have I2:=I1.laid (o:=.lst (ns'.map V.int)) (t':=tk) kp (Nat.le_refl _) (⟨by rw [Ln];exact ln,out.toList,e,qV a1,he⟩)
  exact⟨.ref h'.objs.size,_,I2,rfl,q _ _ _ fr (bh fr _) aB a2 a3⟩
def xv(K:MF):List V->Hp->VK->Prop:=λxs H Q=>∃p ys,xs= [.ref p]/\(H p=some (.lst ys)\/H p=some (.tup ys))/\∀l H',H l=none->Same H H'->H' l=some (.lst ys)->Q (.ref l) H'
theorem jy:bG X (.type "list") (xv X.K):=by
 intro RE s σ H xs us Q I r h
 obtain⟨p,ys,e,hp,q⟩:=h
 exact qN RE s σ H xs us Q I r ⟨p,ys,e,hp.elim (λh=>.inl (SqL.of h)) (λh=>.inr (.inl (.inl h))),cV q⟩
def zp(xs:List V)(k:Nat)(y:V):List V:=xs.take k++y::xs.drop k
def Bo:V->List V->Hp->VK->Prop:=λx vs H Q=>∃l xs k y,x= .ref l/\vs= [.int k,y]/\H l=some (.lst xs)/\0<=k/\k<=xs.length/\xs.length<1000/\∀H',Mu H l (.lst (zp xs k.toNat y)) H'->Q .non H'
theorem Ci:MtR X "list.insert" Bo:=by
 intro RE s σ H x vs v us Q I rx rv h
 obtain⟨l,xs,k,y,rfl,rfl,hH,h0,h1,hz,q⟩:=h
 cases rx
 cases rv with
 | cons r1 rv=>
 cases rv with
 | cons r2 rv=>
 cases rv
 obtain⟨t,rfl⟩:=r1
 rename_i u
 obtain⟨z,its,n,r,hl,e⟩:=I.lstM hH
 have hb:1000<=Nm:=by unfold Nm;decide
 have hf:¬(!ND.List.listFitsIndex k)=true:=by
  have:ND.List.listFitsIndex k=true:=fitsIndex_both (by lia) (by lia)
  rw [this];decide
 refine O5 F.slot_list_insert ⟨_,e,rfl⟩ F.entry_list_insert (F.args_list_insert_3 _ _ _) (Ps l its.toArray n k t u hf (by rw [LB];lia)) ⟨e,?_⟩
 refine⟨.non,_,I.lset (its':=its.take k.toNat++u::its.drop k.toNat) hH e ?_ ?_ ?_,rfl,q _ .mk'⟩
 ·show(its.toArray.extract 0 (if k<0 then (k+(its.toArray.size:Int)).toNat else min k.toNat its.toArray.size)).push u++its.toArray.extract (if k<0 then (k+(its.toArray.size:Int)).toNat else min k.toNat its.toArray.size)=_
  rw [RC (by lia),LB,Nat.min_eq_left (by lia)]
  apply Array.toList_inj.mp
  simp
  exact LH (by rw [MO];exact Nat.le_refl _)
 ·exact(r.take _).append (.cons r2 (r.drop _))
 ·unfold zp
  rw [Lq,Ma,Lw,MO]
  lia
def xw(td ty:TE):TE:=λσ H Q=>td σ H λx H1=>∃a,x= .ref a/\(∃kvs,H1 a=some (.dK kvs))/\ty σ H1 λy H2=>∃kvs k v,H2 a=some (.dK kvs)/\dz y=some k/\aZ kvs k=some v/\∀H',Mu H2 a (.dK (ig kvs k)) H'->Q v H'
theorem zr(ho:PE X o td)(he:PE X e ty)(m:M1 X o "pop" apos e cpos):PE X (.Call (.Attribute o "pop" apos) [e] [] cpos) (xw td ty):=by
 intro RE s σ H Q I h
 exact y9 ho.up he.up m RE s σ H Q I ⟨_,h,λx H1 w=>by obtain⟨a,e,⟨kvs,hk⟩,q⟩:=w;exact⟨a,e,.inl ⟨kvs,Rd.of hk⟩,_,q,λy H2 z=>by obtain⟨kvs,k,v,h2,ek,ev,q⟩:=z;exact⟨kvs,k,v,h2,jw ek,ev,q _ .mk'⟩⟩⟩
section
variable{prog:Np}{w:Nu}{A:Nw}{s:Nn}
theorem Cj(I:Nat->Nn->Prop)
 (turn:∀n s,I n s->Nr (model prog w) A (P0 it) (λr s₁=>match r with
  | none=>R (.ok .next) s₁
  | some v=>Nr (model prog w) A (Pu target it v) (λ_ s₀=>Nr (model prog w) A (assign target env v) (λ_ s₂=>
   Nr (model prog w) A (forIn ifs true λc r=>if r=true then do let ok <-Rg c env (eval c env);pure (ForInStep.yield ok) else pure (ForInStep.yield r)) (λok s₃=>if ok=true then Nr (model prog w) A (eval elt env) (λx s₄=>
    Nr (model prog w) A (call (.builtin "list.append") [acc,x]) (λ_ s₅=>∃m,m<n/\I m s₅) (Qz (model prog w) A env λe s'=>R (.error e) s') s₄) (Qz (model prog w) A env λe s'=>R (.error e) s') s₃
    else ∃m,m<n/\I m s₃) (Qz (model prog w) A env λe s'=>R (.error e) s') s₂)
   (Qz (model prog w) A env λe s'=>R (.error e) s') s₀) (Qz (model prog w) A env λe s'=>R (.error e) s') s₁) (Qz (model prog w) A env λe s'=>R (.error e) s') s)
 (n:Nat) (h:I n s):OJ (model prog w) A (.compLoop (.ListComp elt [⟨target,iter,ifs,0⟩] scope pos) 0 it acc env) R s:=by
 refine codeAny_loop rfl I (λn s hI=>?_) n h
 refine(show Nr _ A ((compTurn (.ListComp elt [⟨target,iter,ifs,0⟩] scope pos) 0 it acc env).onRaise _) _ _ s from wpAny_noted ?_)
 rw [compTurn_list]
 refine Nj (Pb (Nj (NC (turn n s hI) (λr s1 q1=>?_) λ_ _ z=>z)))
 cases r with
 | none=>exact Nl q1
 | some v=>
  refine Nj (NC q1 (λ_ s2 q2=>Nj (NC q2 (λ_ s3 q3=>Nj (NC q3 (λb s4 q4=>?_) λ_ _ z=>z)) λ_ _ z=>z)) λ_ _ z=>z)
  cases b with
  | false=>exact Nl ⟨rfl,q4⟩
  | true=>exact Nj (Nj (NC q4 (λx s5 q5=>Nj (NC q5 (λ_ s6 q6=>Nl (Nl ⟨rfl,q6⟩)) λ_ _ z=>z)) λ_ _ z=>z))
end
structure dL(X:Cx)(scope:OS)(cl:List (Str×Addr))(N:List Str)(cap:List Nat)(k:Nat):Prop where
 kind:scope.kind= .function
 clos:X.Ok->QS scope X.env=pure cl
 ncell:∀y∈scope.names,y.2≠.cell
 names:∀y∈scope.names,y.2= .local->scope.names.lookup y.1=some .local
 nd:N.Nodup
 has:∀y,((relabel scope X.env).names.lookup y=some .cell\/(relabel scope X.env).names.lookup y=some .free)->∃c,cl.lookup y=some c
 sub:X.Ok->∀y c,cl.lookup y=some c->X.env.cells.lookup y=some c
 len:N.length=cap.length+k
 cap:∀(j i:Nat) (y:Str),N[j+k]? =some y->cap[j]? =some i->X.N[i]? =some y/\Vis X.env.scope y/\X.env.kindOf y≠some .local/\((relabel scope X.env).names.lookup y=some .cell\/(relabel scope X.env).names.lookup y=some .free)
def gM(k:Nat)(σ:St)(cap:List Nat):St:=List.replicate k none++qy σ cap
def j6(k:Nat)(cap:List Nat)(wi:TI)(g:TG)(tc:TT)(te:TE):TE:=λσ H Q=>wi σ H λJ H1=>∀D,H1 D=none->∃W:Nat->Nat->St->Hp->Prop,(∃m,W 0 m (gM k σ cap) (upd H1 D (.lst [])))/\∀i m σ1 H,W i m σ1 H->
 (J.stop i H/\Q (.ref D) H)\/(J.go i H/\∀x H',J.yld i H x H'->g x σ1 H' λσ2 H1=>tc σ2 H1 λb H2=>if b=true then te σ2 H2 λv H3=>∃ys,H3 D=some (.lst ys)/\ys.length<Nm/\∃m',m'<m/\W (i+1) m' σ2 (upd H3 D (.lst (ys++[v])))
  else ∃m',m'<m/\W (i+1) m' σ2 H2)
section
variable{X:Cx}{RE:List (Addr×Obj)}{σ:St}{H:Hp}{s:Nn}{scope:OS}{cl:List (Str×Addr)}{N:List Str}{cap:List Nat}{k:Nat}
theorem Inv.enterN(S:dL X scope cl N cap k)(I:Inv X RE σ H s)(f:∀b∈fp,ft X RE H b/\b<s.heap.objs.size)(hn:h'.Ns s.heap.objs.size λ_=>none)
 (kp:∀b o,s.heap.get? b=some o->h'.get? b=some o):Inv (X.comp scope cl N s.heap.objs.size fp s H) [] (gM k σ cap) H {s with heap:=h',toks:=tk}:=by
 have ok:=I.ok
 have cellOut:=λy c e=>I.cell y c (S.sub I.ok y c e)
 refine⟨⟨ok.mod,?_,ok.glob,ok.blt,Nat.le_refl _,λx y c a b=>ok.inj x y c (S.sub I.ok x c a) (S.sub I.ok y c b),S.has,λ_ _ z=>absurd z Bool.false_ne_true,ok.hd,ok.frames,.inl rfl,λb hb=>⟨LK (f b hb).2,λy c e=>(f b hb).1.2.2.2.2.1 y c (S.sub I.ok y c e)⟩,I.bs,Nat.le_trans ok.bsz I.sz,λb o e hb=>?_,λb hb z=>?_,I.stack,I.stkFree⟩,
  rfl,I.bare,Un.kept kp,⟨_,hn,λi y v a b c=>?_⟩,λy c e=>?_,I.hok.fresh (Nat.le_refl _),λy c e=>I.freeC y c (S.sub I.ok y c e),λp hp=>by simp at hp,I.hok.kept kp,?_⟩
 ·exact S.kind
 ·have:=(f b hb).1.2.2.2.1
  rcases this with z | z
  ·exact ok.noex b o e z
  ·have l1:=LG e
   exact absurd (Ly l1 (Nat.le_trans ok.bsz z)) (L8 _)
 ·rcases List.mem_cons.mp (I.stkSub b z) with q | q
  ·exact(f b hb).1.2.1 q
  ·exact(f b hb).1.2.2.1 q
 ·unfold gM at b
  by_cases hik:i<k
  ·rw [LY (by rw [Md];exact hik)] at b
   simp [hik] at b
  ·obtain⟨j,rfl⟩:∃j,i=j+k:=⟨i-k,by lia⟩
   rw [List.getElem?_append_right (by rw [Md];lia),Md,Nat.add_sub_cancel] at b
   unfold qy at b
   rw [LF] at b
   cases e:cap[j]? with
   | none=>simp_all
   | some i=>
    rw [e] at b
    have b:(σ[i]?).join=some v:=by simpa using b
    obtain⟨p1,p2,p3,p4⟩:=S.cap j i y a e
    have b':σ[i]? =some (some v):=by
     cases q:σ[i]? with
     | none=>rw [q] at b;cases b
     | some w=>rw [q] at b;exact congrArg some b
    obtain⟨m,hm,hl⟩:=I.loc
    obtain⟨u,ru,l⟩:=hl i y v p1 b' p2
    refine⟨u,ru,.inr ⟨p4,?_⟩⟩
    rcases l with l | ⟨l,c0,e0,o',q',hd'⟩
    ·simp_all
    ·obtain⟨c,ec⟩:=S.has y p4
     have:=S.sub I.ok y c ec
     rw [e0] at this
     cases this
     exact⟨c0,ec,o',kp _ _ q',hd'⟩
 ·obtain⟨v,o,q,hd⟩:=cellOut y c e
  exact⟨v,o,kp _ _ q,hd⟩
 ·show(gM k σ cap).length=N.length
  unfold gM qy
  rw [S.len,Lq,Md,Ln]
  lia
end
section
variable{X:Cx}{scope:OS}{cl:List (Str×Addr)}{N:List Str}{cap:List Nat}{k:Nat}{tg:Expr}{g:TG}{pos:Pos}{iter elt:Expr}{ifs:List Expr}{wi:TI}{tc:TT}{te:TE}
theorem mR{σ:St}(S:dL X scope cl N cap k)(hc:X.calm=true)(hi:PI X tg iter wi)(hg:∀C fp s₀ H₀,PG (X.comp scope cl N C fp s₀ H₀) tg g)
 (ht:∀C fp s₀ H₀,PTs (X.comp scope cl N C fp s₀ H₀) ifs tc) (he:∀C fp s₀ H₀,PE (X.comp scope cl N C fp s₀ H₀) elt te) (hs:∀x,N3 iter X.env x=pure x)
 (I:Inv X RE σ H s) (h:j6 k cap wi g tc te σ H Q)
 (fin:∀(D C:Addr) (H6:Hp) (s6:Nn) (m:Str->Option Nk),Inv X RE σ H6 s6->ft X RE H6 C->s6.heap.Ns C m->Q (.ref D) H6->compPost (model X.prog X.w) X.A X.xe use Qv (.ref D) C (.ok .next) s6):
 Nr (model X.prog X.w) X.A (comprehension (.ListComp elt [⟨tg,iter,ifs,0⟩] scope pos) scope X.env pos' (newList []) false (eval iter X.env) use) Qv X.xe s:=by
 refine wpAny_comprehension_free rfl hs (S.clos I.ok) S.kind S.names (thn (hi RE s σ H _ I h) λv s1 h1=>thn h1 λitv s2 h2=>?_)
 obtain⟨it,fp,tn,J,H2,rfl,I2,T,st2,f2,q⟩:=h2
 obtain⟨W,⟨m0,w0⟩,turn⟩:=q s2.heap.objs.size (I2.hok.fresh (Nat.le_refl _))
 have I3:Inv X RE σ (upd H2 s2.heap.objs.size (.lst [])) {s2 with heap:=s2.heap.push {cls:=.type "list",dict:=none,data:=.seq ([]:List Nk).toArray}}:=
  I2.laid (λb u e=>Lk _ e) (Nat.le_refl _) ⟨Mf _,[],0,.nil,Lp _ rfl⟩
 refine NS (wpAny_newFunctionEnv S.ncell (by intro y hy;simp at hy) (λh4 hns hsb=>?_) S.kind)
 generalize hs3:({s2 with heap:=s2.heap.push {cls:=.type "list",dict:=none,data:=.seq ([]:List Nk).toArray}}:Nn)=s3 at I3 hns hsb⊢
 have f3:∀b∈fp,ft X RE (upd H2 s2.heap.objs.size (.lst [])) b/\b<s3.heap.objs.size:=λb hb=>by
  obtain⟨o,ho,_⟩:=T.obj _ _ st2 b hb
  have l1:=LG ho
  refine⟨⟨?_,(f2 b hb).2⟩,?_⟩
  ·rw [aN (LK l1)];exact(f2 b hb).1
  ·rw [<-hs3,LS];exact Mn l1
 have nsN:h4.Ns s3.heap.objs.size λ_=>none:=by
  have:=hns
  simpa using this
 have keep4:∀b o,s3.heap.get? b=some o->h4.get? b=some o:=λb o e=>(hsb.2 b (LK (LG e))).trans (Lk _ e)
 have Ic:=I3.enterN (tk:=s3.toks+([]:List (Str×Nk)).length) S f3 nsN keep4
 have st4:=T.keep _ _ _ st2 λb hb o e=>keep4 b o (by rw [<-hs3];exact Lk _ e)
 have stat:∀{H':Hp},(∀b∈fp,H' b=none)->∀b∈fp,ft (X.comp scope cl N s3.heap.objs.size fp s3 (upd H2 s2.heap.objs.size (.lst []))) [] H' b:=λhn b hb=>
  ⟨hn b hb,LK (f3 b hb).2,λz=>(List.mem_cons.mp (I3.stkSub b z)).elim (λq=>(f3 b hb).1.2.1 q) λq=>(f3 b hb).1.2.2.1 q,.inl hb,λy c e=>(f3 b hb).1.2.2.2.2.1 y c (S.sub I.ok y c e),λp hp=>by simp at hp⟩
 have out:∀{σx:St} {H6:Hp} {s6:Nn},Inv (X.comp scope cl N s3.heap.objs.size fp s3 (upd H2 s2.heap.objs.size (.lst []))) [] σx H6 s6->Q (.ref s2.heap.objs.size) H6->
  compPost (model X.prog X.w) X.A X.xe use Qv (Nk.ref s2.heap.objs.size) s3.heap.objs.size (.ok .next) s6:=λ{σx H6 s6} I6 q6=>by
  obtain⟨m,hm,_⟩:=I6.loc
  have Io:=I3.call' I6.os I6.base I6.hok I6.bare λb hb=>⟨(f3 b hb).1.2.2.2.1,(f3 b hb).1.2.1,(f3 b hb).1.2.2.2.2.1,(f3 b hb).1.2.2.2.2.2⟩
  exact fin _ _ _ _ m Io (I3.fpOk (Nat.le_refl _) I6.free) hm q6
 have loop:OJ (model X.prog X.w) X.A (.compLoop (.ListComp elt [⟨tg,iter,ifs,0⟩] scope pos) 0 (.ref it) (.ref s2.heap.objs.size) (compEnvC scope cl s3.heap.objs.size X.env))
  (compPost (model X.prog X.w) X.A X.xe use Qv (Nk.ref s2.heap.objs.size) s3.heap.objs.size) {s3 with heap:=h4,toks:=s3.toks+([]:List (Str×Nk)).length}:=by
  refine Cj (λn s'=>∃i σx H',Inv (X.comp scope cl N s3.heap.objs.size fp s3 (upd H2 s2.heap.objs.size (.lst []))) [] σx H' s'/\tn i s'.heap/\(∀b∈fp,H' b=none)/\W i n σx H') ?_ m0 ⟨0,_,_,Ic,st4,λb hb=>(f3 b hb).1.1,w0⟩
  rintro n s5 ⟨i,σx,H5,I5,st5,fr5,w5⟩
  rcases turn i n σx H5 w5 with ⟨stop,qd⟩ | ⟨go,step⟩
  ·refine NC (T.done (X.comp scope cl N s3.heap.objs.size fp s3 (upd H2 s2.heap.objs.size (.lst []))) rfl rfl rfl hc i [] s5 _ H5 (λ_ _=>False) I5 (stat fr5) st5 stop) (λr s6 z4=>?_) λ_ _ z=>z.elim
   obtain⟨hr,I6⟩:=z4
   subst hr
   exact out I6 qd
  ·refine NC (T.item (X.comp scope cl N s3.heap.objs.size fp s3 (upd H2 s2.heap.objs.size (.lst []))) rfl rfl rfl hc i [] s5 _ H5 (λ_ _=>False) I5 (stat fr5) st5 go) (λr s6 z3=>?_) λ_ _ z=>z.elim
   obtain⟨u,hr,h6⟩:=z3
   subst hr
   refine NC h6 (λ_ s7 z2=>?_) λ_ _ z=>z.elim
   obtain⟨v,H7,I7,r7,y7,st7,fr7⟩:=z2
   have I7':=I7.pinned (stat fr7) (T.obj _ _ st7)
   have again:∀{σ9:St} {H9:Hp} {s9:Nn},Inv (X.comp scope cl N s3.heap.objs.size fp s3 (upd H2 s2.heap.objs.size (.lst []))) ([]++jX fp s7.heap) σ9 H9 s9->(∃m',m'<n/\W (i+1) m' σ9 H9)->
    ∃m',m'<n/\∃i σx H',Inv (X.comp scope cl N s3.heap.objs.size fp s3 (upd H2 s2.heap.objs.size (.lst []))) [] σx H' s9/\tn i s9.heap/\(∀b∈fp,H' b=none)/\W i m' σx H':=λ{σ9 H9 s9} I9 ⟨m',lt,w'⟩=>by
    refine⟨m',lt,i+1,σ9,H9,I9.unpinned,T.keep _ _ _ st7 λb hb o e=>(I9.pin (b,o) (Lu _ (Lu _ (gp hb e)))).1,λb hb=>?_,w'⟩
    obtain⟨o,e,d⟩:=T.obj _ _ st7 b hb
    exact(I9.pin (b,o) (Lu _ (Lu _ (gp hb e)))).2.1
   refine NC (hg _ _ _ _ _ s7 σx H7 v u _ I7' r7 (step v H7 y7)) (λ_ s8 z1=>?_) λ_ _ z=>z.elim
   obtain⟨σ8,H8,I8,q8⟩:=z1
   refine NC (ht _ _ _ _ _ s8 _ H8 _ I8 q8) (λb s9 ww=>?_) λ_ _ z=>z.elim
   obtain⟨H9,I9,q9⟩:=ww
   cases b with
   | false=>exact again I9 q9
   | true=>
    refine NC (he _ _ _ _ _ s9 _ H9 _ I9 q9) (λu' s10 yy=>?_) λ_ _ z=>z.elim
    obtain⟨v',H10,I10,r10,ys,hD,hz,q10⟩:=yy
    refine NC (o7 (X:=X.comp scope cl N s3.heap.objs.size fp s3 (upd H2 s2.heap.objs.size (.lst []))) _ s10 _ H10 (.ref s2.heap.objs.size) [v'] (.ref s2.heap.objs.size) [u'] (λ_ H'=>∃m',m'<n/\W (i+1) m' σ8 H') I10 rfl (.cons r10 .nil) ⟨_,ys,v',rfl,rfl,hD,hz,q10⟩) (λ_ s11 zz=>by obtain⟨_,H11,I11,_,q11⟩:=zz;exact again I11 q11) λ_ _ z=>z.elim
 exact codeAny_compStart_list loop (T.self _ 0 _ _ _ st4 loop)
theorem zt(S:dL X scope cl N cap k)(hc:X.calm=true)(hi:PI X tg iter wi)(hg:∀C fp s₀ H₀,PG (X.comp scope cl N C fp s₀ H₀) tg g)
 (ht:∀C fp s₀ H₀,PTs (X.comp scope cl N C fp s₀ H₀) ifs tc) (he:∀C fp s₀ H₀,PE (X.comp scope cl N C fp s₀ H₀) elt te) (hs:∀x,N3 iter X.env x=pure x:=by intro _;rfl):
 PE X (.ListComp elt [⟨tg,iter,ifs,0⟩] scope pos) (j6 k cap wi g tc te):=by
 intro RE s σ H Q I h
 refine mR S hc hi hg ht he hs I h λD C H6 s6 m Io Cf hm q6=>?_
 exact⟨m,hm,λh' sb=>⟨.ref D,H6,Io.turned (λb o n e=>(sb.2 b n).trans e) Cf.1 Cf.2.1 Cf.2.2.2.1 Cf.2.2.2.2.1 Cf.2.2.2.2.2,rfl,q6⟩⟩
theorem l7{py spos:Pos}(hN:X.N.Nodup)(hiy:X.N[i]? =some y)(hy:Loc X.env.scope y)(S:dL X scope cl N cap k)(hc:X.calm=true)(hi:PI X tg iter wi)(hg:∀C fp s₀ H₀,PG (X.comp scope cl N C fp s₀ H₀) tg g)
 (ht:∀C fp s₀ H₀,PTs (X.comp scope cl N C fp s₀ H₀) ifs tc) (he:∀C fp s₀ H₀,PE (X.comp scope cl N C fp s₀ H₀) elt te) (hs:∀x,N3 iter X.env x=pure x:=by intro _;rfl)
 (hsw:O3 (.ListComp elt [⟨tg,iter,ifs,0⟩] scope pos) (some (.Name y py)) spos.line X.env=pure true:=by rfl)
 (hf:X.fn y=true\/X.env.scope.names.lookup y=some .local:=by first | exact .inl rfl | exact .inr rfl | assumption):
 PS X (.Assign [.Name y py] (.ListComp elt [⟨tg,iter,ifs,0⟩] scope pos) spos) (lU (j6 k cap wi g tc te) (ie i)):=by
 intro RE s σ H D I h
 rw [exec_Assign_Name_used _ _ _ _ hsw]
 refine Nj (Pb (Nj ?_))
 refine Nj (NC (mR (use:=some (assign (.Name y py) X.env)) S hc hi hg ht he hs I h λD' C H6 s6 m Io Cf hm q6=>?_) (λ_ s' hq=>Nl (Nl hq)) λ_ _ e=>e)
 refine wpAny_assign_Name (oU (v:=.ref D') Io hN hiy hy rfl (λs7 I7 hsb=>?_) hf)
 obtain⟨a,sb,ha⟩:=hsb
 have hne:C≠a:=λe=>ha.elim (λq=>Cf.2.1 (e.trans q)) λq=>Cf.2.2.2.2.1 _ _ q e.symm
 refine⟨m,hm.at' λo e=>(sb.2 C hne).trans e,λh' sb'=>?_⟩
 exact⟨_,H6,I7.turned (λb o n e=>(sb'.2 b n).trans e) Cf.1 Cf.2.1 Cf.2.2.2.1 Cf.2.2.2.2.1 Cf.2.2.2.2.2,q6⟩
end
theorem fI(k:Nat)(hk:scope.kind= .function)(h1:scope.names.all (λy=>y.2 != .cell)=true)(h2:scope.names.all (λy=>y.2 != .local || scope.names.lookup y.1==some .local)=true)
 (h3:scope.names.all (λy=>y.2 != .free || X.env.scope.names.lookup y.1==some .cell || X.env.scope.names.lookup y.1==some .free)=true)
 (nd:N.Nodup) (hl:N.length=cap.length+k) (hc:(N.drop k).map some=cap.map (λi=>X.N[i]?)) (hf:(N.drop k).all (λy=>scope.names.lookup y==some .free)=true):dL X scope (oh X.env scope) N cap k:=by
 have fr:∀y:Str,(y,NZ.free)∈scope.names->X.env.scope.names.lookup y=some .cell\/X.env.scope.names.lookup y=some .free:=λy hy=>by
  have:=List.all_eq_true.mp h3 _ hy
  simpa using this
 have nc:=λy hy=>by
  have:=List.all_eq_true.mp h1 y hy
  simpa using this
 have fr2:X.Ok->∀y∈scope.names,y.2= .free->∃c,X.env.cells.lookup y.1=some c:=λok y hy e=>by
  obtain⟨n,k⟩:=y
  subst e
  exact ok.has n (fr n hy)
 refine⟨hk,λok=>vB (fr2 ok),nc,λy hy e=>?_,nd,λy hy=>?_,λok y c e=>xt scope.names [] (fr2 ok) (λ_ _ z=>by simp at z) y c e,hl,λj i y a b=>?_⟩
 ·have:=List.all_eq_true.mp h2 y hy
  simpa [e] using this
 ·have hm:(y,NZ.free)∈scope.names:=by
   have:∃k',(k'=NZ.cell\/k'=NZ.free)/\(y,k')∈(relabel scope X.env).names:=by
    rcases hy with hy | hy
    ·exact⟨_,.inl rfl,dJ hy⟩
    ·exact⟨_,.inr rfl,dJ hy⟩
   obtain⟨k',hk',hm⟩:=this
   obtain⟨⟨n,k⟩,hz,e⟩:=List.mem_map.mp hm
   dsimp only at e
   split at e
   ·simp_all
   ·obtain⟨rfl,rfl⟩:=Prod.mk.inj e
    rcases hk' with rfl | rfl
    ·exact absurd rfl (nc _ hz)
    ·exact hz
  have:=xu (env:=X.env) scope.names [] y (.inl hm)
  exact Option.isSome_iff_exists.mp this
 ·have hy:y∈N.drop k:=by
   refine LC (i:=j) ?_
   rw [Mo,Nat.add_comm]
   exact a
  have e1:X.N[i]? =some y:=by
   have:=congrArg (λl=>l[j]?) hc
   simp only [LF,Mo,Nat.add_comm k j,a,b] at this
   exact(Option.some.inj this).symm
  have e2:scope.names.lookup y=some .free:=by
   have:=List.all_eq_true.mp hf y hy
   simpa using this
  have e3:=fr y (dJ e2)
  refine⟨e1,e3.elim (λz=>.inr (.inl z)) λz=>.inr (.inr z),?_,fq e2⟩
  intro z
  have z:X.env.scope.names.lookup y=some .local:=z
  rcases e3 with e3 | e3<;>rw [e3] at z<;>cases z
def gw(J:It)(g:TG)(tc:TT)(te:TE)(cs:St)(H1:Hp)(Q:VK):Prop:=∀D,H1 D=none->∃W:Nat->Nat->St->Hp->Prop,(∃m,W 0 m cs (upd H1 D (.lst [])))/\∀i m σ1 H,W i m σ1 H->
 (J.stop i H/\Q (.ref D) H)\/(J.go i H/\∀x H',J.yld i H x H'->g x σ1 H' λσ2 H1=>tc σ2 H1 λb H2=>if b=true then te σ2 H2 λv H3=>∃ys,H3 D=some (.lst ys)/\ys.length<Nm/\∃m',m'<m/\W (i+1) m' σ2 (upd H3 D (.lst (ys++[v])))
  else ∃m',m'<m/\W (i+1) m' σ2 H2)
theorem br(h:wi σ H λJ H1=>gw J g tc te (gM k σ cap) H1 Q):j6 k cap wi g tc te σ H Q:=h
def CW(xs:List V)(H1:Hp)(D:Addr)(Pv:Nat->List V->St->Hp->Prop)(i m:Nat)(σ1:St)(H:Hp):Prop:=m=xs.length-i/\i<=xs.length/\Same H1 H/\∃ys,H D=some (.lst ys)/\ys.length<=i/\Pv i ys σ1 H
def Put(xs:List V)(H1:Hp)(D:Addr)(Pv:Nat->List V->St->Hp->Prop)(i:Nat)(σ2:St)(v:V)(H3:Hp):Prop:=∃ys,H3 D=some (.lst ys)/\ys.length<Nm/\∃m',m'<xs.length-i/\CW xs H1 D Pv (i+1) m' σ2 (upd H3 D (.lst (ys++[v])))
def l8(xs:List V)(H1:Hp)(D:Addr)(Pv:Nat->List V->St->Hp->Prop)(i:Nat)(σ2:St)(H2:Hp):Prop:=∃m',m'<xs.length-i/\CW xs H1 D Pv (i+1) m' σ2 H2
structure At(xs:List V)(H1:Hp)(D:Addr)(i:Nat)(ys:List V)(H:Hp):Prop where
 new:H1 D=none
 lt:i<xs.length
 sz:xs.length<Nm
 same:Same H1 H
 lst:H D=some (.lst ys)
 le:ys.length<=i
theorem At.put(a:At xs H1 D i ys H)(g:Same H H4)(p:∀H5,Mu H4 D (.lst (ys++[v])) H5->Pv (i+1) (ys++[v]) σ2 H5):Put xs H1 D Pv i σ2 v H4:=
 ⟨ys,g _ _ a.lst,by have:=a.le;have:=a.lt;have:=a.sz;lia,xs.length-(i+1),by have:=a.lt;lia,rfl,a.lt,Mu.mk'.same (a.same.trans g) a.new,_,aB,by have:=a.le;rw [Lq,LN];lia,p _ Mu.mk'⟩
theorem At.skip(a:At xs H1 D i ys H)(g:Same H H4)(p:Pv (i+1) ys σ2 H4):l8 xs H1 D Pv i σ2 H4:=
 ⟨xs.length-(i+1),by have:=a.lt;lia,rfl,a.lt,a.same.trans g,ys,g _ _ a.lst,Nat.le_succ_of_le a.le,p⟩
theorem Hh(O:qS J xs ok)(hok:∀H,Same H1 H->ok H)(sz:xs.length<Nm)(Pv:Nat->List V->St->Hp->Prop)
 (h0:∀H',Same H1 H'->Pv 0 [] cs H')
 (hs:∀D i x ys σ1 H',xs[i]? =some x->At xs H1 D i ys H'->Pv i ys σ1 H'->g x σ1 H' λσ2 H2=>tc σ2 H2 λb H3=>if b=true then te σ2 H3 λv H4=>Put xs H1 D Pv i σ2 v H4 else l8 xs H1 D Pv i σ2 H3)
 (hd:∀D ys σ1 H',H1 D=none->Same H1 H'->H' D=some (.lst ys)->ys.length<=xs.length->Pv xs.length ys σ1 H'->Q (.ref D) H'):gw J g tc te cs H1 Q:=by
 intro D hD
 refine⟨CW xs H1 D Pv,⟨_,rfl,Mf _,bh hD _,[],aB,Nat.le_refl _,h0 _ (bh hD _)⟩,?_⟩
 rintro i m σ1 H ⟨rfl,hi,sm,ys,hy,ly,p⟩
 by_cases hlt:i<xs.length
 ·refine .inr ⟨O.go i _ (hok _ sm) hlt,λx H' y=>?_⟩
  obtain⟨rfl,hx⟩:=O.yld i _ x H' (hok _ sm) hlt y
  exact hs D i x ys σ1 H' hx ⟨hD,hlt,sz,sm,hy,ly⟩ p
 ·have e:i=xs.length:=by lia
  subst e
  exact .inl ⟨O.stop _ _ (hok _ sm) (Nat.le_refl _),hd D ys σ1 _ hD sm hy ly p⟩
theorem eX{K:MF}(ha:H1 a=some (.lst xs))(sz:xs.length<Nm)(Pv:Nat->List V->St->Hp->Prop)
 (h0:∀H',Same H1 H'->Pv 0 [] cs H')
 (hs:∀D i x ys σ1 H',xs[i]? =some x->At xs H1 D i ys H'->Pv i ys σ1 H'->g x σ1 H' λσ2 H2=>tc σ2 H2 λb H3=>if b=true then te σ2 H3 λv H4=>Put xs H1 D Pv i σ2 v H4 else l8 xs H1 D Pv i σ2 H3)
 (hd:∀D ys σ1 H',H1 D=none->Same H1 H'->H' D=some (.lst ys)->ys.length<=xs.length->Pv xs.length ys σ1 H'->Q (.ref D) H'):gw (Itl K a) g tc te cs H1 Q:=
 Hh pA (λH g=>g _ _ ha) sz Pv h0 hs hd
def nw(H H':Hp):Hp:=λa=>match H a with | none=>H' a | some _=>none
def cB(D:Addr)(H:Hp):Hp:=λc=>if c=D then none else H c
theorem bL{D c:Addr}{H:Hp}{u:HO}(n:c≠D)(h:H c=some u):cB D H c=some u:=by unfold cB;rw [RC n];exact h
theorem eA{D c:Addr}{H:Hp}{u:HO}(h:cB D H c=some u):c≠D/\H c=some u:=by
 unfold cB at h
 by_cases e:c=D
 ·rw [RD e] at h;cases h
 ·rw [RC e] at h;exact⟨e,h⟩
theorem hide_le{D:Addr}{H:Hp}:Same (cB D H) H:=λc u h=>(eA h).2
theorem bW{D:Addr}{H H':Hp}(g:Same H H'):Same (cB D H) (cB D H'):=λc u h=>bL (eA h).1 (g _ _ (eA h).2)
theorem gD{D:Addr}{H H':Hp}{o:HO}(mu:Mu H D o H'):Same (cB D H) (cB D H'):=λc u h=>bL (eA h).1 (mu.old (eA h).2 (eA h).1)
theorem mS{J:It}{xs:List V}{ok:Hp->Prop}(O:qS J xs ok){g:TG}{tc:TT}{te:TE}{cs:St}{H1:Hp}{Q:VK}(hok:∀H,Same H1 H->ok H)(sz:xs.length<Nm)(Pv:Addr->Nat->List V->St->Hp->Prop)
 (h0:∀D H',H1 D=none->Same H1 H'->H' D=some (.lst [])->Pv D 0 [] cs H')
 (hs:∀D i x ys σ1 H',xs[i]? =some x->At xs H1 D i ys H'->Pv D i ys σ1 H'->g x σ1 H' λσ2 H2=>tc σ2 H2 λb H3=>if b=true then te σ2 H3 λv H4=>Put xs H1 D (Pv D) i σ2 v H4 else l8 xs H1 D (Pv D) i σ2 H3)
 (hd:∀D ys σ1 H',H1 D=none->Same H1 H'->H' D=some (.lst ys)->ys.length<=xs.length->Pv D xs.length ys σ1 H'->Q (.ref D) H'):gw J g tc te cs H1 Q:=by
 intro D hD
 refine⟨CW xs H1 D (Pv D),⟨_,rfl,Mf _,bh hD _,[],aB,Nat.le_refl _,h0 D _ hD (bh hD _) aB⟩,?_⟩
 rintro i m σ1 H ⟨rfl,hi,sm,ys,hy,ly,p⟩
 by_cases hlt:i<xs.length
 ·refine .inr ⟨O.go i _ (hok _ sm) hlt,λx H' y=>?_⟩
  obtain⟨rfl,hx⟩:=O.yld i _ x H' (hok _ sm) hlt y
  exact hs D i x ys σ1 H' hx ⟨hD,hlt,sz,sm,hy,ly⟩ p
 ·have e:i=xs.length:=by lia
  subst e
  exact .inl ⟨O.stop _ _ (hok _ sm) (Nat.le_refl _),hd D ys σ1 _ hD sm hy ly p⟩
theorem lE{K:MF}{a:Addr}{xs:List V}{g:TG}{tc:TT}{te:TE}{cs:St}{H1:Hp}{Q:VK}(ha:H1 a=some (.lst xs))(sz:xs.length<Nm)(Pv:Addr->Nat->List V->St->Hp->Prop)
 (h0:∀D H',H1 D=none->Same H1 H'->H' D=some (.lst [])->Pv D 0 [] cs H')
 (hs:∀D i x ys σ1 H',xs[i]? =some x->At xs H1 D i ys H'->Pv D i ys σ1 H'->g x σ1 H' λσ2 H2=>tc σ2 H2 λb H3=>if b=true then te σ2 H3 λv H4=>Put xs H1 D (Pv D) i σ2 v H4 else l8 xs H1 D (Pv D) i σ2 H3)
 (hd:∀D ys σ1 H',H1 D=none->Same H1 H'->H' D=some (.lst ys)->ys.length<=xs.length->Pv D xs.length ys σ1 H'->Q (.ref D) H'):gw (Itl K a) g tc te cs H1 Q:=
 mS pA (λH g=>g _ _ ha) sz Pv h0 hs hd
section
variable{X:Cx}
def uh:V->List V->Hp->VK->Prop:=λx vs H Q=>∃l xs i y,x= .ref l/\vs= [.int i]/\H l=some (.lst xs)/\0<=i/\i<xs.length/\xs.length<100000/\xs[i.toNat]? =some y/\∀H',Mu H l (.lst (xs.eraseIdx i.toNat)) H'->Q y H'
theorem pB:MtR X "list.pop" uh:=by
 intro RE s σ H x vs v us Q I rx rv h
 obtain⟨l,xs,i,y,e1,e2,hH,h0,h1,h2,hy,q⟩:=h
 exact yW RE s σ H x vs v us Q I rx rv ⟨l,xs,i,i.toNat,y,e1,e2,hH,by lia,by lia,Qs h0 h1,hy,q _ .mk'⟩
end
theorem zv{f:Str}:List.lookup f ([]:List (Str×V))=none:=rfl
theorem zw{g:Str}{v:V}:List.lookup f ((g,v)::r)=if f=g then some v else List.lookup f r:=by
 by_cases h:f=g
 ·have hb:=beq_iff_eq.mpr h
  simp only [List.lookup,hb,RD h]
 ·have hb:=beq_eq_false_iff_ne.mpr h
  simp only [List.lookup,hb,RC h]
theorem Fr{f:Str}{v:V}:bM f v []= [(f,v)]:=rfl
theorem Fs{f g:Str}{v x:V}{r:List (Str×V)}:bM f v ((g,x)::r)=if g=f then (g,v)::r else (g,x)::bM f v r:=rfl
structure MethAt(K:MF)(C:Addr)(m q:Str)(st:Stmt)(ps:List Str):Prop where
 ex:∃f fd,lW K C m f/\Fun K m q st f fd/\Binds K fd ps []
structure OkM(P:Np)(w:Nu)(K:MF)(mg:Str->Option Nk)(base:Heap)(n:Nat)(C:Addr)(m:Str)(ps:List Str)(sp:Sp):Prop where
 ex:∃f fd,lW K C m f/\Binds K fd ps []/\d9 P w K mg base CX0 n f fd ps sp
 cl:Cls K C
structure MakeAt(K:MF)(mg:Str->Option Nk)(x:Str)(C:Addr)(q:Str)(st:Stmt)(ps:List Str):Prop where
 ex:∃f fd,mg x=some (.ref C)/\Mk K C f/\Fun K "__init__" q st f fd/\Binds K fd ps []
structure OkC(P:Np)(w:Nu)(K:MF)(mg:Str->Option Nk)(base:Heap)(n:Nat)(x:Str)(C:Addr)(ps:List Str)(sp:Sp):Prop where
 ex:∃f fd,mg x=some (.ref C)/\Mk K C f/\Binds K fd ps []/\d9 P w K mg base CX0 n f fd ps sp
section
variable{P:Np}{w:Nu}{K:MF}{mg:Str->Option Nk}{base:Heap}{x m q:Str}{st:Stmt}{N ps:List Str}{k:Nat}{sp:Sp}{C:Addr}
theorem MethAt.ok(D:MethAt K C m q st ps)(cl:Cls K C)(S:am N ps (aj st))(len:∀vs H Q E,sp vs H Q E->vs.length=ps.length)
 (hbody:∀(f:Addr) (cdv:Nk) (A:Nw) (outer:List Env) (s:Nn) (H:Hp) (vs:List V) (Q:VK) (E:XK),Room k (A.deeper (N0 q (aj st) s.heap.objs.size f cdv))->sp vs H Q E->
  ∃t,PSs (eU CX0 P w K mg base N q (aj st) f cdv A outer s H E).nox (bS st) t/\t {nx:=λ_ H'=>Q .non H',rt:=Q} (start N vs) H):OkM P w K mg base (k+1) C m ps sp:=by
 obtain⟨f,fd,hm,F,hb⟩:=D.ex
 exact⟨⟨f,fd,hm,hb,F.ok S len (hbody f)⟩,cl⟩
theorem MakeAt.ok(D:MakeAt K mg x C q st ps)(S:am N ps (aj st))(len:∀vs H Q E,sp vs H Q E->vs.length=ps.length)
 (hbody:∀(f:Addr) (cdv:Nk) (A:Nw) (outer:List Env) (s:Nn) (H:Hp) (vs:List V) (Q:VK) (E:XK),Room k (A.deeper (N0 q (aj st) s.heap.objs.size f cdv))->sp vs H Q E->
  ∃t,PSs (eU CX0 P w K mg base N q (aj st) f cdv A outer s H E).nox (bS st) t/\t {nx:=λ_ H'=>Q .non H',rt:=Q} (start N vs) H):OkC P w K mg base (k+1) x C ps sp:=by
 obtain⟨f,fd,hg,hm,F,hb⟩:=D.ex
 exact⟨f,fd,hg,hm,hb,F.ok S len (hbody f)⟩
end
def Bp(C:Addr)(f:Str)(ta:TE):TE:=λσ H Q=>ta σ H λx H1=>∃a dx fs v,x= .ref a/\H1 a=some (.ins C dx fs)/\fs.lookup f=some v/\Q v H1
def qz(C:Addr)(f:Str)(ta tv:TE):TS:=λD σ H=>tv σ H λy H1=>ta σ H1 λx H2=>∃a dx fs,x= .ref a/\H2 a=some (.ins C dx fs)/\fs.length<1000/\∀H',Mu H2 a (.ins C dx (bM f y fs)) H'->D.nx σ H'
def qW(C:Addr)(m:Str)(sp:Sp)(ta:TE)(t:TA):TE:=λσ H Q=>ta σ H λx H1=>∃a dx fs,x= .ref a/\H1 a=some (.ins C dx fs)/\fs.lookup m=none/\t σ H1 λvs H2=>sp (x::vs) H2 Q E0
def qX(C:Addr)(sp:Sp)(t:TA):TE:=λσ H Q=>t σ H λvs H1=>∀x dx H',H1 x=none->H1 dx=none->Same H1 H'->H' x=some (.ins C dx [])->H' dx=some (.own x)->sp (.ref x::vs) H' (λv H2=>v= .non/\Q (.ref x) H2) E0
section
variable{X:Cx}{k n:Nat}{ps:List Str}{sp:Sp}{x m f:Str}{p pos pos' apos:Pos}{o e value:Expr}{es:List Expr}{t:TA}{ta tv:TE}{C:Addr}
theorem ai(c:Cls X.K C)(nn:NoAttr X.K C f)(he:PE X e ta)(hb:NU e f X.env (eval e X.env)=eval e X.env:=by rfl):PE X (.Attribute e f pos) (Bp C f ta):=by
 intro RE s σ H Q I h
 refine BR hb (thn (he RE s σ H _ I h) λu s1 z=>?_)
 obtain⟨x,H1,I1,rx,a,dx,fs,v,ex,ea,l,q⟩:=z
 subst ex
 obtain rfl:u=Nk.ref a:=rx
 exact vk I1 ea c nn l λu' s2 I2 ru=>⟨v,H1,I2,ru,q⟩
theorem aI(c:Cls X.K C)(nn:NoAttr X.K C f)(ha:PE X o ta)(hv:PE X value tv)(hs:O3 value (some (.Attribute o f pos')) pos.line X.env=pure false:=by rfl):PS X (.Assign [.Attribute o f pos'] value pos) (qz C f ta tv):=by
 intro RE s σ H D I h
 refine plainObj_wpAny_Assign_Attribute (thn (hv RE s σ H _ I h) λu s1 ⟨y,H1,I1,ry,q⟩=>thn (ha RE s1 σ H1 _ I1 q) λov s2 z=>?_) hs
 obtain⟨x,H2,I2,rx,a,dx,fs,ex,ea,l,q2⟩:=z
 subst ex
 obtain rfl:ov=Nk.ref a:=rx
 exact vm I2 ea c nn l ry λs3 I3=>⟨σ,_,I3,q2 _ .mk'⟩
theorem aU{pl:Sem Bool}(G:OkM X.prog X.w X.K X.mg X.base k C m ps sp)(hr:Room n X.A)(he:PE X o ta)(ha:PA X (e::es) t)(hk:k<=n:=by lia)(hs:(e::es).all bm=true:=by rfl)
 (ht:eval (.Call (.Attribute o m apos) (e::es) [] pos) X.env=(do
  let ov <-eval o X.env
  Pa apos.atName
  let (f,first) <-holding [ov] (Ou ov m pl)
  PL pos f first (Oi pos (Nt (e::es) X.env)) (Ov pos (N4 [] X.env))):=by rfl):PE X (.Call (.Attribute o m apos) (e::es) [] pos) (qW C m sp ta t):=by
 obtain⟨⟨f,fd,hm,hb,F⟩,cl⟩:=G
 intro RE s σ H Q I h
 apply BU (dvs:=[]) he cl hm F (hr.mono hk) hb .nil fH ha (dw (Bool.and_eq_true_iff.mp hs).1) (cX (Bool.and_eq_true_iff.mp hs).2) ht RE s σ H Q I
 have e:∀y,(λvs H1=>sp (y::(vs++[])) H1 Q E0)=λvs H1=>sp (y::vs) H1 Q E0:=λy=>by funext vs H1;rw [LQ]
 show ta σ H λy H1=>∃a dx fs,y= .ref a/\H1 a=some (.ins C dx fs)/\fs.lookup m=none/\t σ H1 λvs H2=>sp (y::(vs++[])) H2 Q E0
 simp only [e]
 exact h
theorem bq{pl:Sem Bool}(G:OkM X.prog X.w X.K X.mg X.base k C m ps sp)(hr:Room n X.A)(he:PE X o ta)(hk:k<=n:=by lia)
 (ht:eval (.Call (.Attribute o m apos) [] [] pos) X.env=(do
  let ov <-eval o X.env
  Pa apos.atName
  let (f,first) <-holding [ov] (Ou ov m pl)
  PL pos f first (Oi pos (Nt [] X.env)) (Ov pos (N4 [] X.env))):=by rfl):PE X (.Call (.Attribute o m apos) [] [] pos) (qW C m sp ta jq):=by
 obtain⟨⟨f,fd,hm,hb,F⟩,cl⟩:=G
 exact yQ (dvs:=[]) he cl hm F (hr.mono hk) hb .nil fH ht
theorem qY{Q:VK}{vs:List V}(h:∀x dx H',H1 x=none->H1 dx=none->Same H1 H'->H' x=some (.ins C dx [])->H' dx=some (.own x)->sp (.ref x::vs) H' (λv H2=>v= .non/\Q (.ref x) H2) E0):
 ∀x dx,H1 x=none->H1 dx=none->dx≠x->sp (.ref x::(vs++[])) (upd (upd H1 dx (.own x)) x (.ins C dx [])) (λv H2=>v= .non/\Q (.ref x) H2) E0:=λx dx hx hdx ne=>by
 rw [LQ]
 exact h x dx _ hx hdx (λc u hc=>by rw [aN (aK hc hx),aN (aK hc hdx)];exact hc) aB (by rw [aN ne,aB])
theorem jA(G:OkC X.prog X.w X.K X.mg X.base k x C ps sp)(hr:Room n X.A)(hg:Gl X x)(ha:PA X (e::es) t)(hk:k+1<=n:=by lia)(hdb:(x==("__debug__":Str))=false:=by decide)(hs:(e::es).all bm=true:=by rfl):
 PE X (.Call (.Name x p) (e::es) [] pos) (qX C sp t):=by
 obtain⟨f,fd,hm,M,hb,F⟩:=G.ex
 intro RE s σ H Q I h
 refine Og (iN I hg hm ?_ hdb)
 refine ME I.ok.mod.kin M.kp (thn (ha pos RE s σ H _ I h) λus s1 ⟨vs,H1,I1,r,q⟩=>⟨I1.kIn,?_⟩) (dw (Bool.and_eq_true_iff.mp hs).1) (cX (Bool.and_eq_true_iff.mp hs).2)
 exact qJ (dvs:=[]) (ds:=[]) M F (hr.mono hk) hb .nil fH I1 r (qY q)
theorem pC(G:OkC X.prog X.w X.K X.mg X.base k x C ps sp)(hr:Room n X.A)(hg:Gl X x)(hk:k+1<=n:=by lia)(hdb:(x==("__debug__":Str))=false:=by decide):
 PE X (.Call (.Name x p) [] [] pos) (qX C sp jq):=by
 obtain⟨f,fd,hm,M,hb,F⟩:=G.ex
 intro RE s σ H Q I h
 refine Og (iN I hg hm ?_ hdb)
 exact MQ I.kIn M.kp (qJ (dvs:=[]) (ds:=[]) (us:=[]) M F (hr.mono hk) hb .nil fH I .nil (qY h))
end
theorem mT:∀{kvs:List (Key×V)} {vs:List (Key×Nk)},KV kvs vs->∀{i:Nat} {k:Key} {x:V},kvs[i]? =some (k,x)->∃u,vs[i]? =some (k,u)/\RelV x u
 | [],_,_,i,k,x,e=>by simp at e
 | p::kvs,[],r,i,k,x,e=>by cases r
 | p::kvs,(k',u)::vs,r,i,k,x,e=>by
  cases r with
  | cons h r=>
   cases i with
   | zero=>
    simp at e
    subst e
    have h1:k=k':=h.1
    exact⟨u,by simp [h1],h.2⟩
   | succ i=>simpa using mT r (i:=i) (by simpa using e)
def Itv(d:Addr)(o:Obj)(kvs:List (Key×V)):It:=
 ⟨λi H=>i<kvs.length/\H d=some (.frz o (.dK kvs)),λi H x H'=>H'=H/\∃k,kvs[i]? =some (k,x),λi H=>kvs.length<=i/\H d=some (.frz o (.dK kvs))⟩
def Iti(d:Addr)(o:Obj)(kvs:List (Key×V)):It:=
 ⟨λi H=>i<kvs.length/\H d=some (.frz o (.dK kvs)),λi H v H'=>∃p k x,v= .ref p/\H p=none/\Same H H'/\H' p=some (.tup [kV k,x])/\kvs[i]? =some (k,x),λi H=>kvs.length<=i/\H d=some (.frz o (.dK kvs))⟩
theorem xx{K:MF}(d it:Addr)(o:Obj)(kvs:List (Key×V))(vs:List (Key×Nk))(ep:Nat)(hne:d≠it)(rel:KV kvs vs)(D0:∀h:Heap,h.get? d=some o->h.DictAt (ay P w) d vs ep):
 lV P w K tg (Itv d o kvs) [it] it (λi h=>h.IsValIter it d i vs.length ep) where
 mem:=LL _
 obj:=λi h st b hb=>by
  obtain rfl:=List.mem_singleton.mp hb
  obtain⟨o,e,c,dd⟩:=st
  exact⟨o,e,λv z=>by rw [dd] at z;cases z⟩
 keep:=λi h h' st k=>st.at λo e=>k it (LL _) o e
 item:=by
  intro X hP hw hK hc i RE s σ H E I hf st hg
  subst hP hw hK
  obtain⟨hi,hd⟩:=hg
  obtain⟨f0,f1,f2,f3,f4,f5⟩:=hf it (LL _)
  obtain⟨ho,_⟩:=(I.hok d _ hd)
  obtain⟨u,hx,ru⟩:=mT rel (k:=kvs[i].1) (x:=kvs[i].2) (Lo hi)
  refine wpAny_pyNext_values_item st (D0 _ ho) hx λh' st' sb=>?_
  have I1:Inv X RE σ H {s with heap:=h'}:=I.turned (λb o hb e=>(sb.2 b hb).trans e) f0 f1 f3 f4 f5
  obtain⟨oi,e,c,dd⟩:=id st'
  exact⟨u,rfl,qw (s:={s with heap:=h'}) e c dd (by decide) ⟨kvs[i].2,H,I1,ru,⟨rfl,kvs[i].1,Lo hi⟩,st',λb hb=>(hf b hb).1⟩⟩
 done := by
   intro X hP hw hK hc i RE s σ H E I hf st hg
   subst hP hw hK
   obtain⟨hi,hd⟩:=hg
   obtain⟨f0,f1,f2,f3,f4,f5⟩:=hf it (LL _)
   obtain⟨ho,_⟩:=(I.hok d _ hd)
   have hl:=rel.length
   exact wpAny_pyNext_values_end (I.ok.hd hc) st (D0 _ ho) (Mi (by lia)) λh' eb=>⟨rfl,I.turned (λb o hb e=>eb b o hb e) f0 f1 f3 f4 f5⟩
 self:=λ_ _ _ _ _ st h=>wpAny_pyIter_valiter st h
theorem vC{K:MF}(d it:Addr)(o:Obj)(kvs:List (Key×V))(vs:List (Key×Nk))(ep:Nat)(hne:d≠it)(rel:KV kvs vs)(D0:∀h:Heap,h.get? d=some o->h.DictAt (ay P w) d vs ep):
 lV P w K (.Tuple elts kk tpos) (Iti d o kvs) [it] it (λi h=>∃ok ov,IsItemIter h it d i vs.length ep ok ov) where
 mem:=LL _
 obj:=λi h st b hb=>by
  obtain rfl:=List.mem_singleton.mp hb
  obtain⟨ok,ov,e⟩:=st
  exact⟨_,e,λv z=>by
   have z':=z
   cases z'⟩
 keep:=λi h h' y k=>by obtain⟨ok,ov,e⟩:=y;exact⟨ok,ov,k it (LL _) _ e⟩
 item:=by
  intro X hP hw hK hc i RE s σ H E I hf st hg
  obtain⟨hi,hd⟩:=hg
  obtain⟨ok,ov,he⟩:=st
  obtain⟨ho,_⟩:=(I.hok d _ hd)
  obtain⟨u,hx,ru⟩:=mT rel (k:=kvs[i].1) (x:=kvs[i].2) (Lo hi)
  refine wpAny_pyNext_items_item he (D0 _ ho) hx λkey h' hkey hout hT hsz hk=>?_
  refine⟨_,rfl,wpAny_letOwnedTupleGo_items hout λh'' he'' hs=>?_⟩
  have helt:=LG he
  have I1:Inv X RE σ (upd H s.heap.objs.size (.tup [kV kvs[i].1,kvs[i].2])) {s with heap:=s.heap.push {cls:=.type "tuple",data:=.seq #[key,u]},toks:=s.toks}:=
   I.laid (λb o q=>Lk _ q) (Nat.le_refl _) ⟨by show 2<=Nm;decide,[key,u],.cons (qU hkey) (.cons ru .nil),⟨_,Lp _ rfl,rfl,_,rfl⟩⟩
  have hf':∀b∈[it],ft X RE (upd H s.heap.objs.size (.tup [kV kvs[i].1,kvs[i].2])) b:=λb hb=>by
   obtain rfl:=List.mem_singleton.mp hb
   refine⟨?_,(hf b (LL _)).2⟩
   rw [aN (LK helt)]
   exact(hf b (LL _)).1
  have I2:Inv X RE σ (upd H s.heap.objs.size (.tup [kV kvs[i].1,kvs[i].2])) {s with heap:=h'',toks:=s.toks}:=I1.turnedL (λb o hb q=>by
   have n1:b≠it:=λz=>hb (by simp [z])
   apply (hs.2 b n1).trans
   by_cases hbT:b=s.heap.objs.size
   ·subst hbT
    have q':(s.heap.push {cls:=.type "tuple",data:=.seq #[key,u]}).get? s.heap.objs.size=some o:=q
    rw [Lp _ rfl] at q'
    cases q'
    exact hT
   ·have q':(s.heap.push {cls:=.type "tuple",data:=.seq #[key,u]}).get? b=some o:=q
    rw [L9 _ _ _ hbT] at q'
    exact hk b o n1 q') hf'
  exact⟨.ref s.heap.objs.size,_,I2,rfl,⟨_,kvs[i].1,kvs[i].2,rfl,I.hok.fresh (Nat.le_refl _),bh (I.hok.fresh (Nat.le_refl _)) _,aB,Lo hi⟩,⟨_,_,he''⟩,λb hb=>(hf' b hb).1⟩
 done := by
   intro X hP hw hK hc i RE s σ H E I hf st hg
   obtain⟨hi,hd⟩:=hg
   obtain⟨ok,ov,he⟩:=st
   obtain⟨f0,f1,f2,f3,f4,f5⟩:=hf it (LL _)
   obtain⟨ho,_⟩:=(I.hok d _ hd)
   have hl:=rel.length
   exact wpAny_pyNext_items_end (I.ok.hd hc) he (D0 _ ho) (Mi (by lia)) λh' eb=>⟨rfl,I.turned (λb o hb e=>eb b o hb e) f0 f1 f3 f4 f5⟩
 self:=λ_ _ _ _ _ st h=>by
  obtain⟨ok,ov,he⟩:=st
  exact PySem.W.kcp_self he h
def vD(nf:Addr->Prop)(tl:TE):TI:=λσ H R=>tl σ H λx H1=>∃d kvs,x= .ref d/\H1 d=some (.dK kvs)/\∀o,nf d->R (Itv d o kvs) (upd H1 d (.frz o (.dK kvs)))
def xy(nf:Addr->Prop)(tl:TE):TI:=λσ H R=>tl σ H λx H1=>∃d kvs,x= .ref d/\H1 d=some (.dK kvs)/\∀o,nf d->R (Iti d o kvs) (upd H1 d (.frz o (.dK kvs)))
theorem ui{tg:Expr}{apos cpos:Pos}(hl:PE X l tl)(hbase:NU l "values" X.env (eval l X.env)=eval l X.env:=by rfl)(hline:(apos.endLine==cpos.line)=true:=by rfl):
 PI X tg (.Call (.Attribute l "values" apos) [] [] cpos) (vD (qT X) tl):=by
 intro RE s σ H R I h
 refine Oc hbase hline (thn (hl RE s σ H _ I h) λv s1 y=>?_)
 obtain⟨x,H1,I1,r1,q1⟩:=y
 obtain⟨d,kvs,e,hd,q⟩:=q1
 subst e
 cases r1
 obtain⟨z1,z2,vs,rel,o,es,ep,ho,r⟩:=ii I1.hok hd
 have D0:∀h:Heap,h.get? d=some o->h.DictAt (ay X.prog X.w) d vs ep:=λh e=>⟨o,es,e,r⟩
 have nf:=I1.nofz hd
 have If:Inv X RE σ (upd H1 d (.frz o (.dK kvs))) s1:=I1.retag hd (λ_ z=>by cases z) nf (λ_ z=>by cases z) (λ_ z=>by cases z) ⟨ho,z1,z2,vs,rel,o,es,ep,ho,r⟩
 obtain⟨h1,h2⟩:=iY I1 (show RelV (.ref d) (.ref d) from rfl) (.inr (.inr (.inl ⟨rfl,.inl ⟨_,hd⟩⟩)))
 refine⟨"dict","dict.values",NQ,Ob,O9,h1,h2,Calls.callWith_builtin rfl (Os ?_)⟩
 refine Oj Ob h1 O1 (OU _) (meets_dict_values (ay X.prog X.w) d z2) ⟨⟨vs,(D0 _ ho).dictOf⟩,?_⟩
 have I2:=If.kept (t':=s1.toks) (h':=s1.heap.push {cls:=.type "dict_values",data:=.fields #[.ref d]}) λb o e=>Lk _ e
 have ho2:(s1.heap.push {cls:=.type "dict_values",data:=.fields #[.ref d]}).get? d=some o:=Lk _ ho
 refine wpAny_pyIter_values ⟨_,Lp _ rfl,rfl,rfl⟩ (D0 _ ho2) ?_
 refine⟨_,[_],_,_,_,rfl,I2.kept λb o e=>Lk _ e,xx d _ o kvs vs ep (LK (LG ho2)) rel D0,⟨_,Lp _ rfl,rfl,rfl⟩,λb hb=>?_,q o nf⟩
 obtain rfl:=List.mem_singleton.mp hb
 exact I2.fpOk (Nat.le_refl _) (I2.hok.fresh (Nat.le_refl _))
theorem zx{elts:List Expr}{kk:Nat}{tpos:Pos}{apos cpos:Pos}(hl:PE X l tl)(hbase:NU l "items" X.env (eval l X.env)=eval l X.env:=by rfl)(hline:(apos.endLine==cpos.line)=true:=by rfl):
 PI X (.Tuple elts kk tpos) (.Call (.Attribute l "items" apos) [] [] cpos) (xy (qT X) tl):=by
 intro RE s σ H R I h
 refine Oc hbase hline (thn (hl RE s σ H _ I h) λv s1 y=>?_)
 obtain⟨x,H1,I1,r1,q1⟩:=y
 obtain⟨d,kvs,e,hd,q⟩:=q1
 subst e
 cases r1
 obtain⟨z1,z2,vs,rel,o,es,ep,ho,r⟩:=ii I1.hok hd
 have D0:∀h:Heap,h.get? d=some o->h.DictAt (ay X.prog X.w) d vs ep:=λh e=>⟨o,es,e,r⟩
 have nf:=I1.nofz hd
 have If:Inv X RE σ (upd H1 d (.frz o (.dK kvs))) s1:=I1.retag hd (λ_ z=>by cases z) nf (λ_ z=>by cases z) (λ_ z=>by cases z) ⟨ho,z1,z2,vs,rel,o,es,ep,ho,r⟩
 obtain⟨h1,h2⟩:=iY I1 (show RelV (.ref d) (.ref d) from rfl) (.inr (.inr (.inl ⟨rfl,.inl ⟨_,hd⟩⟩)))
 refine⟨"dict","dict.items",NQ,Pk,PySem.F.type_dict_items,h1,h2,Calls.callWith_builtin rfl (Os ?_)⟩
 refine Oj Pk h1 PySem.F.entry_dict_items (PySem.F.args_dict_items_1 _) (meets_dict_items (ay X.prog X.w) d z2) ⟨⟨vs,(D0 _ ho).dictOf⟩,?_⟩
 have I2:=If.kept (t':=s1.toks) (h':=s1.heap.push {cls:=.type "dict_items",data:=.fields #[.ref d]}) λb o e=>Lk _ e
 have ho2:(s1.heap.push {cls:=.type "dict_items",data:=.fields #[.ref d]}).get? d=some o:=Lk _ ho
 refine wpAny_pyIter_items ⟨_,Lp _ rfl,rfl,rfl⟩ (D0 _ ho2) ?_
 refine⟨_,[_],_,_,_,rfl,I2.kept λb o e=>Lk _ e,vC d _ o kvs vs ep (LK (LG ho2)) rel D0,⟨_,_,Lp _ rfl⟩,λb hb=>?_,q o nf⟩
 obtain rfl:=List.mem_singleton.mp hb
 exact I2.fpOk (Nat.le_refl _) (I2.hok.fresh (Nat.le_refl _))
def Ft(nf:Addr->Prop)(t:TE):TE:=λσ H Q=>t σ H λv H'=>∃d o kvs,nf d/\H' d=some (.frz o (.dK kvs))/\Q v (upd H' d (.dK kvs))
theorem qZ(h:PE X e t):PE X e (Ft (qT X) t):=by
 intro RE s σ H Q I hw
 refine thn (h RE s σ H _ I hw) λu s1 y=>?_
 obtain⟨v,H',I',r',d,o,kvs,nf,hd,q⟩:=y
 obtain⟨_,z⟩:=(I'.hok d _ hd)
 refine⟨v,_,I'.retag hd (λ_ z=>by cases z) nf (λ_ z=>by cases z) (λ_ z=>by cases z) ?_,r',q⟩
 exact z
def uj(td ty tx:TE):TE:=λσ H Q=>td σ H λx H1=>∃a,x= .ref a/\(∃kvs,H1 a=some (.dK kvs))/\ty σ H1 λy H2=>tx σ H2 λz H3=>∃kvs k,H3 a=some (.dK kvs)/\dz y=some k/\Q ((aZ kvs k).getD z) H3
theorem j7(hu:X.A.units+1<Po)(ho:PE X o td)(he:PE X e ty)(hf:PE X f tx)(m:M2 X o "get" apos e f cpos):PE X (.Call (.Attribute o "get" apos) [e,f] [] cpos) (uj td ty tx):=by
 intro RE s σ H Q I h
 exact y8 hu ho.up he.up hf.up m RE s σ H Q I ⟨_,h,λx H1 u=>by obtain⟨a,e,⟨kvs,hk⟩,q⟩:=u;exact⟨a,e,.inl ⟨kvs,Rd.of hk⟩,_,q,λy H2 q=>⟨_,q,λz H3 w=>by obtain⟨kvs,k,h3,ek,q⟩:=w;exact⟨_,by rw [jw ek];exact DGet.k h3,q⟩⟩⟩⟩
theorem xz:OO (.type "list") "keys" =pure none:=by rfl
theorem xA
 (hx:s.heap.get? a=some {cls:=.type "list",dict:=none,data:=.seq xs k,slots:= #[]}) (hA:A.handled=none)
 (h:∀h' tk,(∀b o,s.heap.get? b=some o->h'.get? b=some o)->Q none {s with heap:=h',toks:=tk}):Nr (model prog w) A (getAttr? (.ref a) "keys") Q E s:=by
 obtain⟨hp,g,d,tk,os⟩:=s
 have hT:∀tk',(⟨hp,g,d,tk',os⟩:Nn).TypeIs (.ref a) "list":=λ_=>⟨_,hx,rfl⟩
 have f1:=sub_AttributeError
 have f3:=F.slot_list_getattribute.lookup
 have f4:=F.slot_list_getattribute.bind (.ref a)
 have f5:=am_list_getattr_none
 repeat (any_goals (first | assumption | exact hT _ | ((with_reducible show Nr _ _ (call (Nk.builtin "list.__getattribute__") _ _) _ _ _);refine O5 F.slot_list_getattribute (hT _) am_entry_list_getattribute (F.args_list_getattribute_2 _ _) (meets_getattribute_miss_list a xs k #[] "keys" _ xz (by decide)) ⟨hx,hA,λh' tk' e hx'=>?_⟩) | wp_step))
 obtain⟨t',u',he⟩:=hx'.there
 show Nr _ _ (getattributeRaised _ _ _ _ _ _ _) _ _ _
 repeat (any_goals (first | assumption | exact hE _ | exact h _ _ hx'.keeps | wp_step))
theorem cP:entryFor table "dict.update.loop" =some ND.«dict.update.loop»:=entryFor_of_tree (by kernel_rfl)
section
variable{prog:Np}{w:Nu}
inductive ItP (prog:Np) (w:Nu) (h:Heap) (d it:Addr):List Nk->List (Key×Nk)->Prop
 | nil:ItP prog w h d it [] []
 | cons {a:Addr} {o:Obj} {key v:Nk} {k:Key} {n:Nat} {xs:List Nk} {ps:List (Key×Nk)}:h.get? a=some o->o.cls= .type "tuple"->o.data= .seq #[key,v] n->(ay prog w).is k key=true->a≠d->a≠it->ItP prog w h d it xs ps->ItP prog w h d it (.ref a::xs) ((k,v)::ps)
theorem ItP.keep(g:∀b o,b≠d->b≠it->h.get? b=some o->h'.get? b=some o):∀{xs:List Nk} {ps:List (Key×Nk)},ItP prog w h d it xs ps->ItP prog w h' d it xs ps:=by
 intro x0 x1 zq
 induction zq with
 | nil=>exact .nil
 | cons h1 h2 h3 h4 h5 h6 r ih=>exact .cons (g _ _ h5 h6 h1) h2 h3 h4 h5 h6 ih
theorem re{R:Result->Nn->Prop}(hh:A.handled=none){d it l:Addr}{items:Array Nk}(ndi:d≠it)(ndl:d≠l)(nil:it≠l):∀(rest:List (Key×Nk)) (i:Nat) (s:Nn) (cur:List (Key×Nk)),s.heap.IsListIter it l i->s.heap.IsList l items->ItP prog w s.heap d it (items.toList.drop i) rest->
 s.heap.DictOf (ay prog w) d cur->cur.length+rest.length<=1000->
 (∀h' tk,h'.DictOf (ay prog w) d (rest.foldl (λc p=>stored c p.1 p.2) cur)->(∀b o,b≠d->b≠it->s.heap.get? b=some o->h'.get? b=some o)->R (.ok (.ret .none)) {s with heap:=h',toks:=tk})->
 OJ (model prog w) A (.builtin "dict.update.loop" ⟨[.ref d,.ref it,O4 i,.none],[]⟩) R s
 | [],i,s,cur,hit,hl,hp,hm,hsz,hR=>by
  apply Ow cP
  unfold ND.«dict.update.loop»
  have e0:items[i]? =none:=by
   cases h:items.toList.drop i with
   | nil=>
    have:=List.drop_eq_nil_iff.mp h
    simpa using this
   | cons x xs=>rw [h] at hp;cases hp
  refine Nj (wpAny_pyNext_list_end hh hit hl e0 λh' eb=>?_)
  refine Nj (Nl (Nl ?_))
  exact hR h' s.toks (hm.extBut eb ndi) λb o nb nb' e=>eb b o nb' e
 | (k,v)::rest,i,s,cur,hit,hl,hp,hm,hsz,hR=>by
  apply Ow cP
  obtain⟨x,xs,ed⟩:∃x xs,items.toList.drop i=x::xs:=by
   cases h:items.toList.drop i with
   | nil=>rw [h] at hp;cases hp
   | cons x xs=>exact⟨x,xs,rfl⟩
  have e0:items[i]? =some x:=by
   have:=congrArg (λl=>l[0]?) ed
   simp only [Mo,Nat.add_zero,List.getElem?_cons_zero,Array.getElem?_toList] at this
   exact this
  have e1:items.toList.drop (i+1)=xs:=by
   rw [<-List.drop_drop,ed];rfl
  rw [ed] at hp
  cases hp with
  | @cons a o key _ _ n _ _ h1 h2 h3 h4 h5 h6 r=>
  refine Nj (wpAny_pyNext_list_item hit hl e0 λh' hit' sb=>?_)
  have k1:∀b o,b≠it->s.heap.get? b=some o->h'.get? b=some o:=λb o nb e=>(sb.2 b nb).trans e
  have ha:=k1 a o h6 h1
  have hT:({s with heap:=h'}:Nn).TypeIs (.ref a) "tuple":=⟨o,ha,h2⟩
  refine Nj (NA (Nj (wpAny_tryCatch ?_)))
  refine Nj (OX hT ?_)
  refine Nj (NM (s:={s with heap:=h'}) ha h3 (Nl ?_))
  refine NA (wpAny_dictSet_pairs h4 (hm.sameBut sb ndi) (λh'' hm'' sb''=>?_) (by unfold Nm;lia))
  have k2:=λb o nb nb' e=>(sb''.2 b nb).trans (k1 b o nb' e)
  refine Nl ⟨Code.quiet_builtin _ (by decide),?_⟩
  have IV:=Pm cur k v
  have ih:=re hh ndi ndl nil rest (i+1) {s with heap:=h'',toks:=s.toks+1} (stored cur k v) (hit'.at λo e=>(sb''.2 it (Ne.symm ndi)).trans e) (hl.at λo e=>(sb''.2 l (Ne.symm ndl)).trans (k1 l o (Ne.symm nil) e)) (by rw [e1];exact r.keep k2) hm'' (by simp only [Lw] at hsz;lia) λh3 tk hm3 k3=>hR h3 tk hm3 λb o nb nb' e=>k3 b o nb nb' (k2 b o nb nb' e)
  exact ih
end
inductive PrK (H:Hp):List V->List (Key×V)->Prop
 | nil:PrK H [] []
 | cons {a:Addr} {k:Key} {v:V} {xs:List V} {ps:List (Key×V)}:H a=some (.tup [kV k,v])->PrK H xs ps->PrK H (.ref a::xs) ((k,v)::ps)
def di(ps:List (Key×V)):List (Key×V):=ps.foldl (λc p=>bN c p.1 p.2) []
def xB:List V->Hp->VK->Prop:=λxs H Q=>∃(p:Addr) (ys:List V) (ps:List (Key×V)),xs= [.ref p]/\H p=some (.lst ys)/\PrK H ys ps/\ps.length<1000/\∀l H',H l=none->Same H H'->H' l=some (.dK (di ps))->Q (.ref l) H'
theorem xC{RE:List (Addr×Obj)}{σ:St}{H:Hp}{s:Nn}(I:Inv X RE σ H s){d it:Addr}(hd:s.heap.objs.size<=d)(hi:s.heap.objs.size<=it):∀{ys:List V} {ps:List (Key×V)} {its:List Nk},PrK H ys ps->Vals ys its->∃us,ItP X.prog X.w s.heap d it its us/\KV ps us
 | _,_,_,.nil,.nil=>⟨[],.nil,.nil⟩
 | _,_,_, @PrK.cons _ a k v xs ps h r,.cons rv rr=>by
  obtain⟨us,h1,h2⟩:=xC I hd hi r rr
  cases rv
  obtain⟨_,its,rt,o,e1,e2,n,e3⟩:=(I.hok a _ h)
  obtain⟨key,u,rfl,ra,rb⟩:=rt.two
  have lt:=LG e1
  exact⟨(k,u)::us,.cons e1 e2 e3 (eW ra) (LK (Ly lt hd)) (LK (Ly lt hi)) h1,.cons ⟨rfl,rb⟩ h2⟩
theorem rf:∀{ps:List (Key×V)} {us:List (Key×Nk)} {cs:List (Key×V)} {ds:List (Key×Nk)},KV ps us->KV cs ds->KV (ps.foldl (λc p=>bN c p.1 p.2) cs) (us.foldl (λc p=>stored c p.1 p.2) ds)
 | [],[],_,_,_,h=>h
 | [],_::_,_,_,h,_=>by cases h
 | _::_,[],_,_,h,_=>by cases h
 | (k,x)::ps,(k',u)::us,cs,ds,h,h'=>by
  cases h with
  | cons h1 h2=>
   have e:=h1.1
   subst e
   exact rf (ps:=ps) (us:=us) h2 (h'.put k h1.2)
theorem pD(ps:List (Key×V)):(di ps).length<=ps.length:=by
 have:∀(ps:List (Key×V)) (c:List (Key×V)),(ps.foldl (λc p=>bN c p.1 p.2) c).length<=c.length+ps.length:=λps=>by
  induction ps with
  | nil=>simp_all
  | cons p ps ih=>
   intro c
   have h1:=ih (bN c p.1 p.2)
   have h2:=fG c p.1 p.2
   rw [List.foldl_cons,Lw]
   lia
 have:=this ps []
 unfold di
 simpa using this
theorem dM(hc:X.calm=true:=by rfl):bG X (.type "dict") xB:=by
 intro RE s σ H xs us Q I r h
 obtain⟨p,ys,ps,rfl,hp,pk,hsz,q⟩:=h
 obtain⟨u,rfl,ru⟩:=fF r
 cases ru
 obtain⟨hz,its,n0,rv,e0⟩:=(I.hok p _ hp)
 have hh:=I.ok.hd hc
 apply callType_codes (Q₁:=λobj s₁=>obj= .ref s.heap.objs.size/\s₁={s with heap:=s.heap.push {cls:=.type "dict",data:=.dict #[]}}) F.kt_called_dict (F.kt_typeCall_dict_1 _) F.entry_dict_init (kt_code_dict_new _ ⟨rfl,rfl⟩)
 rintro obj s₁ ⟨rfl,rfl⟩
 have hnew:(s.heap.push {cls:=.type "dict",data:=.dict #[]}).DictOf (ay X.prog X.w) s.heap.objs.size []:=Heap.DictOf.new s.heap
 have e1:(s.heap.push {cls:=.type "dict",data:=.dict #[]}).get? p=some {cls:=.type "list",data:=.seq its.toArray n0}:=Lk _ e0
 have hT:({s with heap:=s.heap.push {cls:=.type "dict",data:=.dict #[]}}:Nn).TypeIs (.ref p) "list":=⟨_,e1,rfl⟩
 refine⟨hnew.typeIs,F.args_dict_init_2 _ _,?_⟩
 apply Nj
 refine Nj (wpAny_notOrdered_dict hnew.typeIs ?_)
 apply Nl
 refine Nj (OX hT ?_)
 refine Nj (xA e1 hh λh1 tk1 k1=>?_)
 have ln:∀b o,s.heap.get? b=some o->h1.get? b=some o:=λb o e=>k1 _ _ (Lk _ e)
 have hm1:h1.DictOf (ay X.prog X.w) s.heap.objs.size []:=by
  obtain⟨o,es,ep,ho,r⟩:=hnew
  exact⟨o,es,ep,k1 _ _ ho,r⟩
 have hl1:h1.IsList p its.toArray:=⟨_,k1 _ _ e1,rfl,n0,rfl⟩
 have lt1:s.heap.objs.size<h1.objs.size:=by
  obtain⟨o,es,ep,ho,r⟩:=hm1
  exact LG ho
 have ltp:=LG e0
 refine Nj (OD ?_)
 refine Nj (OE (s:={s with heap:=h1,toks:=tk1}) hl1 ?_)
 refine Nl ⟨Code.quiet_builtin _ (by decide),?_⟩
 obtain⟨us,hI,hK⟩:=xC I (Nat.le_refl _) (Nat.le_of_lt lt1) pk rv
 have hlu:=(KV.length hK).symm
 refine re (A:=X.A.in1) hh (LK lt1) (L5 ltp) (L5 (Na ltp lt1)) us 0 _ [] ⟨_,Lp _ rfl,rfl,rfl⟩ (hl1.at λo e=>Lk _ e) ?_ (hm1.push _) (by simp only [Mr];lia) λh2 tk2 hm2 k2=>?_
 ·show ItP X.prog X.w _ _ _ (its.toArray.toList.drop 0) us
  exact hI.keep λb o _ _ e=>Lk _ (ln b o e)
 ·refine⟨rfl,?_⟩
  have kp:∀b o,s.heap.get? b=some o->h2.get? b=some o:=λb o e=>by
   have lb:=LG e
   exact k2 b o (LK lb) (LK (Na lb lt1)) (Lk _ (ln b o e))
  have fr:=I.hok.fresh (Nat.le_refl _)
  have hs:=beq_eq_false_iff_ne.mpr (L5 I.big)
  have kv:=rf hK .nil
  have le:=pD ps
  have I2:=I.laid (o:=.dK (di ps)) (t':=tk2) kp (Nat.le_refl _) (⟨by unfold Nm;lia,hs,_,kv,hm2⟩)
  exact⟨.ref s.heap.objs.size,_,I2,rfl,q _ _ fr (bh fr _) aB⟩
end L2
namespace L2
open PySem PySem.Spec PyProof.Rows PySem.W
def Ord(n:Nat)(p:Array Nat):Prop:=p.Perm (List.toArray (List.range n))
theorem Ord.size{n:Nat}{p:Array Nat}(h:Ord n p):p.size=n:=by have:=h.size_eq;simpa using this
theorem Ord.get{n:Nat}{p:Array Nat}(h:Ord n p)(hn:0<n)(i:Nat):p.getD i 0<n:=by
 by_cases c:i<p.size
 ·have e:p.getD i 0=p[i]:=by simp [Array.getD,c]
  rw [e]
  have hm:p[i]∈p.toList:=by simp
  have:=(Array.perm_iff_toList_perm.mp h).mem_iff.mp hm
  simpa using this
 ·have e:p.getD i 0=0:=by simp [Array.getD,c]
  rw [e];exact hn
theorem Ord.rev{n:Nat}{p:Array Nat}(h:Ord n p)(i j:Nat):Ord n (Rb p i j):=(mirror_perm p i j _).trans h
theorem Ord.bub{n:Nat}{p:Array Nat}(h:Ord n p)(i j:Nat):Ord n (bubble p i j):=(bubble_perm p i j).trans h
section
variable{N:Nat}(hN:0<N)
include hN
end
section
variable{prog:Np}{w:Nu}{A:Nw}{E:Nk->Nn->Prop}{s:Nn}
end
end L2
namespace L2
open PySem PySem.Spec PyProof.Rows
theorem pE{d:Addr}{o:Obj}{kvs:List (Key×V)}:qS (Itv d o kvs) (kvs.map (·.2)) (λH=>H d=some (.frz o (.dK kvs))) where
 go:=λi H h lt=>⟨by simpa using lt,h⟩
 stop:=λi H h le=>⟨by simpa using le,h⟩
 yld:=λi H x H' h lt y=>by
  obtain⟨rfl,k,e⟩:=y
  exact⟨rfl,by rw [LF,e];rfl⟩
theorem tE{d:Addr}{o:Obj}{kvs:List (Key×V)}{g:TG}{tc:TT}{te:TE}{cs:St}{H1:Hp}{Q:VK}(hd1:H1 d=some (.frz o (.dK kvs)))(sz:kvs.length<Nm)(Pv:Addr->Nat->List V->St->Hp->Prop)
 (h0:∀D H',H1 D=none->Same H1 H'->H' D=some (.lst [])->Pv D 0 [] cs H')
 (hs:∀D i k x ys σ1 H' p H'',kvs[i]? =some (k,x)->At (kvs.map (·.2)) H1 D i ys H'->Pv D i ys σ1 H'->H' p=none->Same H' H''->H'' p=some (.tup [kV k,x])->g (.ref p) σ1 H'' λσ2 H2=>tc σ2 H2 λb H3=>if b=true then te σ2 H3 λv H4=>Put (kvs.map (·.2)) H1 D (Pv D) i σ2 v H4 else l8 (kvs.map (·.2)) H1 D (Pv D) i σ2 H3)
 (hd:∀D ys σ1 H',H1 D=none->Same H1 H'->H' D=some (.lst ys)->ys.length<=kvs.length->Pv D kvs.length ys σ1 H'->Q (.ref D) H'):gw (Iti d o kvs) g tc te cs H1 Q:=by
 have el:(kvs.map (·.2)).length=kvs.length:=by rw [Ln]
 intro D hD
 refine⟨CW (kvs.map (·.2)) H1 D (Pv D),⟨_,rfl,Mf _,bh hD _,[],aB,Nat.le_refl _,h0 D _ hD (bh hD _) aB⟩,?_⟩
 rintro i m σ1 H ⟨rfl,hi,sm,ys,hy,ly,p⟩
 by_cases hlt:i<kvs.length
 ·refine .inr ⟨⟨hlt,sm _ _ hd1⟩,λv H' y=>?_⟩
  obtain⟨pp,k,x,rfl,hn,sm2,hp,hx⟩:=y
  exact hs D i k x ys σ1 H pp H' hx ⟨hD,by rw [el];exact hlt,by rw [el];exact sz,sm,hy,ly⟩ p hn sm2 hp
 ·have e:i=kvs.length:=by rw [el] at hi;lia
  subst e
  exact .inl ⟨⟨Nat.le_refl _,sm _ _ hd1⟩,hd D ys σ1 _ hD sm hy ly p⟩
section
variable{X:Cx}
def xD:List V->Hp->VK->Prop:=λxs H Q=>∃(d:Addr) (kvs:List (Key×V)),xs= [.ref d]/\H d=some (.dK kvs)/\kvs.length<1000/\∀l H',H l=none->Same H H'->H' l=some (.lst (kvs.map λkv=>kV kv.1))->Q (.ref l) H'
theorem oq:∀(xs:List V) (vs:List Nk),vs.length=xs.length->(∀(j:Nat) (v:Nk),vs[j]? =some v->∃x,xs[j]? =some x/\RelV x v)->Vals xs vs
 | [],[],_,_=>.nil
 | x::xs,v::vs,hl,h=>by
  obtain⟨y,e,r⟩:=h 0 v rfl
  cases e
  exact .cons r (oq xs vs (by simpa using hl) λj v e=>by simpa using h (j+1) v (by simpa using e))
 | [],_::_,hl,_=>by simp at hl
 | _::_,[],hl,_=>by simp at hl
theorem vF(hc:X.calm=true:=by rfl):bG X (.type "list") xD:=by
 intro RE s σ H xs us Q I r h
 obtain⟨d,kvs,rfl,hd,hz,q⟩:=h
 obtain⟨u,rfl,ru⟩:=fF r
 cases ru
 obtain⟨z1,z2,vs,rel,o,es,ep,ho,rr⟩:=ii I.hok hd
 have hl:kvs.length=vs.length:=rel.length
 have big:1000<=Nm:=by unfold Nm;decide
 refine Ng (Nf (knd:=ay X.prog X.w) (kvs:=vs) (ep:=ep) z2) (I.ok.hd hc) ⟨o,es,ho,rr⟩ (by lia) λh' tk acc c' hk hS hacc=>?_
 have fr:H s.heap.objs.size=none:=I.hok.fresh (Nat.le_refl _)
 have rv:Vals (kvs.map λkv=>kV kv.1) acc.toList:=by
  refine oq _ _ (by rw [Array.length_toList,hacc.1,Ln,hl]) λj v hj=>?_
  obtain⟨k,x,e,hkey⟩:=hacc.2 j v (by rw [<-Array.getElem?_toList];exact hj)
  have h1:=congrArg (λl=>l[j]?) rel.keys
  simp only [LF,e,MK] at h1
  cases hk2:kvs[j]? with
  | none=>rw [hk2] at h1;cases h1
  | some kv=>
   rw [hk2] at h1
   have h1:kv.1=k:=Option.some.inj h1
   refine⟨kV kv.1,by rw [LF,hk2];rfl,?_⟩
   rw [h1]
   exact qU hkey
 have I2:=I.laid (a:=s.heap.objs.size) (o:=.lst (kvs.map λkv=>kV kv.1)) (t':=tk) hk (Nat.le_refl _) (show ObjOk X.prog X.w _ h' _ (.lst _) from ⟨by rw [Ln];lia,acc.toList,c',rv,by simpa using hS⟩)
 exact⟨.ref s.heap.objs.size,_,I2,rfl,q _ _ fr (bh fr _) aB⟩
end
end L2
namespace L2
open PySem PySem.Spec PyProof.Rows PySem.W
def Go{α:Type}(lt:Nat->Nat->Bool)(N:Nat)(R:α->Prop):KasT α->Prop
 | .ret a=>R a
 | .ask i j k=>i<N/\j<N/\Go lt N R (k (lt i j))
theorem Go.bind{R:α->Prop}{S:β->Prop}{f:α->KasT β}(hf:∀a,R a->Go lt N S (f a)):∀{t:KasT α},Go lt N R t->Go lt N S (t.bind f)
 | .ret a,h=>hf a h
 | .ask i j k,⟨h1,h2,h3⟩=>⟨h1,h2,Go.bind hf h3⟩
theorem Go.wp{lt:Nat->Nat->Bool}{N:Nat}{R:α->Prop}{Q:α->Nn->Prop}(hc:∀i j,i<N->j<N->∀C:Bool->Nn->Prop,C (lt i j) s->cmp i j C s)(hq:∀a,R a->Q a s):∀{t:KasT α},Go lt N R t->t.kasWp cmp Q s
 | .ret a,h=>hq a h
 | .ask i j k,⟨h1,h2,h3⟩=>hc i j h1 h2 _ (Go.wp hc hq h3)
section
variable{lt:Nat->Nat->Bool}{N:Nat}(hN:0<N)(tr:∀i j k,lt i j=true->lt j k=true->lt i k=true)(tot:∀i j,i<N->j<N->i≠j->lt i j=true\/lt j i=true)
def Up(lt:Nat->Nat->Bool)(p:Array Nat)(k:Nat):Prop:=∀i j,i<j->j<k->lt (p.getD i 0) (p.getD j 0)=true
def Down(lt:Nat->Nat->Bool)(p:Array Nat)(k:Nat):Prop:=∀i j,i<j->j<k->lt (p.getD j 0) (p.getD i 0)=true
theorem Ord.ne(h:Ord N p)(hij:i<j)(hj:j<N):p.getD i 0≠p.getD j 0:=by
 have nd:p.toList.Nodup:=by
  have:=(Array.perm_iff_toList_perm.mp h).nodup_iff.mpr (by simpa using List.nodup_range)
  exact this
 have hs:=h.size
 have hi':i<p.size:=by lia
 have hj':j<p.size:=by lia
 simp only [Array.getD,hi',hj']
 intro e
 have:=(List.pairwise_iff_getElem.mp nd) i j (by simpa using hi') (by simpa using hj') hij
 exact this (by simpa using e)
include tr in
theorem Up.step{p:Array Nat}{n:Nat}(h:Up lt p n)(h1:1<=n)(hl:lt (p.getD (n-1) 0) (p.getD n 0)=true):Up lt p (n+1):=λi j hij hj=>by
 by_cases e:j=n
 ·subst e
  by_cases e2:i=j-1
  ·subst e2;exact hl
  ·exact tr _ _ _ (h i (j-1) (by lia) (by lia)) hl
 ·exact h i j hij (by lia)
include tr in
theorem Down.step{p:Array Nat}{n:Nat}(h:Down lt p n)(h1:1<=n)(hl:lt (p.getD n 0) (p.getD (n-1) 0)=true):Down lt p (n+1):=λi j hij hj=>by
 by_cases e:j=n
 ·subst e
  by_cases e2:i=j-1
  ·subst e2;exact hl
  ·exact tr _ _ _ hl (h i (j-1) (by lia) (by lia))
 ·exact h i j hij (by lia)
include hN tr tot in
theorem rg{p:Array Nat}(hp:Ord N p):∀f n,1<=n->n+f<=N->Up lt p n->Go lt N (λm=>n<=m/\m<=n+f/\Up lt p m/\(m<n+f->lt (p.getD m 0) (p.getD (m-1) 0)=true)) (kas_asc p f n)
 | 0,n,h1,hl,hu=>⟨Nat.le_refl _,Nat.le_refl _,hu,λz=>absurd z (by lia)⟩
 | f+1,n,h1,hl,hu=>by
  refine⟨hp.get hN _,hp.get hN _,?_⟩
  cases b:lt (p.getD n 0) (p.getD (n-1) 0) with
  | true=>exact⟨Nat.le_refl _,by lia,hu,λ_=>b⟩
  | false=>
   have hl2:lt (p.getD (n-1) 0) (p.getD n 0)=true:=((tot _ _ (hp.get hN _) (hp.get hN _) (hp.ne (by lia) (by lia))).resolve_right (by rw [b];simp))
   have:=rg hp f (n+1) (by lia) (by lia) (hu.step tr h1 hl2)
   show Go lt N _ (kas_asc p f (n+1))
   rw [show n+(f+1)=n+1+f by lia]
   have w:∀{t:KasT Nat},Go lt N (λm=>n+1<=m/\m<=n+1+f/\Up lt p m/\(m<n+1+f->lt (p.getD m 0) (p.getD (m-1) 0)=true)) t->Go lt N (λm=>n<=m/\m<=n+1+f/\Up lt p m/\(m<n+1+f->lt (p.getD m 0) (p.getD (m-1) 0)=true)) t:=by
    intro t
    induction t with
    | ret a=>exact λh=>⟨by have:=h.1;lia,h.2⟩
    | ask i j k ih=>exact λh=>⟨h.1,h.2.1,ih _ h.2.2⟩
   exact w this
include hN tr tot in
theorem uk{p:Array Nat}(hp:Ord N p):∀f n,1<=n->n+f<=N->Down lt p n->Go lt N (λr=>r.1=p/\r.2.2=0/\Down lt p r.2.1/\1<=r.2.1/\r.2.1<=N) (Rc f p n 0)
 | 0,n,h1,hl,hu=>⟨rfl,rfl,hu,h1,by lia⟩
 | f+1,n,h1,hl,hu=>by
  refine⟨hp.get hN _,hp.get hN _,?_⟩
  cases b:lt (p.getD n 0) (p.getD (n-1) 0) with
  | true=>
   show Go lt N _ (if true=true then (if 0>0 then Rc f (Rb p (n-(0+1)) n) (n+1) 0 else Rc f p (n+1) 0) else _)
   rw [RD rfl,RC (by lia)]
   exact uk hp f (n+1) (by lia) (by lia) (hu.step tr h1 b)
  | false=>
   show Go lt N _ (if false=true then _ else KasT.ask (p.getD (n-1) 0) (p.getD n 0) λd=>if d=true then .ret (p,n,0) else Rc f p (n+1) (0+1))
   rw [RC (by decide)]
   have hl2:lt (p.getD (n-1) 0) (p.getD n 0)=true:=((tot _ _ (hp.get hN _) (hp.get hN _) (hp.ne (by lia) (by lia))).resolve_right (by rw [b];simp))
   refine⟨hp.get hN _,hp.get hN _,?_⟩
   rw [hl2]
   exact⟨rfl,rfl,hu,h1,by show n<=N;lia⟩
theorem Fu(hp:Ord N p)(hn:n<=N)(h:Down lt p n):Up lt (Rb p 0 n) n:=λi j hij hj=>by
 have hs:=hp.size
 have g:∀k,k<n->(Rb p 0 n).getD k 0=p.getD (n-1-k) 0:=λk hk=>by
  have e:=getElem?_mirror_all (xs:=p) (i:=0) (j:=n) (by lia) k
  rw [RD ⟨Mf _,hk⟩] at e
  rw [Array.getD_eq_getD_getElem?,Array.getD_eq_getD_getElem?]
  unfold Rb
  rw [e]
  congr 2;lia
 rw [g i (by lia),g j hj]
 exact h _ _ (by lia) (by lia)
include hN tr tot in
theorem zy{p:Array Nat}(hp:Ord N p)(h2:2<=N):Go lt N (λr=>Ord N r.2/\Up lt r.2 r.1/\1<=r.1/\r.1<=N) (kas_count N p):=by
 refine(rg hN tr tot hp (N-1) 1 (Nat.le_refl _) (by lia) λi j hij hj=>absurd hj (by lia)).bind λn ⟨a1,a2,a3,a4⟩=>?_
 by_cases c:(n==N)=true
 ·rw [RD c];exact⟨hp,a3,a1,by lia⟩
 ·rw [RC c]
  have c:n≠N:=λz=>c (by rw [z];exact beq_self_eq_true N)
  by_cases c2:n>1
  ·rw [RD c2]
   refine⟨hp.get hN _,hp.get hN _,?_⟩
   rw [a3 0 (n-1) (by lia) (by lia)]
   exact⟨hp,a3,a1,by lia⟩
  ·rw [RC c2]
   have e1:n=1:=by lia
   subst e1
   have b:=a4 (by lia)
   have d2:Down lt p 2:=λi j hij hj=>by
    have:i=0:=by lia
    have:j=1:=by lia
    subst i;subst j
    exact b
   refine(uk hN tr tot hp (N-2) 2 (by lia) (by lia) d2).bind λr ⟨b1,b2,b3,b4,b5⟩=>?_
   rw [RC (by lia)]
   obtain⟨r1,r2,r3⟩:=r
   cases b1
   refine(rg hN tr tot (hp.rev _ _) (N-r2) r2 b4 (by dsimp only at b5;lia) (Fu hp b5 b3)).bind λm ⟨m1,m2,m3,m4⟩=>?_
   exact⟨hp.rev _ _,m3,by dsimp only at b4;dsimp only;lia,by dsimp only at b5;dsimp only;lia⟩
include hN tr tot in
theorem l9{p:Array Nat}(hp:Ord N p){k:Nat}(hk:k<N):∀f l r,l<=r->r<=k->r-l<=f->Up lt p k->(∀i,i<l->lt (p.getD i 0) (p.getD k 0)=true)->(∀i,r<=i->i<k->lt (p.getD k 0) (p.getD i 0)=true)->Go lt N (λl=>l<=k/\(∀i,i<l->lt (p.getD i 0) (p.getD k 0)=true)/\(∀i,l<=i->i<k->lt (p.getD k 0) (p.getD i 0)=true)) (kas_place p k f l r)
 | 0,l,r,h1,h2,h3,hu,h4,h5=>⟨by lia,h4,λi hi=>h5 i (by lia)⟩
 | f+1,l,r,h1,h2,h3,hu,h4,h5=>by
  show Go lt N _ (if l>=r then KasT.ret l else _)
  by_cases c:l>=r
  ·rw [RD c];exact⟨by lia,h4,λi hi=>h5 i (by lia)⟩
  ·rw [RC c]
   refine⟨hp.get hN _,hp.get hN _,?_⟩
   cases b:lt (p.getD k 0) (p.getD ((l+r)/2) 0) with
   | true=>
    refine l9 hp hk f l ((l+r)/2) (by lia) (by lia) (by lia) hu h4 λi hi hik=>?_
    by_cases e:i=(l+r)/2
    ·rw [e];exact b
    ·exact tr _ _ _ b (hu _ _ (by lia) hik)
   | false=>
    have hl2:lt (p.getD ((l+r)/2) 0) (p.getD k 0)=true:=((tot _ _ (hp.get hN _) (hp.get hN _) (hp.ne (by lia) hk)).resolve_right (by rw [b];simp))
    refine l9 hp hk f ((l+r)/2+1) r (by lia) (by lia) (by lia) hu (λi hi=>?_) h5
    by_cases e:i=(l+r)/2
    ·rw [e];exact hl2
    ·exact tr _ _ _ (hu _ _ (by lia) (by lia)) hl2
theorem Fv(hp:Ord N p)(hk:k<N)(hl:l<=k)(hu:Up lt p k)(h4:∀i,i<l->lt (p.getD i 0) (p.getD k 0)=true)(h5:∀i,l<=i->i<k->lt (p.getD k 0) (p.getD i 0)=true):Up lt (bubble p k (k-l)) (k+1):=by
 have hs:=hp.size
 have g:∀i,(bubble p k (k-l)).getD i 0=if i=l then p.getD k 0 else if l<i/\i<=k then p.getD (i-1) 0 else p.getD i 0:=λi=>by
  have e:=getElem?_bubble (xs:=p) (src:=k) (by lia) (k-l) (by lia) i
  rw [show k-(k-l)=l by lia] at e
  rw [Array.getD_eq_getD_getElem?,e]
  split
  ·rw [Array.getD_eq_getD_getElem?]
  ·split
   ·rw [Array.getD_eq_getD_getElem?]
   ·rw [Array.getD_eq_getD_getElem?]
 intro i j hij hj
 rw [g i,g j]
 by_cases c1:i=l
 ·rw [RD c1,RC (by lia),RD ⟨by lia,by lia⟩]
  exact h5 _ (by lia) (by lia)
 ·rw [RC c1]
  by_cases c2:j=l
  ·rw [RD c2,RC (by lia)]
   exact h4 _ (by lia)
  ·rw [RC c2]
   by_cases c3:l<i
   ·rw [RD ⟨c3,by lia⟩,RD ⟨by lia,by lia⟩]
    exact hu _ _ (by lia) (by lia)
   ·rw [RC (by lia)]
    by_cases c4:l<j
    ·rw [RD ⟨c4,by lia⟩]
     exact hu _ _ (by lia) (by lia)
    ·rw [RC (by lia)]
     exact hu _ _ hij (by lia)
include hN tr tot in
theorem xE:∀(f:Nat) {p:Array Nat} (k:Nat),Ord N p->k+f=N->Up lt p k->Go lt N (λp=>Ord N p/\Up lt p N) (kas_bin f p k)
 | 0,p,k,hp,hk,hu=>⟨hp,by rw [<-hk];exact hu⟩
 | f+1,p,k,hp,hk,hu=>(l9 hN tr tot hp (by lia) k 0 k (by lia) (by lia) (by lia) hu (λi hi=>absurd hi (by lia)) (λi h1 h2=>absurd h2 (by lia))).bind λl ⟨a1,a2,a3⟩=>xE f (k+1) (hp.bub _ _) (by lia) (Fv hp (by lia) a1 hu a2 a3)
include hN tr tot in
theorem Ck(h2:2<=N):Go lt N (λp=>Ord N p/\Up lt p N) (kas_sort N):=(zy hN tr tot (Array.Perm.refl _) h2).bind λr ⟨a1,a2,a3,a4⟩=>by
 by_cases c:r.1<N
 ·rw [RD c,show max r.1 1=r.1 by lia]
  exact xE hN tr tot _ _ a1 (by lia) a2
 ·rw [RC c]
  exact⟨a1,by rw [show N=r.1 by lia];exact a2⟩
end
theorem fQ:∀{x y z:List Int},HT.aF x y=true->HT.aF y z=true->HT.aF x z=true
 | [],[],_,h,_=>by cases h
 | [],_::_,[],_,h=>by cases h
 | [],_::_,_::_,_,_=>rfl
 | _::_,[],_,h,_=>by cases h
 | _::_,_::_,[],_,h=>by cases h
 | a::x,b::y,c::z,h,h'=>by
  rw [HT.bC] at h h'⊢
  by_cases e1:a=b
  ·rw [RD e1] at h
   by_cases e2:b=c
   ·rw [RD e2] at h'
    rw [RD (e1.trans e2)]
    exact fQ h h'
   ·rw [RC e2] at h'
    rw [RC (by rw [e1];exact e2),e1]
    exact h'
  ·rw [RC e1] at h
   by_cases e2:b=c
   ·rw [RC (by rw [<-e2];exact e1),<-e2]
    exact h
   ·grind
theorem io:∀{x y:List Int},x≠y->HT.aF x y=true\/HT.aF y x=true
 | [],[],h=>absurd rfl h
 | [],_::_,_=>.inl rfl
 | _::_,[],_=>.inr rfl
 | a::x,b::y,h=>by
  rw [HT.bC,HT.bC]
  by_cases e:a=b
  ·rw [RD e,RD e.symm]
   exact io λz=>h (by rw [e,z])
  ·rw [RC e,RC (Ne.symm e)]
   rcases Int.lt_or_gt_of_ne e with z | z
   ·exact .inl (decide_eq_true z)
   ·exact .inr (decide_eq_true z)
theorem jB:∀x:List Int,HT.aF x x=false
 | []=>rfl
 | a::x=>by rw [HT.bC,RD rfl];exact jB x
def TpI(h:Heap)(v:Nk)(ns:List Int)(rs:List V):Prop:=∃a o us ws n,v= .ref a/\h.get? a=some o/\o.cls= .type "tuple"/\o.data= .seq (List.toArray (us++ws)) n/\N7 us ns/\Vals rs ws
def Flt(rs:List V):Prop:=∀r∈rs,(∃i,r=V.int i)\/∃x,r=V.str x
section
variable{prog:Np}{w:Nu}{A:Nw}{E:Nk->Nn->Prop}{s:Nn}
theorem Iu{Q:Bool->Nn->Prop}(h:Q false s):∀{rs:List V} {us vs:List Nk} (i:Nat),Vals rs us->Vals rs vs->Flt rs->KatLex prog w A b false Q (us.zip vs) i s:=by
 intro rs
 induction rs with
 | nil=>intro us vs i r1 r2 f;cases r1;exact kat_nil h
 | cons r rs ih=>
  intro us vs i r1 r2 f
  cases r1 with
  | cons a1 b1=>
   cases r2 with
   | cons a2 b2=>
    have f':=λx hx=>f x (Lm _ hx)
    rcases f r Ll with ⟨n,rfl⟩ | ⟨x,rfl⟩
    ·obtain⟨_,rfl⟩:=a1
     obtain⟨_,rfl⟩:=a2
     exact kat_cons (Pl (kat_go (λ_=>kat_yes (ih (i+1) b1 b2 f')) λe=>by simp at e))
    ·obtain⟨_,rfl⟩:=a1
     obtain⟨_,rfl⟩:=a2
     exact kat_cons (wpAny_eqBool_str (kat_go (λ_=>kat_yes (ih (i+1) b1 b2 f')) λe=>by simp at e))
theorem Fw{Q:Bool->Nn->Prop}{rs rs':List V}{ws ws':List Nk}(r1:Vals rs ws)(r2:Vals rs' ws')(f:Flt rs):∀{us vs:List Nk} {xs ys:List Int} (i:Nat),N7 us xs->N7 vs ys->xs.length=ys.length->(xs=ys->rs=rs')->Q (HT.aF xs ys) s->KatLex prog w A b false Q ((us++ws).zip (vs++ws')) i s
 | _,_,_,_,i,.nil,.nil,_,hr,h=>by
  cases hr rfl
  exact Iu h i r1 r2 f
 | _,_,_,_,i,.nil,.cons _ _ _,hl,_,h=>by cases hl
 | _,_,_,_,i,.cons _ _ _,.nil,hl,_,h=>by cases hl
 | _,_,_,_,i,.cons m t hx,.cons n u hy,hl,hr,h=>by
  refine kat_cons (Pl ?_)
  refine kat_go (λe=>kat_yes (Fw r1 r2 f (i+1) hx hy (by simpa using hl) (λz=>hr (by rw [z,show m=n by simpa using e])) ?_)) λe=>kat_no ?_
  ·rw [HT.bC,RD (by simpa using e)] at h
   exact h
  ·rw [HT.bC,RC (by simpa using e)] at h
   cases c:(b&&i==0) with
   | true=>exact oneLt_int h
   | false=>exact kat_one _ _ (lt_int h)
theorem Fx(hx:TpI s.heap x xs rs)(hy:TpI s.heap y ys rs')(hl:xs.length=ys.length)(hm:rs.length=rs'.length)(f:Flt rs)(hr:xs=ys->rs=rs')(h:Q (HT.aF xs ys) s):Nr (model prog w) A (keyLt' (tuples' true) x y) Q E s:=by
 obtain⟨a,o,us,ws,n,rfl,h1,h2,h3,h4,h5⟩:=hx
 obtain⟨a',o',us',ws',n',rfl,h1',h2',h3',h4',h5'⟩:=hy
 apply kat_lt h1 h3 h1' h3'
 have e:decide ((us++ws).toArray.size<(us'++ws').toArray.size)=false:=by
  have a1:=h4.length
  have a2:=h4'.length
  have a3:=h5.length
  have a4:=h5'.length
  simp;lia
 rw [e]
 simpa using Fw h5 h5' f 0 h4 h4' hl hr h
theorem mU{R:Addr->List V}:∀{ps:List (Addr×List Int)},(∀q∈ps,TpI h (.ref q.1) q.2 (R q.1)/\0<q.2.length)->∃fs,KatTups h (ps.map λq=>Nk.ref q.1) fs/\fs.length=ps.length/\∀f∈fs,∃i t,f=Nk.int i t
 | [],_=>⟨[],trivial,rfl,λf hf=>absurd hf Lr⟩
 | q::ps,hv=>by
  obtain⟨⟨a,o,us,ws,n,e0,h1,h2,h3,h4,_⟩,h5⟩:=hv q Ll
  cases e0
  obtain⟨fs,k,l,e⟩:=mU λu hu=>hv u (Lm _ hu)
  revert h5
  generalize hq:q.2=q2 at h4
  cases h4 with
  | nil=>exact λh=>absurd h (by decide)
  | cons i t r=>exact λ_=>⟨.int i t::fs,.cons h1 h2 h3 rfl k,by rw [Lw,Lw,l],λf hf=>(List.mem_cons.mp hf).elim (λz=>⟨i,t,z⟩) (e f)⟩
theorem qb{R:Addr->List V}(hh:A.handled=none)(ho:s.heap.get? a=some (NY "list" (ps.map λq=>Nk.ref q.1).toArray n))(tv:∀q∈ps,TpI s.heap (.ref q.1) q.2 (R q.1)/\q.1≠a)(hM:∀q∈ps,(R q.1).length=M/\Flt (R q.1))(hL:0<L)(tl:∀q∈ps,q.2.length=L)(nd:ps.Pairwise (λq r=>q.2≠r.2))(h64:ps.length<64)
 (h:∀qs:List (Addr×List Int),qs.Perm ps->qs.Pairwise (λq r=>HT.aF q.2 r.2=true)->P (.done (.ret .none)) {s with heap:=QT s.heap a (ps.map λq=>Nk.ref q.1) (qs.map λq=>Nk.ref q.1).toArray}):
 Nr (model prog w) A (ND.«list.sort» ⟨[.ref a],[]⟩) P E s:=by
 generalize hvs:(ps.map λq=>Nk.ref q.1)=vs at ho h⊢
 have lvs:vs.length=ps.length:=by rw [<-hvs,Ln]
 rw [list_sort_plain]
 have ha:=LG ho
 refine Nj (listItems_at ho rfl ?_)
 refine Nj (Ox ho rfl ?_)
 obtain⟨e1,ho1⟩:∃e1,(s.heap.update a (Obj.mapSeq λ_=> #[])).get? a=some (NY "list" #[] e1):=⟨_,get?_update_seq ho (λ_=> #[])⟩
 refine Nj (OQ ho1 rfl ?_)
 refine Nj (OI ?_)
 refine Nj (ON ?_)
 apply NA
 have ho6:(((s.heap.update a (Obj.mapSeq λ_=> #[])).push (NY "tuple" vs.toArray 0)).push (NY "list" #[] 0)).get? a=some (NY "list" #[] e1):=by
  rw [L9 _ _ _ (by rw [Qb,Mp];exact LK (Mn ha)),L9 _ _ _ (by rw [Mp];exact LK ha)]
  exact ho1
 show Nr (model prog w) A _ P E {s with heap:=((s.heap.update a (Obj.mapSeq λ_=> #[])).push (NY "tuple" vs.toArray 0)).push (NY "list" #[] 0)}
 dsimp only
 have hsz:vs.toArray.size=vs.length:=by simp
 have tv6:∀q∈ps,TpI (((s.heap.update a (Obj.mapSeq λ_=> #[])).push (NY "tuple" vs.toArray 0)).push (NY "list" #[] 0)) (.ref q.1) q.2 (R q.1):=λq hq=>by
  obtain⟨⟨b,o,us,ws,n,e0,h1,h2,h3,h4⟩,nb⟩:=tv q hq
  cases e0
  refine⟨q.1,o,us,ws,n,rfl,Lk _ (Lk _ ?_),h2,h3,h4⟩
  rw [Heap.get?_update_ne _ _ _ _ nb]
  exact h1
 by_cases h2:vs.toArray.size<2
 ·rw [RD h2,RD h2]
  refine Nj (Nl ?_)
  rw [StateT.run_pure]
  refine Nj (Nl ?_)
  dsimp only
  refine Nj (OQ ho6 rfl ?_)
  refine Nj (Ox ho6 rfl ?_ (hsz2:=by rw [Array.size_map];show(Rr vs).size<=_;rw [QN,Pc];lia))
  simp only [bne_self_eq_false,MC,if_false]
  apply Nl
  have e:((vs.toArray.zip vs.toArray).map (·.2))=vs.toArray:=by
   apply Array.toList_inj.mp
   rw [Array.toList_map,Array.toList_zip]
   exact List.map_snd_zip (Nat.le_refl _)
  have one:ps.Pairwise (λq r=>HT.aF q.2 r.2=true):=by
   rw [hsz,lvs] at h2
   match ps,h2 with
   | [],_=>exact .nil
   | [q],_=>exact LU _ _
  have:=h ps (List.Perm.refl _) one
  rw [hvs,<-e] at this
  exact this
 ·rw [RC h2,RC h2]
  obtain⟨fs,k,l,e⟩:=mU λq hq=>⟨tv6 q hq,by rw [tl q hq];exact hL⟩
  rw [hvs] at k
  have h2':2<=vs.length:=by lia
  refine Nj (kat_kind k (by lia) (T:=.type "int") (λf hf=>?_) (by decide) ?_)
  ·obtain⟨i,t,rfl⟩:=e f hf
   exact RB
  have key:∀i,i<vs.length->∃q,ps[i]? =some q/\vs.getD i Nk.none= .ref q.1/\(ps.map (·.2)).getD i []=q.2/\q∈ps:=λi hi=>by
   have hi':i<ps.length:=by lia
   refine⟨ps[i],Lo hi',?_,?_,List.getElem_mem hi'⟩
   ·simp [<-hvs,hi']
   ·simp [hi']
  let lt:Nat->Nat->Bool:=λi j=>HT.aF ((ps.map (·.2)).getD i []) ((ps.map (·.2)).getD j [])
  refine Nj (NC (kat_run (Q:=λst' s'=>∃p,(Ord vs.length p/\Up lt p vs.length)/\arrOf st'=p.map (kas_item (vs.toArray.zip vs.toArray))/\failedOf st'=none/\s'={s with heap:=((s.heap.update a (Obj.mapSeq λ_=> #[])).push (NY "tuple" vs.toArray 0)).push (NY "list" #[] 0)})
   (G:=λp s'=>(Ord vs.length p/\Up lt p vs.length)/\s'={s with heap:=((s.heap.update a (Obj.mapSeq λ_=> #[])).push (NY "tuple" vs.toArray 0)).push (NY "list" #[] 0)}) rfl h2' (by lia) (λp st' s' a1 a2 a3 a4=>⟨p,a4.1,a2,a3,a4.2⟩) ?_) ?_ λ_ _ e=>e)
  ·refine Go.wp (lt:=lt) (λi j hi hj C hC=>?_) (λp hp=>⟨hp,rfl⟩) (Ck (by lia) (λi j k=>fQ) (λi j hi hj hij=>io ?_) h2')
   ·obtain⟨q,g1,e1,e2,m1⟩:=key i hi
    obtain⟨r,g2,e3,e4,m2⟩:=key j hj
    show Nr (model prog w) A (keyLt' (tuples' true) (vs.getD i Nk.none) (vs.getD j Nk.none)) C _ _
    rw [e1,e3]
    refine Fx (tv6 q m1) (tv6 r m2) (by rw [tl q m1,tl r m2]) (by rw [(hM q m1).1,(hM r m2).1]) (hM q m1).2 (λz=>?_) ?_
    ·obtain⟨u1,g1⟩:=List.getElem?_eq_some_iff.mp g1
     obtain⟨u2,g2⟩:=List.getElem?_eq_some_iff.mp g2
     rcases Nat.lt_trichotomy i j with y | y | y
     ·have:=List.pairwise_iff_getElem.mp nd i j u1 u2 y
      rw [g1,g2] at this;exact absurd z this
     ·subst y
      rw [g1] at g2;rw [g2]
     ·have:=List.pairwise_iff_getElem.mp nd j i u2 u1 y
      rw [g1,g2] at this;exact absurd z.symm this
    have:lt i j=HT.aF q.2 r.2:=by show HT.aF _ _=_;rw [e2,e4]
    rw [<-this]
    exact hC
   ·obtain⟨q,g1,_,e2,_⟩:=key i hi
    obtain⟨r,g2,_,e4,_⟩:=key j hj
    rw [e2,e4]
    have g1:=List.getElem?_eq_some_iff.mp g1
    have g2:=List.getElem?_eq_some_iff.mp g2
    obtain⟨u1,g1⟩:=g1
    obtain⟨u2,g2⟩:=g2
    rcases Nat.lt_or_gt_of_ne hij with z | z
    ·have:=List.pairwise_iff_getElem.mp nd i j u1 u2 z
     rw [g1,g2] at this;exact this
    ·have:=List.pairwise_iff_getElem.mp nd j i u2 u1 z
     rw [g1,g2] at this;exact this.symm
  ·rintro⟨⟨⟩,st'⟩ s' ⟨p,⟨hp,up⟩,har,hf,rfl⟩
   have hout:=kat_snds rfl har
   have hps:=hp.size
   have dflt:∀i∈p.toList,i<ps.length:=λi hi=>by
    have:=(Array.perm_iff_toList_perm.mp hp).mem_iff.mp hi
    have:=List.mem_range.mp (by simpa using this)
    lia
   let g:Nat->Addr×List Int:=λi=>ps.getD i (0,[])
   have hq:(p.toList.map λi=>vs.getD i Nk.none)=(p.toList.map g).map λq=>Nk.ref q.1:=by
    rw [LW]
    refine Mt λi hi=>?_
    have:=dflt i hi
    simp [g,<-hvs,this]
   have hpm:(p.toList.map g).Perm ps:=by
    have h1:=(Array.perm_iff_toList_perm.mp hp).map g
    have h3:((List.range vs.length).map g)=ps:=by
     refine List.ext_getElem (by simp [lvs]) λi h1 h2=>?_
     simp [g,h2]
    rw [h3] at h1
    exact h1
   have hord:(p.toList.map g).Pairwise (λq r=>HT.aF q.2 r.2=true):=by
    rw [List.pairwise_iff_getElem]
    intro i j hi hj hij
    have hi':i<p.size:=by simpa using hi
    have hj':j<p.size:=by simpa using hj
    have:=up i j hij (by lia)
    have gi:∀k (hk:k<p.size),p.getD k 0=p[k]:=λk hk=>by simp [Array.getD,hk]
    rw [gi i hi',gi j hj'] at this
    have ki:=dflt p[i] (by simp)
    have kj:=dflt p[j] (by simp)
    simpa [lt,g,ki,kj] using this
   refine Nj (OQ ho6 rfl ?_)
   rw [hout,hq]
   refine Nj (Ox ho6 rfl ?_ (hsz2:=by rw [LB,Ln,hpm.length_eq,Pc];lia))
   rw [show failedOf st'=none from hf]
   simp only [bne_self_eq_false,MC,if_false]
   exact Nl (h _ hpm hord)
theorem vG{R:Addr->List V}(hh:A.handled=none)(hl:s.heap.IsList l (ps.map λq=>Nk.ref q.1).toArray)(tv:∀q∈ps,TpI s.heap (.ref q.1) q.2 (R q.1))(hM:∀q∈ps,(R q.1).length=M/\Flt (R q.1))(hL:0<L)(tl:∀q∈ps,q.2.length=L)(nd:ps.Pairwise (λq r=>q.2≠r.2))(h64:ps.length<64)
 (h:∀qs:List (Addr×List Int),qs.Perm ps->qs.Pairwise (λq r=>HT.aF q.2 r.2=true)->Q (.ref (s.heap.objs.size+1)) {s with heap:=sortedAll s.heap (ps.map λq=>Nk.ref q.1) (qs.map λq=>Nk.ref q.1).toArray}):
 Nr (model prog w) A (call (.builtin "sorted") [.ref l]) Q E s:=by
 apply Calls.call_function_entry Qy Qh Qi (Qj _)
 refine Nj (Nl ?_)
 refine Nj (collect_list hl ?_)
 refine Nj (ON ?_)
 generalize hvs:(ps.map λq=>Nk.ref q.1)=vs at hl h⊢
 have hsz:((s.heap.push (NY "list" #[] 0)).update s.heap.objs.size (Obj.mapSeq (· ++vs.toArray))).objs.size=s.heap.objs.size+1:=by
  rw [Mp,Qb]
 have hoL:(((s.heap.push (NY "list" #[] 0)).update s.heap.objs.size (Obj.mapSeq (· ++vs.toArray))).push (NY "list" vs.toArray 0)).get? (s.heap.objs.size+1)=some (NY "list" vs.toArray 0):=by
  rw [<-hsz];exact Lp _ rfl
 have keep:∀b o,s.heap.get? b=some o->(((s.heap.push (NY "list" #[] 0)).update s.heap.objs.size (Obj.mapSeq (· ++vs.toArray))).push (NY "list" vs.toArray 0)).get? b=some o:=λb o q=>by
  have hlt:=LG q
  rw [L9 _ _ _ (by rw [hsz];exact LK (Mn hlt)),Heap.get?_update_ne _ _ _ _ (LK hlt),L9 _ _ _ (LK hlt)]
  exact q
 show Nr _ _ _ _ _ {s with heap:=((s.heap.push (NY "list" #[] 0)).update s.heap.objs.size (Obj.mapSeq (· ++vs.toArray))).push (NY "list" vs.toArray 0)}
 rw [hsz]
 subst hvs
 refine Nj (NA (NF PP ⟨_,hoL,rfl⟩ Py (qb hh hoL (λq hq=>?_) hM hL tl nd h64 λqs hp ho=>⟨_,rfl,?_⟩) (PQ _)))
 ·obtain⟨b,o,us,ws,n,e0,h1,h2,h3,h4⟩:=tv q hq
  cases e0
  refine⟨⟨q.1,o,us,ws,n,rfl,keep _ _ h1,h2,h3,h4⟩,λe=>?_⟩
  rw [e] at h1
  exact absurd (LG h1) (by simp)
 ·exact Nl ⟨_,rfl,h qs hp ho⟩
end
def SN:Nat:=64
def xF:List V->Hp->VK->Prop:=λxs H Q=>∃(p:Addr) (ps:List (Addr×List Int)) (R:Addr->List V) (L M:Nat),xs= [.ref p]/\H p=some (.lst (ps.map λq=>.ref q.1))/\(∀q∈ps,H q.1=some (.tup (q.2.map V.int++R q.1))/\(R q.1).length=M/\Flt (R q.1))/\0<L/\(∀q∈ps,q.2.length=L)/\ps.Pairwise (λq r=>q.2≠r.2)/\ps.length<SN/\
 ∀(D:Addr) (H':Hp) (qs:List (Addr×List Int)),H D=none->Same H H'->H' D=some (.lst (qs.map λq=>.ref q.1))->qs.Perm ps->qs.Pairwise (λq r=>HT.aF q.2 r.2=true)->Q (.ref D) H'
def xG:List V->Hp->VK->Prop:=λxs H Q=>∃(p:Addr) (ps:List (Addr×List Int)) (L:Nat),xs= [.ref p]/\H p=some (.lst (ps.map λq=>.ref q.1))/\(∀q∈ps,H q.1=some (.tup (q.2.map V.int)))/\0<L/\(∀q∈ps,q.2.length=L)/\ps.Pairwise (λq r=>q.2≠r.2)/\ps.length<SN/\
 ∀(D:Addr) (H':Hp) (qs:List (Addr×List Int)),H D=none->Same H H'->H' D=some (.lst (qs.map λq=>.ref q.1))->qs.Perm ps->qs.Pairwise (λq r=>HT.aF q.2 r.2=true)->Q (.ref D) H'
theorem ul:∀{ps:List (Addr×List Int)} {us:List Nk},Vals (ps.map λq=>V.ref q.1) us->us=ps.map λq=>Nk.ref q.1
 | [],_,.nil=>rfl
 | q::ps,_,.cons h r=>by
  cases h
  rw [ul r];rfl
theorem rh:∀{xs ys:List V} {us:List Nk},Vals (xs++ys) us->∃u1 u2,us=u1++u2/\Vals xs u1/\Vals ys u2
 | [],_,us,h=>⟨[],us,rfl,.nil,h⟩
 | x::xs,_,_,.cons h r=>by
  obtain⟨u1,u2,rfl,r1,r2⟩:=rh r
  exact⟨_,_,rfl,.cons h r1,r2⟩
theorem pF:∀(ps:List (Addr×List Int)),Vals (ps.map λq=>V.ref q.1) (ps.map λq=>Nk.ref q.1)
 | []=>.nil
 | q::ps=>.cons rfl (pF ps)
theorem gN(hc:X.calm=true):bG X (.builtin "sorted") xF:=by
 intro RE s σ H xs us Q I r h
 obtain⟨p,ps,R,L,M,rfl,hp,ty,hL,tl,nd,h64,q⟩:=h
 obtain⟨u,rfl,ru⟩:=fF r
 cases ru
 obtain⟨its,rv,pl,hz⟩:=I.list (SqL.of hp)
 have ei:=ul rv
 subst ei
 have tv:∀q∈ps,TpI s.heap (.ref q.1) q.2 (R q.1):=λq hq=>by
  obtain⟨_,us,rt,o,e1,e2,n,e3⟩:=(I.hok q.1 _ (ty q hq).1)
  obtain⟨u1,u2,rfl,r1,r2⟩:=rh rt
  exact⟨q.1,o,u1,u2,n,rfl,e1,e2,e3,jr r1,r2⟩
 refine vG (I.ok.hd hc) pl.isList tv (λq hq=>(ty q hq).2) hL tl nd h64 λqs hpm ho=>?_
 obtain⟨e,he⟩:=Qg s.heap (ps.map λq=>Nk.ref q.1) (qs.map λq=>Nk.ref q.1).toArray
 have fr:=I.hok.fresh (MS _)
 have lz:=hpm.length_eq
 have I2:=I.laid (o:=.lst (qs.map λq=>.ref q.1)) (t':=s.toks) (λb u e=>P2 e) (MS _) (⟨by rw [Ln,lz];rw [Ln] at hz;exact hz,_,e,pF qs,he⟩)
 exact⟨.ref (s.heap.objs.size+1),_,I2,rfl,q _ _ _ fr (bh fr _) aB hpm ho⟩
theorem j8(hc:X.calm=true):bG X (.builtin "sorted") xG:=by
 intro RE s σ H xs us Q I r h
 obtain⟨p,ps,L,rfl,hp,ty,h⟩:=h
 exact gN hc RE s σ H _ us Q I r ⟨p,ps,λ_=>[],L,0,rfl,hp,λq hq=>⟨by rw [LQ];exact ty q hq,rfl,λ_ z=>absurd z Lr⟩,h⟩
end L2
theorem L2.exBl{b:Bool}{p:Bool->Prop}:(∃c,L2.V.bl b=L2.V.bl c/\p c)=p b:=propext ⟨λ⟨_,e,h⟩=>(L2.V.bl.inj e)▸h,λh=>⟨_,rfl,h⟩⟩
theorem L2.exIn{b:Int}{p:Int->Prop}:(∃c,L2.V.int b=L2.V.int c/\p c)=p b:=propext ⟨λ⟨_,e,h⟩=>(L2.V.int.inj e)▸h,λh=>⟨_,rfl,h⟩⟩
theorem L2.exIn1{b:Int}{α:Sort _}{p:Int->α->Prop}:(∃c x,L2.V.int b=L2.V.int c/\p c x)=∃x,p b x:=propext ⟨λ⟨_,x,e,h⟩=>⟨x,(L2.V.int.inj e)▸h⟩,λ⟨x,h⟩=>⟨_,x,rfl,h⟩⟩
theorem L2.exRf{b:NH}{p:NH->Prop}:(∃c,L2.V.ref b=L2.V.ref c/\p c)=p b:=propext ⟨λ⟨_,e,h⟩=>(L2.V.ref.inj e)▸h,λh=>⟨_,rfl,h⟩⟩
theorem L2.exRf1{b:NH}{α:Sort _}{p:NH->α->Prop}:(∃c x,L2.V.ref b=L2.V.ref c/\p c x)=∃x,p b x:=propext ⟨λ⟨_,x,e,h⟩=>⟨x,(L2.V.ref.inj e)▸h⟩,λ⟨x,h⟩=>⟨_,x,rfl,h⟩⟩
theorem L2.exRf2{b:NH}{α β:Sort _}{p:NH->α->β->Prop}:(∃c x y,L2.V.ref b=L2.V.ref c/\p c x y)=∃x y,p b x y:=propext ⟨λ⟨_,x,y,e,h⟩=>⟨x,y,(L2.V.ref.inj e)▸h⟩,λ⟨x,y,h⟩=>⟨_,x,y,rfl,h⟩⟩
theorem L2.exRf3{b:NH}{α β γ:Sort _}{p:NH->α->β->γ->Prop}:(∃c x y z,L2.V.ref b=L2.V.ref c/\p c x y z)=∃x y z,p b x y z:=propext ⟨λ⟨_,x,y,z,e,h⟩=>⟨x,y,z,(L2.V.ref.inj e)▸h⟩,λ⟨x,y,z,h⟩=>⟨_,x,y,z,rfl,h⟩⟩
theorem L2.exSt{b:PK}{p:PK->Prop}:(∃c,L2.V.str b=L2.V.str c/\p c)=p b:=propext ⟨λ⟨_,e,h⟩=>(L2.V.str.inj e)▸h,λh=>⟨_,rfl,h⟩⟩
theorem L2.exSo{α:Type}{b:α}{p:α->Prop}:(∃c,some b=some c/\p c)=p b:=propext ⟨λ⟨_,e,h⟩=>(Option.some.inj e)▸h,λh=>⟨_,rfl,h⟩⟩
theorem L2.qVar{i:Nat}{σ:L2.St}{H:L2.Hp}{Q:L2.VK}{v:L2.V}(h:σ[i]? =some (some v)):L2.iF i σ H Q=Q v H:=propext ⟨λ⟨_,e,q⟩=>by rw [h] at e;cases e;exact q,λq=>⟨_,h,q⟩⟩
theorem L2.and_t{a b:Prop}(h:a=True):(a/\b)=b:=by rw [h,true_and]
theorem L2.and_f{a b:Prop}(h:a=False):(a/\b)=False:=by rw [h,false_and]
theorem L2.and_r{a b a1 a2:Prop}(h:a=(a1/\a2)):(a/\b)=(a1/\(a2/\b)):=by rw [h,and_assoc]
theorem L2.and_l{a b a':Prop}(h:a=a'):(a/\b)=(a'/\b):=by rw [h]
open Lean Meta Simp in
simproc_decl quickVar (L2.iF _ _ _ _) := fun e => do
  let_expr L2.iF i s H Q := e | return .continue
  let l ← mkAppM ``GetElem?.getElem? #[s, i]
  let w ← whnfD l
  let_expr Option.some _ o := w | return .continue
  let o' ← whnfD o
  let_expr Option.some _ v := o' | return .continue
  return .visit { expr := (mkApp2 Q v H).headBeta, proof? := some (mkApp6 (mkConst ``L2.qVar) i s H Q v (← mkEqRefl l)) }
open Lean Meta Simp in
simproc_decl lazyAnd (_ ∧ _) := fun e => do
  let_expr And a b := e | return .continue
  let r ← simp a
  let a' := r.expr
  if a'.isTrue then return .visit { expr := b, proof? := some (mkApp3 (mkConst ``L2.and_t) a b (← r.getProof)) }
  if a'.isFalse then return .done { expr := mkConst ``False, proof? := some (mkApp3 (mkConst ``L2.and_f) a b (← r.getProof)) }
  match_expr a' with
  | And a1 a2 => return .visit { expr := mkAnd a1 (mkAnd a2 b), proof? := some (mkApp5 (mkConst ``L2.and_r) a b a1 a2 (← r.getProof)) }
  | _ =>
    match r.proof? with
    | none => return .done { expr := mkAnd a' b }
    | some h => return .done { expr := mkAnd a' b, proof? := some (mkApp4 (mkConst ``L2.and_l) a b a' h) }
theorem L2.ite_c{α:Sort _}{c c':Prop}[d:Decidable c][d':Decidable c'](h:c=c')(x y:α):ite c x y=ite c' x y:=by subst h;congr
open Lean Meta Simp in
simproc_decl lazyIte (ite _ _ _) := fun e => do
  let_expr ite α c d x y := e | return .continue
  let r ← simp c
  if r.expr.isTrue || r.expr.isFalse then return .continue
  if r.expr == c then return .done { expr := e }
  let d' ← synthInstance (mkApp (mkConst ``Decidable) r.expr)
  return .done { expr := mkApp5 e.consumeMData.getAppFn α r.expr d' x y, proof? := some (mkAppN (mkConst ``L2.ite_c e.consumeMData.getAppFn.constLevels!) #[α, c, r.expr, d, d', ← r.getProof, x, y]) }
open Lean Meta Simp in
simproc_decl lazyAll (_) := fun e => do
  if e.isForall then return .done { expr := e } else return .continue
def L2.rdPost : String := "L2.xG L2.Eh L2.xD L2.Bp L2.qz L2.qW L2.qX L2.zv L2.zw L2.Fr L2.Fs L2.HO.ins.injEq L2.uj L2.Ft L2.xB L2.uh L2.Ei L2.Fq L2.Bm L2.xv L2.Bo L2.xw L2.gM L2.qy Option.join_some L2.zj L2.tBM L2.tyV L2.Bj L2.El L2.Bl L2.tMs L2.Bk L2.DW L2.uW L2.A2 L2.uY L2.vg L2.tB L2.tOp L2.tUn L2.rU L2.iF L2.tC L2.rI0 L2.rI L2.uX L2.qv L2.qt L2.lU L2.ie L2.DT L2.A3 L2.DR L2.jq L2.dI L2.Bd L2.Be L2.xr L2.Bf L2.kP L2.pairsOf L2.xi Option.bind_some L2.zh L2.tCB L2.DM L2.tOr L2.DN L2.A0 L2.DO L2.vz L2.rEq L2.rNe L2.BZ L2.B0 L2.B1 L2.B2 L2.B3 L2.B4 L2.B5 L2.B6 L2.Ez L2.EA L2.EB L2.EC L2.B9 L2.zf L2.ED L2.EE L2.Im L2.EF L2.Bc L2.EG L2.tSl L2.A8 L2.tX L2.Bg L2.Bh L2.dX L2.aB List.all_cons List.all_nil Bool.and_true Bool.true_and Bool.and_self Bool.or_false Bool.or_true Bool.false_or Bool.true_or L2.gb HT.sIx L2.GZ L2.G0 L2.Hb L2.Hc L2.Bi L2.He L2.Hf L2.Hg L2.V.ty.injEq L2.EH L2.EI L2.EJ L2.EK L2.EL L2.EM L2.EN L2.EO L2.EQ L2.ER L2.ES L2.ET L2.EU L2.EV L2.EW L2.EX L2.EY L2.EZ L2.E1 L2.E2 L2.E3 L2.E4 L2.E5 L2.E6 L2.E7 L2.E8 L2.E9 L2.Fa L2.Fb L2.Fc L2.Fd L2.Fe L2.Ff L2.Fg L2.Fh L2.Fi L2.Fj L2.Fk L2.Fl L2.Fm L2.Fn L2.Fo L2.mn1 L2.mn2 List.drop_succ_cons List.drop_zero List.take_succ_cons List.take_zero Nat.reduceEqDiff not_false_eq_true L2.Bb L2.xq L2.B7 L2.B8 List.cons.injEq L2.xh L2.start List.map_cons List.map_nil List.length_cons List.length_nil List.replicate List.cons_append List.nil_append List.getElem?_cons_zero List.getElem?_cons_succ List.set_cons_zero List.set_cons_succ Option.some.injEq L2.V.int.injEq L2.V.str.injEq L2.V.ref.injEq L2.V.bl.injEq L2.HO.tup.injEq L2.HO.lst.injEq L2.HO.dK.injEq reduceCtorEq exists_eq_left' exists_and_left exists_eq_left exists_eq_right L2.Ec L2.CMul L2.Eb decide_eq_true_eq L2.qR String.reduceEq decide_true decide_false Bool.false_eq_true if_true if_false RD and_true true_and or_false false_or or_true true_or and_false false_and exists_const exists_false Bool.not_true Bool.not_false L2.sz0 L2.sz1 L2.sz2 L2.sz3 L2.sz4 L2.sz5 L2.sz6 L2.Ba L2.GV L2.GW L2.GX L2.GY Nat.reduceAdd Nat.reduceSub Nat.zero_add Nat.reduceLeDiff Int.reducePow Int.reduceToNat Int.reduceLT Int.reduceLE Int.reduceNeg L2.na2 L2.Ik Nat.reducePow Nat.reduceLT"
def L2.lzPre : String := "lazyAnd reduceIte lazyIte exists_eq_left exists_eq_left' reduceIte L2.exBl L2.exIn L2.exRf L2.exSt L2.exSo quickVar L2.exIn1 L2.exRf1 L2.exRf2 L2.exRf3"
def L2.rdPre : String := "exists_eq_left exists_eq_left' reduceIte L2.exBl L2.exIn L2.exRf L2.exSt L2.exSo quickVar L2.exIn1 L2.exRf1 L2.exRf2 L2.exRf3"
open Lean in
def L2.rdArgs (pre : String) : MacroM (TSyntaxArray ``Lean.Parser.Tactic.simpLemma) := do
  let p ← (L2.rdPost.splitOn " ").toArray.mapM fun n => `(Lean.Parser.Tactic.simpLemma| $(mkIdent n.toName):ident)
  let a ← (pre.splitOn " ").toArray.mapM fun n => `(Lean.Parser.Tactic.simpLemma| ↓ $(mkIdent n.toName):ident)
  return a ++ p
namespace L2
namespace Tim
open PySem PySem.Spec PyProof.Rows PySem.W
abbrev Kd:Type:=Rw
def g(xs:Array Kd)(i:Nat):Kd:=xs.getD i (Nk.none,Nk.none)
theorem xH{xs:Array Kd}{i:Nat}(h:i<xs.size):xs[i]? =some (g xs i):=by
 unfold g;simp [Array.getD,h]
theorem Bq{xs:Array Kd}{i:Nat}(h:i<xs.size):g xs i∈xs.toList:=by
 have e:g xs i=xs[i]:=by unfold g;simp [Array.getD,h]
 rw [e];simp
structure Env(M:Qx)(A:Nw)(s:Nn)(κ:Oy)(D:Kd->Prop)(L:Kd->Kd->Bool):Prop where
 ask:∀x y,D x->D y->Nr M A (keyLt' κ x.1 y.1) (λb s'=>s'=s/\b=L x y) (λ_ _=>False) s
 asym:∀x y,L x y=true->L y x=false
 tr:∀x y z,L y x=false->L z y=false->L z x=false
abbrev S(κ:Oy)(xs:Array Kd)(p:Array (Nat×Nat×Nat))(m:Nat):Oz:=Oz.mk' κ xs p m none
section
variable{M:Qx}{A:Nw}{E:Nk->Nn->Prop}{s:Nn}{κ:Oy}{D:Kd->Prop}{L:Kd->Kd->Bool}
theorem Env.rfl'(V:Env M A s κ D L)(x:Kd):L x x=false:=by
 cases h:L x x with
 | false=>rfl
 | true=>have:=V.asym x x h;rw [h] at this;cases this
theorem Env.lt(V:Env M A s κ D L){x y:Kd}(hx:D x)(hy:D y){xs:Array Kd}{p:Array (Nat×Nat×Nat)}{m:Nat}{Q:Option Bool->Oz->Prop}(h:Q (some (L x y)) (S κ xs p m)):wpS M A E s (lt' x y) Q (S κ xs p m):=by
 rw [lt'_eq]
 refine Op (Re ?_)
 refine Op (wpS_lift (Od (NC (V.ask x y hx hy) (λb s' hb=>?_) λ_ _ hF=>hF.elim)))
 obtain⟨rfl,rfl⟩:=hb
 exact⟨rfl,OY h⟩
theorem Br{a:Array Kd}{i:Nat}(hi:i<a.size){st:Oz}{Q:Kd->Oz->Prop}(h:Q (g a i) st):wpS M A E s (elem' a i) Q st:=by
 rw [elem'_eq,xH hi]
 exact OY h
theorem Env.ltAt(V:Env M A s κ D L){i j:Nat}{xs:Array Kd}{p:Array (Nat×Nat×Nat)}{m:Nat}{Q:Option Bool->Oz->Prop}(hD:∀x∈xs.toList,D x)(hi:i<xs.size)(hj:j<xs.size)(h:Q (some (L (g xs i) (g xs j))) (S κ xs p m)):wpS M A E s (ltAt' i j) Q (S κ xs p m):=by
 rw [ltAt'_eq]
 refine Op (Re ?_)
 exact Op (Br hi (Op (Br hj (V.lt (hD _ (Bq hi)) (hD _ (Bq hj)) h))))
end
end Tim
namespace Tim
open PySem PySem.Spec PyProof.Rows PySem.W
def Ri(L:Kd->Kd->Bool)(l:List Kd):Prop:=l.Pairwise λx y=>L y x=false
section
variable{L:Kd->Kd->Bool}{a b o:List Kd}{i j:Nat}
end
theorem cv{α:Type}{d:Decidable c}{a b b':α}(h:b=b'): @ite α c d a b= @ite α c d a b':=by rw [h]
theorem vH{α:Type}{d:Decidable c}{a a' b b':α}(h':a=a')(h:b=b'): @ite α c d a b= @ite α c d a' b':=by simp_all
theorem bnd{m m':StateT Oz Sem α}{f f':α->StateT Oz Sem β}(hm:m=m')(h:∀x,f x=f' x):(m >>= f)=(m' >>= f'):=by rw [hm,funext h]
theorem lp{r:Std.Legacy.Range}{c:β}{f f':Nat->β->StateT Oz Sem (ForInStep β)}(h:∀i c,f i c=f' i c):forIn r c f=forIn r c f':=by rw [show f=f' from funext λi=>funext λc=>h i c]
end Tim
namespace Tim
open PySem PySem.Spec PyProof.Rows PySem.W
def Iv(L:Kd->Kd->Bool)(a b w:Array Kd):Prop:=Ri L w.toList/\w.toList.Perm (a.toList++b.toList)
section
variable{L:Kd->Kd->Bool}{a b o:Array Kd}{i j:Nat}
end
section
variable{M:Qx}{A:Nw}{E:Nk->Nn->Prop}{s:Nn}{κ:Oy}{D:Kd->Prop}{L:Kd->Kd->Bool}{a b o:Array Kd}{i j N:Nat}{xs:Array Kd}{p:Array (Nat×Nat×Nat)}{m:Nat}
end
end Tim
namespace Tim
open PySem PySem.Spec PyProof.Rows PySem.W
abbrev Hi1:=Option (Array Kd)×Nat×Nat×Array Kd×Nat×Nat
abbrev Hi2:=Option (Array Kd)×Nat×Nat×Array Kd×Nat×Nat×Nat
end Tim
namespace Tim
open PySem PySem.Spec PyProof.Rows PySem.W
structure MH(L:Kd->Kd->Bool)(a b o:List Kd)(i j:Nat):Prop where
 ra:Ri L (a.take i++o)
 rb:Ri L (b.take j++o)
 pm:(a.take i++b.take j++o).Perm (a++b)
section
variable{L:Kd->Kd->Bool}{a b o:Array Kd}{i j:Nat}
end
def OKh(L:Kd->Kd->Bool)(a b:Array Kd)(N:Nat)(r:Option (Array Kd))(o:Array Kd)(i j:Nat):Prop:=match r with
 | some w=>Iv L a b w
 | none=>MH L a.toList b.toList o.toList.reverse i j/\1<=i/\i<=a.size/\2<=j/\j<=b.size/\N+i+j<=a.size+b.size
section
variable{M:Qx}{A:Nw}{E:Nk->Nn->Prop}{s:Nn}{κ:Oy}{D:Kd->Prop}{L:Kd->Kd->Bool}{a b o:Array Kd}{i j N:Nat}{xs:Array Kd}{p:Array (Nat×Nat×Nat)}{m:Nat}
def H2(κ:Oy)(L:Kd->Kd->Bool)(a b xs:Array Kd)(p:Array (Nat×Nat×Nat))(N:Nat)(r:ForInStep Hi2)(st:Oz):Prop:=(∃m',st=S κ xs p m')/\match r with
 | .done c=>OKh L a b N c.1 c.2.2.2.1 c.2.1 c.2.2.1
 | .yield c=>c.1=none/\OKh L a b N none c.2.2.2.1 c.2.1 c.2.2.1
def H1(κ:Oy)(L:Kd->Kd->Bool)(a b xs:Array Kd)(p:Array (Nat×Nat×Nat))(m:Nat)(N:Nat)(r:ForInStep Hi1)(st:Oz):Prop:=st=S κ xs p m/\match r with
 | .done c=>OKh L a b N c.1 c.2.2.2.1 c.2.1 c.2.2.1
 | .yield c=>c.1=none/\OKh L a b N none c.2.2.2.1 c.2.1 c.2.2.1
end
end Tim
namespace Tim
open PySem PySem.Spec PyProof.Rows PySem.W
section
variable{M:Qx}{A:Nw}{E:Nk->Nn->Prop}{s:Nn}{κ:Oy}{D:Kd->Prop}{L:Kd->Kd->Bool}{xs:Array Kd}{p:Array (Nat×Nat×Nat)}{m:Nat}
def RI(L:Kd->Kd->Bool)(xs:Array Kd)(lo n:Nat):Prop:=∀i j,lo<=i->i<=j->j<lo+n->L (g xs j) (g xs i)=false
end
end Tim
namespace Tim
open PySem PySem.Spec PyProof.Rows PySem.W
abbrev As:=Option (Option Nat)×Nat
abbrev Ds:=Option (Option Nat)×Nat×Nat
def zB(lo a z:Nat):StateT Oz Sem As:=forIn [a:z] ((none,a):As) λ_ c=>do
 let q <-ltAt' (lo+c.2) (lo+c.2-1)
 match q with
 | some sm=>if sm=true then pure (.done (none,c.2)) else pure (.yield (none,c.2+1))
 | _=>pure (.done (some none,c.2))
def Bs(lo n z:Nat):StateT Oz Sem (Option Nat):=do
 Pe lo (lo+n)
 let c <-zB lo n z
 match c.1 with
 | some r=>pure r
 | none=>pure (some c.2)
def Iw(lo n z:Nat):StateT Oz Sem Ds:=forIn [n:z] ((none,n,0):Ds) λ_ c=>do
 let q <-ltAt' (lo+c.2.1) (lo+c.2.1-1)
 match q with
 | some sm=>
  if sm=true then
   if c.2.2>0 then do
    Pe (lo+c.2.1-(c.2.2+1)) (lo+c.2.1)
    pure (.yield (none,c.2.1+1,0))
   else pure (.yield (none,c.2.1+1,0))
  else do
   let q <-ltAt' (lo+c.2.1-1) (lo+c.2.1)
   match q with
   | some la=>if la=true then pure (.done (none,c.2.1,c.2.2)) else pure (.yield (none,c.2.1+1,c.2.2+1))
   | _=>pure (.done (some none,c.2.1,c.2.2))
 | _=>pure (.done (some none,c.2.1,c.2.2))
def Fy(lo n z:Nat):StateT Oz Sem (Option Nat):=do
 liftM (rule "list.sort.descending-run")
 let c <-Iw lo (n+1) z
 match c.1 with
 | some r=>pure r
 | none=>
  if c.2.2>0 then do
   Pe (lo+c.2.1-(c.2.2+1)) (lo+c.2.1)
   Bs lo c.2.1 z
  else Bs lo c.2.1 z
theorem xI(lo z:Nat):countRun' lo z=(do
 let c <-zB lo 1 z
 match c.1 with
 | some r=>pure r
 | none=>
  if (c.2==z)=true then pure (some c.2)
  else if c.2>1 then do
   let q <-ltAt' lo (lo+c.2-1)
   match q with
   | some ro=>if ro=true then pure (some c.2) else do
    Pe lo (lo+c.2)
    Fy lo c.2 z
   | _=>pure none
  else Fy lo c.2 z):=by
 refine bnd rfl λc=>?_
 obtain⟨r,c⟩:=c
 cases r with
 | some r=>rfl
 | none=>
  refine cv (vH (bnd rfl λq=>?_) ?_)
  ·cases q with
   | none=>rfl
   | some q=>exact cv (bnd rfl λ_=>by (refine bnd rfl λ_=>?_;refine bnd rfl λc=>?_;obtain⟨r,c1,c2⟩:=c;(cases r;rotate_left;rfl);(refine vH (bnd rfl λ_=>?_) ?_<;>(refine bnd rfl λ_=>?_;refine bnd rfl λc=>?_;obtain⟨r,c⟩:=c;cases r<;>rfl))))
  ·(refine bnd rfl λ_=>?_;refine bnd rfl λc=>?_;obtain⟨r,c1,c2⟩:=c;(cases r;rotate_left;rfl);(refine vH (bnd rfl λ_=>?_) ?_<;>(refine bnd rfl λ_=>?_;refine bnd rfl λc=>?_;obtain⟨r,c⟩:=c;cases r<;>rfl)))
section
variable{M:Qx}{A:Nw}{E:Nk->Nn->Prop}{s:Nn}{κ:Oy}{D:Kd->Prop}{L:Kd->Kd->Bool}{xs xs':Array Kd}{p:Array (Nat×Nat×Nat)}{m lo:Nat}
theorem RI.step(V:Env M A s κ D L)(h:RI L xs lo n)(h1:1<=n)(hl:L (g xs (lo+n)) (g xs (lo+n-1))=false):RI L xs lo (n+1):=by
 intro i j i1 ij j1
 by_cases c:j<lo+n
 ·exact h _ _ i1 ij c
 ·have e:j=lo+n:=by lia
  subst e
  by_cases c2:i=lo+n
  ·rw [c2];exact V.rfl' _
  ·exact V.tr _ _ _ (h i (lo+n-1) i1 (by lia) (by lia)) hl
theorem Cl(V:Env M A s κ D L)(hD:∀x∈xs.toList,D x)(h1:1<=a)(ha:a<=z)(hz:lo+z<=xs.size)(hr:RI L xs lo a)
 (h:∀n,a<=n->n<=z->RI L xs lo n->(n=z\/L (g xs (lo+n)) (g xs (lo+n-1))=true)->Q (none,n) (S κ xs p m)):wpS M A E s (zB lo a z) Q (S κ xs p m):=by
 refine Qk (I:=λt c st=>st=S κ xs p m/\c=(none,t)/\RI L xs lo t) ?_ ?_ ⟨rfl,rfl,hr⟩
 ·rintro t c st t1 t2 ⟨rfl,rfl,hr⟩
  refine Op (V.ltAt hD (by lia) (by lia) ?_)
  cases b:L (g xs (lo+t)) (g xs (lo+t-1)) with
  | true=>exact OY (h t t1 (by lia) hr (.inr b))
  | false=>exact OY ⟨rfl,rfl,hr.step V (by lia) b⟩
 ·grind
end
end Tim
namespace Tim
open PySem PySem.Spec PyProof.Rows PySem.W
abbrev Pd:=Array (Nat×Nat×Nat)
def srM(pw:Nat):StateT Oz Sem (ForInStep (Option Unit×Unit)):=do
 let st <-get
 match (if (Ol st).size>1 then (Ol st)[(Ol st).size-2]? else none) with
 | some (_,_,ol)=>
  if ol<=pw then pure (.done (none,()))
  else do
   let b <-mergeAt' ((Ol st).size-2)
   if (!b)=true then pure (.done (some (),())) else pure (.yield (none,()))
 | _=>pure (.done (none,()))
def srC(lo n:Nat):StateT Oz Sem (ForInStep (Option Unit×Nat)):=do
 modify λs=>setPending s ((Ol s).push (lo,n,0))
 pure (.yield (none,lo+n))
def srB(z lo n:Nat):StateT Oz Sem (ForInStep (Option Unit×Nat)):=do
 let st <-get
 match (Ol st).back? with
 | some (s1,n1,_)=>do
  let c <-forIn [0:z] ((none,()):Option Unit×Unit) λ_ _=>srM (power' z (2*s1+n1) (2*s1+n1+n1+n) z)
  match c.1 with
  | some r=>pure (.done (some r,lo))
  | none=>do
   modify λs=>setPending s ((Ol s).modify ((Ol s).size-1) λ(st,len,_)=>(st,len,power' z (2*s1+n1) (2*s1+n1+n1+n) z))
   srC lo n
 | _=>srC lo n
def srA(z mr:Nat)(c:Option Unit×Nat):StateT Oz Sem (ForInStep (Option Unit×Nat)):=
 if c.2>=z then pure (.done (none,c.2))
 else do
  let q <-countRun' c.2 (z-c.2)
  match q with
  | some n=>
   if n<mr then do
    liftM (rule "list.sort.binary-insertion")
    let b <-binarySort' c.2 (min (z-c.2) mr) n
    if (!b)=true then pure (.done (some (),c.2)) else srB z c.2 (min (z-c.2) mr)
   else srB z c.2 n
  | _=>pure (.done (some (),c.2))
def srI(p:Pd):Nat:=if Option.any (λx=>decide (x<p[p.size-2+1]?.elim 0 λx=>x.snd.fst)) (if p.size-2>0 then Option.map (λx=>x.snd.fst) p[p.size-2-1]? else none)=true then p.size-2-1 else p.size-2
def srF:StateT Oz Sem (ForInStep (Option Unit×Unit)):=do
 let st <-get
 if (Ol st).size<=1 then pure (.done (none,()))
 else do
  let b <-mergeAt' (srI (Ol st))
  if (!b)=true then pure (.done (some (),())) else pure (.yield (none,()))
theorem zC:sortRuns'=(do
 let st <-get
 let c <-forIn [0:(arrOf st).size] ((none,0):Option Unit×Nat) λ_=>srA (arrOf st).size (minRun' (arrOf st).size (arrOf st).size 0)
 match c.1 with
 | some r=>pure r
 | none=>do
  let d <-forIn [0:(arrOf st).size] ((none,()):Option Unit×Unit) λ_ _=>srF
  match d.1 with
  | some r=>pure r
  | none=>pure ()):=by
 rw [sortRuns'_eq]
 refine bnd rfl λst=>?_
 refine bnd (lp λ_ c=>?_) λc=>?_
 ·refine cv (bnd rfl λq=>?_)
  cases q with
  | none=>rfl
  | some n=>
   refine vH (bnd rfl λ_=>bnd rfl λb=>cv ?_) ?_
   ·refine bnd rfl λst'=>?_
    cases (Ol st').back? with
    | none=>rfl
    | some x=>exact bnd (lp λ_ _=>rfl) λd=>(by obtain⟨r,d⟩:=d;cases r<;>rfl)
   ·refine bnd rfl λst'=>?_
    cases (Ol st').back? with
    | none=>rfl
    | some x=>exact bnd (lp λ_ _=>rfl) λd=>(by obtain⟨r,d⟩:=d;cases r<;>rfl)
 ·obtain⟨r,c⟩:=c
  cases r with
  | some r=>rfl
  | none=>exact bnd (lp λ_ _=>rfl) λd=>(by obtain⟨r,d⟩:=d;cases r<;>rfl)
def Ch(L:Kd->Kd->Bool)(xs:Array Kd):Nat->List (Nat×Nat×Nat)->Nat->Prop
 | o,[],e=>o=e
 | o,q::l,e=>q.1=o/\1<=q.2.1/\RI L xs o q.2.1/\Ch L xs (o+q.2.1) l e
section
variable{L:Kd->Kd->Bool}{xs xs':Array Kd}
end
section
variable{M:Qx}{A:Nw}{E:Nk->Nn->Prop}{s:Nn}{κ:Oy}{D:Kd->Prop}{L:Kd->Kd->Bool}{xs:Array Kd}{p:Pd}{m:Nat}
structure At(D:Kd->Prop)(L:Kd->Kd->Bool)(a₀:List Kd)(κ:Oy)(lo:Nat)(xs:Array Kd)(p:Pd):Prop where
 pm:xs.toList.Perm a₀
 ch:Ch L xs 0 p.toList lo
 le:lo<=xs.size
end
end Tim
namespace Tim
open PySem PySem.Spec PyProof.Rows PySem.W
section
variable{M:Qx}{A:Nw}{E:Nk->Nn->Prop}{s:Nn}{κ:Oy}{D:Kd->Prop}{L:Kd->Kd->Bool}{xs:Array Kd}{m:Nat}
theorem Bt:∀(f n r:Nat),minRun' f n r<=n+r
 | 0,n,r=>Nat.le_refl _
 | f+1,n,r=>by
  rw [minRun'_succ]
  by_cases c:n<64
  ·simp_all
  ·rw [RC c]
   have:=Bt f (n/2) (max r (n%2))
   lia
theorem Env.rise(V:Env M A s κ D L)(hD:∀x∈xs.toList,D x)(hs:RI L xs 0 xs.size)(h2:2<=xs.size)(h:∀p',Q () (S κ xs p' m)):wpS M A E s sortRuns' Q (S κ xs #[] m):=by
 rw [zC]
 refine Op (Re ?_)
 show wpS M A E s (do
  let c <-forIn [0:xs.size] ((none,0):Option Unit×Nat) λ_=>srA xs.size (minRun' xs.size xs.size 0)
  match c.1 with
  | some r=>pure r
  | none=>do
   let d <-forIn [0:xs.size] ((none,()):Option Unit×Unit) λ_ _=>srF
   match d.1 with
   | some r=>pure r
   | none=>pure ()) Q _
 have mr:=Bt xs.size xs.size 0
 refine Op (wpS_mono (Qk (I:=λt c st=>(t=0/\c=(none,0)/\st=S κ xs #[] m)\/(t=1/\c=(none,xs.size)/\st=S κ xs #[(0,xs.size,0)] m)) (Q:=λc st=>c=(none,xs.size)/\st=S κ xs #[(0,xs.size,0)] m) ?_ ?_ (.inl ⟨rfl,rfl,rfl⟩)) ?_)
 ·rintro t c st-t2 (⟨rfl,rfl,rfl⟩ | ⟨rfl,rfl,rfl⟩)
  ·unfold srA
   dsimp only
   rw [RC (by lia)]
   apply Op
   rw [xI]
   refine Op (Cl V hD (Nat.le_refl 1) (by lia) (by lia) (λi j i1 ij j1=>by rw [show i=j by lia];exact V.rfl' _) λn n1 n2 ri ho=>?_)
   have e:n=xs.size:=by
    rcases ho with ho | ho
    ·lia
    ·by_cases c:n=xs.size
     ·exact c
     ·rw [hs (0+n-1) (0+n) (by lia) (by lia) (by lia)] at ho;cases ho
   subst e
   rw [RD (beq_iff_eq.mpr (by lia))]
   apply OY
   dsimp only
   rw [RC (by lia)]
   refine Op (Re ?_)
   refine Op (wpS_modify ?_)
   exact OY (.inr ⟨rfl,by simp,rfl⟩)
  ·unfold srA
   rw [RD (Nat.le_refl _)]
   exact OY ⟨rfl,rfl⟩
 ·grind
 rintro c st ⟨rfl,rfl⟩
 refine Op (wpS_mono (Qk (I:=λt c st=>t=0/\c=(none,())/\st=S κ xs #[(0,xs.size,0)] m) (Q:=λc st=>c=(none,())/\st=S κ xs #[(0,xs.size,0)] m) ?_ ?_ ⟨rfl,rfl,rfl⟩) ?_)
 ·rintro t c st-t2 ⟨rfl,rfl,rfl⟩
  refine Op (Re ?_)
  exact OY ⟨rfl,rfl⟩
 ·rintro c st ⟨e,_⟩;lia
 rintro c st ⟨rfl,rfl⟩
 exact OY (h _)
end
end Tim
open PySem PySem.Spec PyProof.Rows PySem.W
section
variable{prog:Np}{w:Nu}{A:Nw}{E:Nk->Nn->Prop}{s:Nn}
def vI(k:Tim.Kd):Int:=match k.1 with
 | .int i _=>i
 | _=>0
theorem ints_env:Tim.Env (model prog w) A s oneType' (λx=>∃i t,x.1= .int i t) (λx y=>decide (vI x<vI y)) where
 ask:=by
  rintro⟨x,x'⟩ ⟨y,y'⟩ ⟨i,t,ex⟩ ⟨j,u,ey⟩
  subst ex ey
  exact kat_lt_int ⟨rfl,rfl⟩
 asym:=λx y h=>by
  have:=of_decide_eq_true h
  exact decide_eq_false (by lia)
 tr:=λx y z h1 h2=>by
  have:=of_decide_eq_false h1
  have:=of_decide_eq_false h2
  exact decide_eq_false (by lia)
theorem um(h:N7 vs ns):∀{i:Nat} {v:Nk},vs[i]? =some v->∃n t,ns[i]? =some n/\v= .int n t:=by
 induction h with
 | nil=>intro i v e;cases e
 | cons n t _ ih=>
  intro i v e
  cases i with
  | zero=>cases e;exact⟨n,t,rfl,rfl⟩
  | succ i=>exact ih e
theorem rj(ho:s.heap.get? a=some (NY "list" vs.toArray n))(hI:N7 vs ns)(up:ns.Pairwise (· <= ·))(hz:vs.length<=Nm)
 (h:P (.done (.ret .none)) {s with heap:=QT s.heap a vs vs.toArray}):
 Nr (model prog w) A (ND.«list.sort» ⟨[.ref a],[]⟩) P E s:=by
 rw [list_sort_plain]
 have ha:=LG ho
 refine Nj (listItems_at ho rfl ?_)
 refine Nj (Ox ho rfl ?_)
 obtain⟨e1,ho1⟩:∃e1,(s.heap.update a (Obj.mapSeq λ_=> #[])).get? a=some (NY "list" #[] e1):=⟨_,get?_update_seq ho (λ_=> #[])⟩
 refine Nj (OQ ho1 rfl ?_)
 refine Nj (OI ?_)
 refine Nj (ON ?_)
 apply NA
 have ho6:(((s.heap.update a (Obj.mapSeq λ_=> #[])).push (NY "tuple" vs.toArray 0)).push (NY "list" #[] 0)).get? a=some (NY "list" #[] e1):=by
  rw [L9 _ _ _ (by rw [Qb,Mp];exact LK (Mn ha)),L9 _ _ _ (by rw [Mp];exact LK ha)]
  exact ho1
 show Nr (model prog w) A _ P E {s with heap:=((s.heap.update a (Obj.mapSeq λ_=> #[])).push (NY "tuple" vs.toArray 0)).push (NY "list" #[] 0)}
 have ez:((vs.toArray.zip vs.toArray).map (·.2))=vs.toArray:=by
  apply Array.toList_inj.mp
  rw [Array.toList_map,Array.toList_zip]
  exact List.map_snd_zip (Nat.le_refl _)
 by_cases h2:vs.toArray.size<2
 ·rw [RD h2,RD h2]
  refine Nj (Nl ?_)
  refine Nj (Nl ?_)
  refine Nj (OQ ho6 rfl ?_)
  rw [ez]
  refine Nj (Ox ho6 rfl ?_ (hsz2:=by rw [LB];lia))
  simp only [bne_self_eq_false,MC,if_false]
  exact Nl h
 ·rw [RC h2,RC h2]
  obtain⟨v₁,v₂,rest,rfl⟩:∃v₁ v₂ rest,vs=v₁::v₂::rest:=by
   match vs,h2 with
   | [],h2=>simp at h2
   | [_],h2=>simp at h2
   | v₁::v₂::rest,_=>exact⟨v₁,v₂,rest,rfl⟩
  rw [keyKind_ints hI]
  refine Nj (Nl ?_)
  generalize hv:v₁::v₂::rest=vs at *
  have zs:(vs.toArray.zip vs.toArray).size=vs.length:=by simp
  have gz:∀k,k<vs.length->∃n t,ns[k]? =some n/\Tim.g (vs.toArray.zip vs.toArray) k=(Nk.int n t,Nk.int n t):=λk hk=>by
   obtain⟨n,t,e3,e4⟩:=um hI (Lo hk)
   have e2:=Tim.xH (i:=k) (by rw [zs];exact hk)
   rw [<-Array.getElem?_toList,Array.toList_zip,Lo (by simpa using hk),MZ] at e2
   have e2:=Option.some.inj e2
   rw [e4] at e2
   exact⟨n,t,e3,e2.symm⟩
  have ri:Tim.RI (λx y=>decide (vI x<vI y)) (vs.toArray.zip vs.toArray) 0 (vs.toArray.zip vs.toArray).size:=λi j _ ij hj=>by
   obtain⟨n1,t1,e1,g1⟩:=gz i (by lia)
   obtain⟨n2,t2,e2,g2⟩:=gz j (by lia)
   rw [g1,g2]
   apply decide_eq_false
   show ¬n2<n1
   obtain⟨u1,e1⟩:=List.getElem?_eq_some_iff.mp e1
   obtain⟨u2,e2⟩:=List.getElem?_eq_some_iff.mp e2
   by_cases c:i=j
   ·subst c;rw [e1] at e2;lia
   ·have:=List.pairwise_iff_getElem.mp up i j u1 u2 (by lia)
    lia
  refine Nj (NC (ints_env.rise (Q:=λ_ st'=>∃p',st'=Tim.S oneType' (vs.toArray.zip vs.toArray) p' 7) (λx hx=>?_) ri (by rw [zs];simpa using h2) λp'=>⟨p',rfl⟩) ?_ λ_ _ e=>e)
  ·obtain⟨k,hk,e⟩:=List.getElem_of_mem hx
   have hk':k<vs.length:=by rw [<-zs];simpa using hk
   obtain⟨n,t,e3,e4⟩:=um hI (Lo hk')
   have ex:x=(vs[k],vs[k]):=by
    rw [<-e]
    simp only [Array.toList_zip,MZ]
   rw [ex]
   exact⟨n,t,e4⟩
  ·rintro⟨⟨⟩,st'⟩ s' ⟨rfl,p',rfl⟩
   refine Nj (OQ ho6 rfl ?_)
   rw [ez]
   refine Nj (Ox ho6 rfl ?_ (hsz2:=by rw [LB];lia))
   simp only [bne_self_eq_false]
   exact Nl h
theorem xJ(hl:s.heap.IsList l vs.toArray)(hI:N7 vs ns)(up:ns.Pairwise (· <= ·))(hz:vs.length<=1000)
 (h:Q (.ref (s.heap.objs.size+1)) {s with heap:=sortedAll s.heap vs vs.toArray}):
 Nr (model prog w) A (call (.builtin "sorted") [.ref l]) Q E s:=by
 have big:1000<=Nm:=by unfold Nm;decide
 apply Calls.call_function_entry Qy Qh Qi (Qj _)
 refine Nj (Nl ?_)
 refine Nj (collect_list hl ?_ (by lia))
 refine Nj (ON ?_ (by lia))
 have hsz:((s.heap.push (NY "list" #[] 0)).update s.heap.objs.size (Obj.mapSeq (· ++vs.toArray))).objs.size=s.heap.objs.size+1:=by
  rw [Mp,Qb]
 have hoL:(((s.heap.push (NY "list" #[] 0)).update s.heap.objs.size (Obj.mapSeq (· ++vs.toArray))).push (NY "list" vs.toArray 0)).get? (s.heap.objs.size+1)=some (NY "list" vs.toArray 0):=by
  rw [<-hsz];exact Lp _ rfl
 rw [hsz]
 refine Nj (NA (NF PP ⟨_,hoL,rfl⟩ Py (rj hoL hI up (by lia) ⟨_,rfl,?_⟩) (PQ _)))
 exact Nl ⟨_,rfl,h⟩
end
def xK:List V->Hp->VK->Prop:=λxs H Q=>∃(p:Addr) (ns:List Int),xs= [.ref p]/\H p=some (.lst (ns.map V.int))/\ns.Pairwise (· <= ·)/\ns.length<=1000/\∀D H',H D=none->Same H H'->H' D=some (.lst (ns.map V.int))->Q (.ref D) H'
theorem rm(hc:X.calm=true):bG X (.builtin "sorted") xK:=by
 intro RE s σ H xs us Q I r h
 obtain⟨p,ns,rfl,hp,up,hn,q⟩:=h
 obtain⟨u,rfl,ru⟩:=fF r
 cases ru
 obtain⟨its,rv,pl,hz⟩:=I.list (SqL.of hp)
 have hi:=jx rv
 have hl:its.length=ns.length:=by have:=rv.length;rw [Ln] at this;exact this.symm
 apply xJ pl.isList hi up (by lia)
 obtain⟨e,he⟩:=Qg s.heap its its.toArray
 have fr:=I.hok.fresh (MS _)
 have I2:=I.laid (o:=.lst (ns.map V.int)) (t':=s.toks) (λb u e=>P2 e) (MS _) (⟨by rw [Ln];unfold Nm;lia,its,e,rv,he⟩)
 exact⟨.ref (s.heap.objs.size+1),_,I2,rfl,q _ _ fr (bh fr _) aB⟩
section
variable{X:Cx}{k k2 n:Nat}{ps ps2:List Str}{sp sp2:Sp}{m:Str}{pos apos:Pos}{o e:Expr}{es:List Expr}{t:TA}{ta:TE}{C C2:Addr}
theorem j9{pl:Sem Bool}(G:OkM X.prog X.w X.K X.mg X.base k C m ps sp)(G2:OkM X.prog X.w X.K X.mg X.base k2 C2 m ps2 sp2)(hr:Room n X.A)(he:PE X o ta)(ha:PA X (e::es) t)(hk:k<=n:=by lia)(hk2:k2<=n:=by lia)(hs:(e::es).all bm=true:=by rfl)
 (ht:eval (.Call (.Attribute o m apos) (e::es) [] pos) X.env=(do
  let ov <-eval o X.env
  Pa apos.atName
  let (f,first) <-holding [ov] (Ou ov m pl)
  PL pos f first (Oi pos (Nt (e::es) X.env)) (Ov pos (N4 [] X.env))):=by rfl):
 PE X (.Call (.Attribute o m apos) (e::es) [] pos) (λσ H Q=>ta σ H λx H1=>(∃a dx fs,x= .ref a/\H1 a=some (.ins C dx fs)/\fs.lookup m=none/\t σ H1 λvs H2=>sp (x::vs) H2 Q E0)\/(∃a dx fs,x= .ref a/\H1 a=some (.ins C2 dx fs)/\fs.lookup m=none/\t σ H1 λvs H2=>sp2 (x::vs) H2 Q E0)):=by
 obtain⟨⟨f,fd,hm,hb,F⟩,cl⟩:=G
 obtain⟨⟨f2,fd2,hm2,hb2,F2⟩,cl2⟩:=G2
 intro RE s σ H Q I h
 refine Mm (thn (he RE s σ H _ I h) λu s1 z=>?_) ht
 obtain⟨x,H1,I1,rx,q⟩:=z
 have ap:∀(sp:Sp) y,(λvs H1=>sp (y::(vs++[])) H1 Q E0)=λvs H1=>sp (y::vs) H1 Q E0:=λsp y=>by funext vs H1;rw [LQ]
 rcases q with ⟨a,dx,fs,ex,ea,l,q⟩ | ⟨a,dx,fs,ex,ea,l,q⟩
 ·subst ex
  obtain rfl:u=Nk.ref a:=rx
  rw [<-ap] at q
  apply dH I1 ea cl hm l
  refine ME (first:=[.ref a]) I.ok.mod.kin hm.kp (thn (ha pos RE s1 σ H1 _ I1 q) λus s2 ⟨vs,H2,I2,r,q2⟩=>⟨I2.kIn,?_⟩) (dw (Bool.and_eq_true_iff.mp hs).1) (cX (Bool.and_eq_true_iff.mp hs).2)
  exact fO (dvs:=[]) (vs:=.ref a::vs) F (hr.mono hk) hb .nil fH I2 (.cons rfl r) q2
 ·subst ex
  obtain rfl:u=Nk.ref a:=rx
  rw [<-ap] at q
  apply dH I1 ea cl2 hm2 l
  refine ME (first:=[.ref a]) I.ok.mod.kin hm2.kp (thn (ha pos RE s1 σ H1 _ I1 q) λus s2 ⟨vs,H2,I2,r,q2⟩=>⟨I2.kIn,?_⟩) (dw (Bool.and_eq_true_iff.mp hs).1) (cX (Bool.and_eq_true_iff.mp hs).2)
  exact fO (dvs:=[]) (vs:=.ref a::vs) F2 (hr.mono hk2) hb2 .nil fH I2 (.cons rfl r) q2
theorem gA{pl:Sem Bool}(G:OkM X.prog X.w X.K X.mg X.base k C m ps sp)(G2:OkM X.prog X.w X.K X.mg X.base k2 C2 m ps2 sp2)(hr:Room n X.A)(he:PE X o ta)(hk:k<=n:=by lia)(hk2:k2<=n:=by lia)
 (ht:eval (.Call (.Attribute o m apos) [] [] pos) X.env=(do
  let ov <-eval o X.env
  Pa apos.atName
  let (f,first) <-holding [ov] (Ou ov m pl)
  PL pos f first (Oi pos (Nt [] X.env)) (Ov pos (N4 [] X.env))):=by rfl):
 PE X (.Call (.Attribute o m apos) [] [] pos) (λσ H Q=>ta σ H λx H1=>(∃a dx fs,x= .ref a/\H1 a=some (.ins C dx fs)/\fs.lookup m=none/\sp [x] H1 Q E0)\/(∃a dx fs,x= .ref a/\H1 a=some (.ins C2 dx fs)/\fs.lookup m=none/\sp2 [x] H1 Q E0)):=by
 obtain⟨⟨f,fd,hm,hb,F⟩,cl⟩:=G
 obtain⟨⟨f2,fd2,hm2,hb2,F2⟩,cl2⟩:=G2
 intro RE s σ H Q I h
 refine Mm (thn (he RE s σ H _ I h) λu s1 z=>?_) ht
 obtain⟨x,H1,I1,rx,q⟩:=z
 rcases q with ⟨a,dx,fs,ex,ea,l,q⟩ | ⟨a,dx,fs,ex,ea,l,q⟩
 ·subst ex
  obtain rfl:u=Nk.ref a:=rx
  apply dH I1 ea cl hm l
  exact MQ (first:=[.ref a]) I1.kIn hm.kp (fO (dvs:=[]) (us:=[.ref a]) (vs:=[.ref a]) F (hr.mono hk) hb .nil fH I1 (.cons rfl .nil) q)
 ·subst ex
  obtain rfl:u=Nk.ref a:=rx
  apply dH I1 ea cl2 hm2 l
  exact MQ (first:=[.ref a]) I1.kIn hm2.kp (fO (dvs:=[]) (us:=[.ref a]) (vs:=[.ref a]) F2 (hr.mono hk2) hb2 .nil fH I1 (.cons rfl .nil) q)
end
end L2
namespace L2
open PySem PySem.Spec PyProof.Rows
structure Nx(prog:Np)(w:Nu)(i:Addr)(fp:List Addr)(T:Nat->Heap->Prop)(item:Nat->Option Nk):Prop where
 keep:∀k h h',T k h->(∀b,b=i\/b∈fp->∀o,h.get? b=some o->h'.get? b=some o)->T k h'
 obj:∀k h,T k h->∃o,h.get? i=some o/\(∀v,o.data≠.cell v)/\o.cls≠.type "StopIteration"
 next:∀(A:Nw) k x s (Q:Nk->Nn->Prop) (E:Nk->Nn->Prop),T k s.heap->item k=some x->(∀h',T (k+1) h'->Heap.SameBut i s.heap h'->Q x {s with heap:=h'})->Nr (model prog w) A (ND.SmallTypes.nextOf (.ref i)) Q E s
 done:∀(A:Nw) k s (Q:Nk->Nn->Prop) (E:Nk->Nn->Prop),A.handled=none->T k s.heap->item k=none->(∀h' e,Heap.ExtBut i s.heap h'->(∃o,h'.get? e=some o/\o.cls= .type "StopIteration")->E (.ref e) {s with heap:=h'})->Nr (model prog w) A (ND.SmallTypes.nextOf (.ref i)) Q E s
section
variable{prog:Np}{w:Nu}{A:Nw}{E:Nk->Nn->Prop}{s:Nn}
theorem Cn(i l:Addr)(xs:Array Nk)(ne:l≠i):Nx prog w i [l] (λk h=>h.IsListIter i l k/\h.IsList l xs) (λk=>xs[k]?) where
 keep:=λk h h' ⟨h1,h2⟩ kp=>⟨h1.at λo e=>kp i (.inl rfl) o e,h2.at λo e=>kp l (.inr (by simp)) o e⟩
 obj:=λk h y=>by obtain⟨⟨o,e,c,d⟩,_⟩:=y;exact⟨o,e,λv z=>(by rw [d] at z;cases z),λz=>(by rw [c] at z;simp at z)⟩
 next:=λA k x s Q E ⟨h1,h2⟩ hx q=>wpAny_nextOf_list_item h1 h2 hx λh' a b=>q h' ⟨a,h2.extBut b.extBut ne⟩ b
 done:=λA k s Q E hh ⟨h1,h2⟩ hx q=>wpAny_nextOf_list_end hh h1 h2 hx q
theorem gO(i l:Addr)(xs:Array Nk)(ne:l≠i):Nx prog w i [l] (λk h=>h.IsTupleIter i l k/\h.IsTuple l xs) (λk=>xs[k]?) where
 keep:=λk h h' u kp=>by obtain⟨⟨o,e,r⟩,⟨o2,e2,r2⟩⟩:=u;exact⟨⟨o,kp i (.inl rfl) o e,r⟩,⟨o2,kp l (.inr (by simp)) o2 e2,r2⟩⟩
 obj:=λk h y=>by obtain⟨⟨o,e,c,d⟩,_⟩:=y;exact⟨o,e,λv z=>(by rw [d] at z;cases z),λz=>(by rw [c] at z;simp at z)⟩
 next:=λA k x s Q E ⟨h1,h2⟩ hx q=>by
  obtain⟨o,ho,hc,hd⟩:=id h1
  obtain⟨o2,ho2,hc2,n2,hd2⟩:=id h2
  refine Nj (NB h1.typeIs F.slot_tuple_iterator_next (NF F.slot_tuple_iterator_next h1.typeIs F.entry_tuple_iterator_next ?_ (F.args_tuple_iterator_next_1 _)))
  show Nr _ _ (field (.ref i) 0 >>= _) _ _ _
  refine Nj (Nv ho hd (x:=.ref l) rfl ?_)
  refine Nj (Nv ho hd rfl ?_)
  refine Nj (NM ho2 hd2 ?_)
  simp only [Int.toNat_natCast,hx]
  have sb:=Heap.SameBut.update s.heap i (Obj.mapFields (·.setIfInBounds 1 (O4 ((k:Int)+1))))
  refine Nj (wpAny_setField ho hd (by simp) (Nl ⟨x,rfl,Nl (q _ ⟨?_,h2.extBut sb.extBut ne⟩ sb)⟩))
  exact⟨_,Heap.get?_update_self _ ho (Obj.isFreed_of_fields (Obj.data_mapFields hd _)),(Obj.cls_mapFields ..).trans hc,by rw [Obj.data_mapFields hd];simp [O4]⟩
 done := fun A k s Q E hh ⟨h1, h2⟩ hx q => by
   obtain⟨o,ho,hc,hd⟩:=id h1
   obtain⟨o2,ho2,hc2,n2,hd2⟩:=id h2
   refine Nj (NB h1.typeIs F.slot_tuple_iterator_next (NF F.slot_tuple_iterator_next h1.typeIs F.entry_tuple_iterator_next ?_ (F.args_tuple_iterator_next_1 _)))
   show Nr _ _ (field (.ref i) 0 >>= _) _ _ _
   refine Nj (Nv ho hd (x:=.ref l) rfl ?_)
   refine Nj (Nv ho hd rfl ?_)
   refine Nj (NM ho2 hd2 ?_)
   simp only [Int.toNat_natCast,hx]
   refine Nj (OD (Nj (wpAny_setField ho hd (by simp) ?_)))
   apply Nj
   refine Nj (NS ?_ (by size_fits))
   refine Nj (OR (by first | rfl | (simp only [firstArgMember];rfl)) ?_)
   refine NS ?_ (by size_fits)
   refine Nj (wpAny_handled ?_)
   first | rw [show A.in1.handled=none from hh] | rw [hh]
   refine Nj (Nl (wpAny_throw ?_))
   exact q _ _ (((Heap.SameBut.update ..).extBut.push _).push _) ⟨_,Lp _ rfl,rfl⟩
structure ZA(z TI TO i j:Addr)(f1 f2:List Addr):Prop where
 tz:TI≠z
 oz:TO≠z
 iz:i≠z
 jz:j≠z
 to:TI≠TO
 ti:TI≠i
 tj:TI≠j
 oi:TO≠i
 oj:TO≠j
 ij:i≠j
 a1:∀b∈f1,b≠z/\b≠TO/\b≠i/\b≠j
 a2:∀b∈f2,b≠z/\b≠TO/\b≠i/\b≠j
variable{z TI TO i j:Addr}{f1 f2:List Addr}{T1 T2:Nat->Heap->Prop}{e1 e2:Nat->Option Nk}
theorem Co(D:ZA z TI TO i j f1 f2)(N1:Nx prog w i f1 T1 e1)(N2:Nx prog w j f2 T2 e2)(hz:Rz s.heap z TI TO .none)(hTI:OL s.heap TI (.ref i) (.ref j))(hTO:OL s.heap TO a b)
 (t1:T1 k s.heap) (t2:T2 k s.heap) (hx:e1 k=some x) (hy:e2 k=some y)
 (hQ:∀h',Rz h' z TI TO (O4 s.heap.objs.size)->OL h' TO x y->T1 (k+1) h'->T2 (k+1) h'->OL h' s.heap.objs.size x y->h'.objs.size=s.heap.objs.size+1->(∀c o,c≠z->c≠TO->c≠i->c≠j->s.heap.get? c=some o->h'.get? c=some o)->Q (some (.ref s.heap.objs.size)) {s with heap:=h'}):
 Nr (model prog w) A (P0 (.ref z)) Q E s:=by
 have hT:s.TypeIs (.ref z) "zip":=⟨_,hz,rfl⟩
 unfold P0
 refine Nj (Od (NB hT F.slot_zip_next (NF F.slot_zip_next hT F.entry_zip_next ?_ (F.args_zip_next_1 _))))
 show Nr _ _ (field (.ref z) 2 >>= _) _ _ _
 refine Nj (Nv hz rfl (x:=.bool false) rfl ?_)
 show Nr _ _ (field (.ref z) 3 >>= _) _ _ _
 refine Nj (Nv hz rfl rfl ?_)
 refine Nj (NM hTI rfl ?_)
 show Nr _ _ (ND.SmallTypes.ownedTupleIsFree (.ref z) >>= _) _ _ _
 apply Nj
 refine Nj (Nv hz rfl rfl (Nl ?_))
 refine Nj (OD ?_)
 refine Nj (Nv hz rfl rfl ?_)
 refine Nj (NK hz (by simp) λg1 z1 s1=>?_)
 apply Nj
 simp only [List.zipIdx_cons,List.zipIdx_nil,M4,M8]
 refine Nj (Nj (Pf ?_))
 have t1a:T1 k g1:=N1.keep k _ _ t1 λb hb o e=>s1.extBut _ _ (hb.elim (λq=>q▸D.iz) λq=>(D.a1 b q).1) e
 refine Nj (N1.next _ k x _ _ _ t1a hx λg2 t1b s2=>Nl ?_)
 have o2:OL g2 TO a b:=s2.extBut _ _ D.oi (s1.extBut _ _ D.oz hTO)
 refine Nj (NM o2 rfl ?_)
 refine Nj (OM o2 λg3 o3 s3=>?_)
 refine Nj (PX (Nl ?_))
 refine Nj (Nj (Pf ?_))
 have t2a:T2 k g3:=N2.keep k _ _ t2 λb hb o e=>by
  have n:b≠z/\b≠TO/\b≠i:=hb.elim (λq=>q▸⟨D.jz,D.oj.symm,D.ij.symm⟩) λq=>⟨(D.a2 b q).1,(D.a2 b q).2.1,(D.a2 b q).2.2.1⟩
  exact s3.extBut _ _ n.2.1 (s2.extBut _ _ n.2.2 (s1.extBut _ _ n.1 e))
 refine Nj (N2.next _ k y _ _ _ t2a hy λg4 t2b s4=>Nl ?_)
 have o4:=s4.extBut _ _ D.oj o3
 refine Nj (NM o4 rfl ?_)
 refine Nj (OM o4 λg5 o5 s5=>?_)
 replace o5:OL g5 TO x y:=o5
 refine Nj (PX (Nl (Nl ?_)))
 refine Nj (NM o5 rfl ?_)
 refine Nj (OI ?_)
 have sz:g5.objs.size=s.heap.objs.size:=by rw [s5.1,s4.1,s3.1,s2.1,s1.1]
 have z5:=s5.extBut _ _ D.oz.symm (s4.extBut _ _ D.jz.symm (s3.extBut _ _ D.oz.symm (s2.extBut _ _ D.iz.symm z1)))
 have k5:∀c o,c≠z->c≠TO->c≠i->c≠j->s.heap.get? c=some o->g5.get? c=some o:=λc o c1 c2 c3 c4 e=>s5.extBut _ _ c2 (s4.extBut _ _ c4 (s3.extBut _ _ c2 (s2.extBut _ _ c3 (s1.extBut _ _ c1 e))))
 have t15:=N1.keep _ _ _ t1b λb hb o e=>by
  have n:b≠TO/\b≠j:=hb.elim (λq=>q▸⟨D.oi.symm,D.ij⟩) λq=>⟨(D.a1 b q).2.1,(D.a1 b q).2.2.2⟩
  exact s5.extBut _ _ n.1 (s4.extBut _ _ n.2 (s3.extBut _ _ n.1 e))
 have t25:=N2.keep _ _ _ t2b λb hb o e=>s5.extBut _ _ (hb.elim (λq=>q▸D.oj.symm) λq=>(D.a2 b q).2.1) e
 have zl:=LG z5
 apply Nj
 have z6:Rz (g5.push {cls:=.type "tuple",data:=.seq #[x,y]}) z TI TO .ellipsis:=Lk _ z5
 refine Nj (NK z6 (by simp) λg7 z7 s7=>?_)
 refine NK z7 (by simp) λg8 z8 s8=>?_
 have up:∀c o,c≠z->g5.get? c=some o->g8.get? c=some o:=λc o c1 e=>s8.extBut _ _ c1 (s7.extBut _ _ c1 (Lk _ e))
 have p8:=s8.extBut _ _ (L5 zl) (s7.extBut _ _ (L5 zl) (Lp _ rfl))
 have q8:g8.objs.size=g5.objs.size+1:=by rw [s8.1,s7.1,LS]
 rw [sz] at z8 p8 q8
 refine Nl ⟨_,rfl,Nl ?_⟩
 rw [sz]
 exact hQ g8 z8 (up _ _ D.oz o5) (N1.keep _ _ _ t15 λb hb o e=>up b o (hb.elim (λq=>q▸D.iz) λq=>(D.a1 b q).1) e) (N2.keep _ _ _ t25 λb hb o e=>up b o (hb.elim (λq=>q▸D.jz) λq=>(D.a2 b q).1) e) p8 q8 λc o c1 c2 c3 c4 e=>up c o c1 (k5 c o c1 c2 c3 c4 e)
theorem FA(hh:A.handled=none)(D:ZA z TI TO i j f1 f2)(N1:Nx prog w i f1 T1 e1)(N2:Nx prog w j f2 T2 e2)(hz:Rz s.heap z TI TO .none)(hTI:OL s.heap TI (.ref i) (.ref j))(hTO:OL s.heap TO a b)
 (t1:T1 k s.heap) (t2:T2 k s.heap) (hend:e1 k=none\/e2 k=none)
 (hQ:∀h',(∀c o,c≠z->c≠TO->c≠i->c≠j->s.heap.get? c=some o->h'.get? c=some o)->Q none {s with heap:=h'}):Nr (model prog w) A (P0 (.ref z)) Q E s:=by
 have hT:s.TypeIs (.ref z) "zip":=⟨_,hz,rfl⟩
 have fin:∀h' e,(∀c o,c≠z->c≠TO->c≠i->c≠j->s.heap.get? c=some o->h'.get? c=some o)->(∃o,h'.get? e=some o/\o.cls= .type "StopIteration")->Nr (model prog w) A (do if <-Qc (.ref e) (.type "StopIteration") then pure none else throw (.ref e)) Q E {s with heap:=h'}:=λh' e hk he=>by
  obtain⟨o,ho,hc⟩:=he
  exact Nj (Pn ⟨o,ho,hc⟩ PR (Nl (hQ _ hk)))
 refine Nj (Od (NB hT F.slot_zip_next (NF F.slot_zip_next hT F.entry_zip_next ?_ (F.args_zip_next_1 _))))
 show Nr _ _ (field (.ref z) 2 >>= _) _ _ _
 refine Nj (Nv hz rfl (x:=.bool false) rfl ?_)
 refine Nj (Nv hz rfl rfl ?_)
 refine Nj (NM hTI rfl ?_)
 apply Nj
 refine Nj (Nv hz rfl rfl (Nl ?_))
 refine Nj (OD ?_)
 refine Nj (Nv hz rfl rfl ?_)
 refine Nj (NK hz (by simp) λg1 z1 s1=>?_)
 apply Nj
 simp only [List.zipIdx_cons,List.zipIdx_nil,M4,M8]
 refine Nj (Nj (Pf ?_))
 have t1a:=N1.keep k _ _ t1 λb hb o e=>s1.extBut _ _ (hb.elim (λq=>q▸D.iz) λq=>(D.a1 b q).1) e
 cases hx:e1 k with
 | none=>
  refine Nj (N1.done _ k _ _ _ hh t1a hx λg2 e s2 he=>?_)
  obtain⟨oe,hoe,hce⟩:=he
  have z2:=s2 _ _ D.iz.symm z1
  have ez:e≠z:=λq=>by subst q;rw [z2] at hoe;cases hoe;simp at hce
  exact NK z2 (by simp) λg3 _ s3=>fin g3 e (λc o c1 _ c3 _ q=>s3.extBut _ _ c1 (s2 _ _ c3 (s1.extBut _ _ c1 q))) ⟨oe,s3.extBut _ _ ez hoe,hce⟩
 | some x=>
  have hy:e2 k=none:=by rcases hend with h | h;(rw [hx] at h;cases h);exact h
  refine Nj (N1.next _ k x _ _ _ t1a hx λg2 t1b s2=>Nl ?_)
  have o2:=s2.extBut _ _ D.oi (s1.extBut _ _ D.oz hTO)
  refine Nj (NM o2 rfl ?_)
  refine Nj (OM o2 λg3 o3 s3=>?_)
  refine Nj (PX (Nl ?_))
  refine Nj (Nj (Pf ?_))
  have t2a:=N2.keep k _ _ t2 λb hb o e=>by
   have n:b≠z/\b≠TO/\b≠i:=hb.elim (λq=>q▸⟨D.jz,D.oj.symm,D.ij.symm⟩) λq=>⟨(D.a2 b q).1,(D.a2 b q).2.1,(D.a2 b q).2.2.1⟩
   exact s3.extBut _ _ n.2.1 (s2.extBut _ _ n.2.2 (s1.extBut _ _ n.1 e))
  refine Nj (N2.done _ k _ _ _ hh t2a hy λg4 e s4 he=>?_)
  obtain⟨oe,hoe,hce⟩:=he
  have z4:=s4 _ _ D.jz.symm (s3.extBut _ _ D.oz.symm (s2.extBut _ _ D.iz.symm z1))
  have ez:e≠z:=λq=>by subst q;rw [z4] at hoe;cases hoe;simp at hce
  exact NK z4 (by simp) λg5 _ s5=>fin g5 e (λc o c1 c2 c3 c4 q=>s5.extBut _ _ c1 (s4 _ _ c4 (s3.extBut _ _ c2 (s2.extBut _ _ c3 (s1.extBut _ _ c1 q))))) ⟨oe,s5.extBut _ _ ez hoe,hce⟩
abbrev zG(h:Heap)(o1 o2:Obj):Heap:=((((h.push o1).push o2).push {cls:=.type "tuple",data:=.seq #[.ref h.objs.size,.ref (h.push o1).objs.size]}).push {cls:=.type "tuple",data:=.seq #[.none,.none]}).push {cls:=.type "zip",data:=.fields #[.none,.bool false,.bool false,.ref ((h.push o1).push o2).objs.size,.ref (((h.push o1).push o2).push {cls:=.type "tuple",data:=.seq #[.ref h.objs.size,.ref (h.push o1).objs.size]}).objs.size]}
abbrev zA(h:Heap)(o1 o2:Obj):Addr:=((((h.push o1).push o2).push {cls:=.type "tuple",data:=.seq #[.ref h.objs.size,.ref (h.push o1).objs.size]}).push {cls:=.type "tuple",data:=.seq #[.none,.none]}).objs.size
abbrev zO (n : String) (l : Addr) : Obj := { cls := .type n, data := .fields #[.ref l, .int 0 0] }
theorem mV(h:Heap)(o1 o2:Obj)(f1:o1.isFreed=false)(f2:o2.isFreed=false):Rz (zG h o1 o2) (h.objs.size+4) (h.objs.size+2) (h.objs.size+3) .none/\OL (zG h o1 o2) (h.objs.size+2) (.ref h.objs.size) (.ref (h.objs.size+1))/\OL (zG h o1 o2) (h.objs.size+3) .none .none/\(zG h o1 o2).get? h.objs.size=some o1/\(zG h o1 o2).get? (h.objs.size+1)=some o2/\(zG h o1 o2).objs.size=h.objs.size+5/\∀c o,h.get? c=some o->(zG h o1 o2).get? c=some o:=by
 have z1:(h.push o1).objs.size=h.objs.size+1:=LS ..
 have z2:((h.push o1).push o2).objs.size=h.objs.size+2:=by rw [LS,z1]
 have z3:(((h.push o1).push o2).push {cls:=.type "tuple",data:=.seq #[.ref h.objs.size,.ref (h.push o1).objs.size]}).objs.size=h.objs.size+3:=by rw [LS,z2]
 have z4:((((h.push o1).push o2).push {cls:=.type "tuple",data:=.seq #[.ref h.objs.size,.ref (h.push o1).objs.size]}).push {cls:=.type "tuple",data:=.seq #[.none,.none]}).objs.size=h.objs.size+4:=by rw [LS,z3]
 refine⟨?_,?_,?_,?_,?_,by rw [LS,z4],λc o e=>Lk _ (Lk _ (Lk _ (Lk _ (Lk _ e))))⟩
 ·have g:(zG h o1 o2).get? _=some _:=Lp _ rfl
  rw [z4,z2,z3] at g
  exact g
 ·have g:(zG h o1 o2).get? _=some _:=Lk _ (Lk _ (Lp ((h.push o1).push o2) (o:={cls:=.type "tuple",data:=.seq #[.ref h.objs.size,.ref (h.push o1).objs.size]}) rfl))
  rw [z2,z1] at g
  exact g
 ·have g:(zG h o1 o2).get? _=some _:=Lk _ (Lp (((h.push o1).push o2).push {cls:=.type "tuple",data:=.seq #[.ref h.objs.size,.ref (h.push o1).objs.size]}) (o:={cls:=.type "tuple",data:=.seq #[.none,.none]}) rfl)
  rw [z3] at g
  exact g
 ·exact Lk _ (Lk _ (Lk _ (Lk _ (Lp _ f1))))
 ·have g:(zG h o1 o2).get? _=some _:=Lk _ (Lk _ (Lk _ (Lp (h.push o1) f2)))
  rw [z1] at g
  exact g
theorem rq(l1 l2:Addr)(xs ys:Array Nk):
 Meets (ND.«zip.__new__» ⟨[.type "zip",.ref l1,.ref l2],[]⟩) (λ_ R s=>s.heap.IsTuple l1 xs/\s.heap.IsList l2 ys/\R (.ok (.ret (.ref (zA s.heap (zO "tuple_iterator" l1) (zO "list_iterator" l2))))) {s with heap:=zG s.heap (zO "tuple_iterator" l1) (zO "list_iterator" l2)}):=
 .of_wp λprog w A R s h=>by
  obtain⟨hp,g,d,tk,os⟩:=s;obtain⟨hl1,hl2,h⟩:=h
  have hsub:=sub_zip
  have hL1:=hl1
  have hL2:Heap.IsList (Nn.heap ⟨hp.push (zO "tuple_iterator" l1),g,d,tk,os⟩) l2 ys:=Heap.IsList.push hl2 _
  wp_walk using NJ hL1,OE hL2
  exact⟨_,rfl,h⟩
theorem Bu(h:Heap)(o1 o2:Obj):zA h o1 o2=h.objs.size+4:=by
 unfold zA
 rw [LS,LS,LS,LS]
theorem tF(hl1:s.heap.IsTuple l1 xs)(hl2:s.heap.IsList l2 ys)(h:Q (.ref (s.heap.objs.size+4)) {s with heap:=zG s.heap (zO "tuple_iterator" l1) (zO "list_iterator" l2)}):
 Nr (model prog w) A (call (.type "zip") [.ref l1,.ref l2]) Q E s:=by
 refine Ql F.called_zip (by decide) (F.typeCall_zip_2 _ _) (F.newCall_zip_2 _ _) (λobj=>F.args_object_init_3 obj _ _) F.entry_zip_new (rq l1 l2 xs ys) ⟨hl1,hl2,?_⟩
 have g:=(mV s.heap (zO "tuple_iterator" l1) (zO "list_iterator" l2) rfl rfl).1
 rw [Bu]
 exact⟨⟨_,g,rfl⟩,h⟩
end
theorem cK{a b:Nat}(h:a<b\/b<a):a≠b:=by lia
theorem FB(n l1 l2:Nat)(h1:l1<n)(h2:l2<n):ZA (n+4) (n+2) (n+3) n (n+1) [l1] [l2]:=by
 have o:∀l:Nat,l<n->l≠n+4/\l≠n+3/\l≠n/\l≠n+1:=λl h=>⟨cK (by lia),cK (by lia),cK (by lia),cK (by lia)⟩
 exact⟨cK (.inl (by lia)),cK (.inl (by lia)),cK (.inl (by lia)),cK (.inl (by lia)),cK (.inl (by lia)),cK (.inr (by lia)),cK (.inr (by lia)),cK (.inr (by lia)),cK (.inr (by lia)),cK (.inl (by lia)),λc hc=>by rw [List.mem_singleton.mp hc];exact o l1 h1,λc hc=>by rw [List.mem_singleton.mp hc];exact o l2 h2⟩
section
variable{prog:Np}{w:Nu}{A:Nw}{E:Nk->Nn->Prop}{s:Nn}{x y:Str}{t u:Tok}{Q:Nk->Nn->Prop}
end
def Bv:List V->Hp->VK->Prop:=λxs H Q=>∃l ys,xs= [.ref l]/\H l=some (.lst ys)/\∀p H',H p=none->Same H H'->H' p=some (.tup ys)->Q (.ref p) H'
theorem ke{X:Cx}:bG X (.type "tuple") Bv:=by
 intro RE s σ H xs us Q I r h
 obtain⟨l,ys,rfl,hl,q⟩:=h
 obtain⟨u,rfl,ru⟩:=fF r
 cases ru
 obtain⟨its,rv,pl,hz⟩:=I.list (SqL.of hl)
 have le:its.length<=Nm:=by have:=rv.length;lia
 refine call_tuple_list pl.isList (λh' hk=>?_) (by simpa using le)
 have I1:=I.kept (t':=s.toks) hk
 have fr:H h'.objs.size=none:=I1.hok.fresh (Nat.le_refl _)
 have I2:=I1.laid (a:=h'.objs.size) (o:=.tup ys) (t':=s.toks) (h':=h'.push {cls:=.type "tuple",data:=.seq its.toArray}) (λb u e=>Lk _ e) (Nat.le_refl _) ⟨hz,its,rv,⟨_,Lp _ rfl,rfl,_,rfl⟩⟩
 exact⟨.ref h'.objs.size,_,I2,rfl,q _ _ fr (bh fr _) aB⟩
def KD(P:Np)(w:Nu)(K:MF)(a:Addr)(kvs:List (Key×V)):Prop:=∃(o:Obj) (vs:List (Key×Nk)),K.lookup a=some o/\(a==NX)=false/\KV kvs vs/\∀h:Heap,h.get? a=some o->h.DictOf (ay P w) a vs
section
variable{X:Cx}{i o:Expr}{ty:TE}{pos:Pos}{a:Addr}{kvs:List (Key×V)}
theorem zD(kd:KD X.prog X.w X.K a kvs)(ho:PE X o (tC (.ref a)))(hi:PE X i ty)(hs:yY i):PE X (.Subscript o i pos) (λσ H Q=>ty σ H λy H2=>∃k v,dz y=some k/\aZ kvs k=some v/\Q v H2):=by
 obtain⟨ob,vs,h1,h2,h3,h4⟩:=kd
 intro RE s σ H Q I h
 refine ud PySem.F.slot_dict_getitem.lookup hs (thn (ho RE s σ H (λx H1=>x= .ref a/\ty σ H1 λy H2=>∃k v,dz y=some k/\aZ kvs k=some v/\Q v H2) I ⟨rfl,h⟩) λu s1 ⟨x,H1,I1,rx,ex,q1⟩=>thn (hi RE s1 σ H1 _ I1 q1) λiv s2 z=>?_)
 obtain⟨y,H2,I2,ry,k,v,ek,ev,q2⟩:=z
 subst ex
 obtain rfl:u=Nk.ref a:=rx
 have dd:=h4 _ (I2.kIn a ob h1)
 obtain⟨w',hw,rw'⟩:=RelO.some_of (v:=v) (o:=P9 vs k) (by rw [<-ev];exact h3.val k)
 rw [jw ek] at ry
 exact⟨dd.typeIs,wpAny_getItem_of (eW ry) dd.mapOf hw ⟨v,H2,I2.tok _,rw',q2⟩⟩
theorem Cp(kd:KD X.prog X.w X.K a kvs)(hi:PE X i ty)(ho:PE X o (tC (.ref a))):PC X .In i o (λσ H Q=>ty σ H λy H2=>∃k,dz y=some k/\Q (.bl (aZ kvs k).isSome) H2):=by
 obtain⟨ob,vs,h1,h2,h3,h4⟩:=kd
 intro RE s σ H Q I h
 refine thn (hi RE s σ H _ I h) λiv s1 ⟨y,H1,I1,ry,k,ek,q1⟩=>thn (ho RE s1 σ H1 (λx H2=>x= .ref a/\Q (.bl (aZ kvs k).isSome) H2) I1 ⟨rfl,q1⟩) λu s2 z=>?_
 obtain⟨x,H2,I2,rx,ex,q2⟩:=z
 subst ex
 obtain rfl:u=Nk.ref a:=rx
 have dd:=h4 _ (I2.kIn a ob h1)
 rw [jw ek] at ry
 refine wpAny_in_of (eW ry) h2 dd.mapOf ?_
 rw [<-(h3.val k).isSome_eq]
 exact⟨.bl _,H2,I2.tok _,rfl,q2⟩
end
section
variable{M:Qx}{A:Nw}{E:Nk->Nn->Prop}{s:Nn}{base:Heap}{env:Env}{outer:List Env}{L x:Addr}{oe:Obj}{vs:Array Nk}{Q:Unit->Nn->Prop}
end
section
variable{X:Cx}{scope:OS}{cl:List (Str×Addr)}{N:List Str}{C:Addr}{fp:List Addr}{s₀:Nn}{H₀:Hp}{RE:List (Addr×Obj)}{σ:St}{H:Hp}{s:Nn}
end
section
variable{P:Np}{w:Nu}{K:MF}{mg:Str->Option Nk}{base:Heap}{N:List Str}{qual:Str}{scope:OS}{f:Addr}{cd:Nk}{A:Nw}{outer:List Env}{s:Nn}{H:Hp}{E:XK}
end
section
variable{X:Cx}{scope:OS}{cl:List (Str×Addr)}{N:List Str}{cap:List Nat}{k:Nat}{tg:Expr}{g:TG}{pos:Pos}{iter elt:Expr}{ifs:List Expr}{wi:TI}{tc:TT}{te:TE}
end
section
variable{prog:Np}{w:Nu}{A:Nw}{E:Nk->Nn->Prop}{s:Nn}{z TI TO i j:Addr}{f2:List Addr}{T2:Nat->Heap->Prop}{e2:Nat->Option Nk}
end
section
variable{prog:Np}{w:Nu}
end
def DV(p d:Addr):HO:=.ext λh=>h.IsValuesView p d
def xL(tl:TE):TE:=λσ H Q=>tl σ H λx H1=>∃d kvs,x= .ref d/\H1 d=some (.dK kvs)/\∀p H',H1 p=none->Same H1 H'->H' p=some (DV p d)->Q (.ref p) H'
theorem zE{X:Cx}{l:Expr}{tl:TE}{apos cpos:Pos}(hl:PE X l tl)(hbase:NU l "values" X.env (eval l X.env)=eval l X.env:=by rfl)(hline:(apos.endLine==cpos.line)=true:=by rfl):
 PE X (.Call (.Attribute l "values" apos) [] [] cpos) (xL tl):=by
 intro RE s σ H Q I h
 refine Oc hbase hline (thn (hl RE s σ H _ I h) λv s1 y=>?_)
 obtain⟨x,H1,I1,r1,d,kvs,e,hd,q⟩:=y
 subst e
 cases r1
 obtain⟨z1,z2,vs,rel,dof⟩:=ii I1.hok hd
 obtain⟨h1,h2⟩:=iY (T:="dict") I1 (show RelV (.ref d) (.ref d) from rfl) (.inr (.inr (.inl ⟨rfl,.inl ⟨_,hd⟩⟩)))
 refine⟨"dict","dict.values",NQ,Ob,O9,h1,h2,Calls.callWith_builtin rfl (Os ?_)⟩
 refine Oj Ob h1 O1 (OU _) (meets_dict_values (ay X.prog X.w) d z2) ⟨⟨vs,dof⟩,?_⟩
 have fr:=I1.hok.fresh (Nat.le_refl s1.heap.objs.size)
 refine⟨.ref s1.heap.objs.size,upd H1 s1.heap.objs.size (DV s1.heap.objs.size d),I1.laid (t':=s1.toks) (λb o q=>Lk _ q) (Nat.le_refl _) ⟨⟨_,Lp _ rfl,rfl,rfl⟩,⟨_,Lp _ rfl⟩,λg g' z k=>by obtain⟨o,e,r⟩:=z;exact⟨o,k o e,r⟩⟩,rfl,q _ _ fr (bh fr _) aB⟩
section
variable{prog:Np}{w:Nu}
end
end L2
theorem L2.hideL{a b:L2.TS}{D σ H}(h:let T:=b;L2.uW a T D σ H):L2.uW a b D σ H:=h
theorem L2.hRet{a D σ H}(h:L2.uX a D σ H):L2.uX a D σ H:=h
theorem L2.hIf{a b c D σ H}(h:L2.uY a b c D σ H):L2.uY a b c D σ H:=h
theorem L2.hFor{a b c D σ H}(h:L2.vc a b c D σ H):L2.vc a b c D σ H:=h
theorem L2.hDrop{a D σ H}(h:L2.qt a D σ H):L2.qt a D σ H:=h
theorem L2.hAsg{a b D σ H}(h:L2.lU a b D σ H):L2.lU a b D σ H:=h
theorem L2.xL0{H:L2.Hp}{a:NH}{v0:List L2.V}{R:List L2.V->Prop}(h:H a=some (.lst v0)):(∃v,H a=some (.lst v)/\R v)=R v0:=propext ⟨λe=>by obtain⟨v,e,r⟩:=e;rw [h] at e;cases e;exact r,λr=>⟨v0,h,r⟩⟩
theorem L2.xL1{H:L2.Hp}{a:NH}{α0:Sort _}{v0:List L2.V}{R:List L2.V->α0->Prop}(h:H a=some (.lst v0)):(∃v x0,H a=some (.lst v)/\R v x0)=∃x0,R v0 x0:=propext ⟨λe=>by obtain⟨v,x0,e,r⟩:=e;rw [h] at e;cases e;exact⟨x0,r⟩,λe=>by obtain⟨x0,r⟩:=e;exact⟨v0,x0,h,r⟩⟩
theorem L2.xT0{H:L2.Hp}{a:NH}{v0:List L2.V}{R:List L2.V->Prop}(h:H a=some (.tup v0)):(∃v,H a=some (.tup v)/\R v)=R v0:=propext ⟨λe=>by obtain⟨v,e,r⟩:=e;rw [h] at e;cases e;exact r,λr=>⟨v0,h,r⟩⟩
theorem L2.xD0{H:L2.Hp}{a:NH}{v0:List (L2.Key×L2.V)}{R:List (L2.Key×L2.V)->Prop}(h:H a=some (.dK v0)):(∃v,H a=some (.dK v)/\R v)=R v0:=propext ⟨λe=>by obtain⟨v,e,r⟩:=e;rw [h] at e;cases e;exact r,λr=>⟨v0,h,r⟩⟩
theorem L2.xI0{H:L2.Hp}{a:NH}{C d0:NH}{f0:List (PK×L2.V)}{R:NH->List (PK×L2.V)->Prop}(h:H a=some (.ins C d0 f0)):(∃d f,H a=some (.ins C d f)/\R d f)=R d0 f0:=propext ⟨λe=>by obtain⟨d,f,e,r⟩:=e;rw [h] at e;cases e;exact r,λr=>⟨d0,f0,h,r⟩⟩
theorem L2.xI1{H:L2.Hp}{a:NH}{α0:Sort _}{C d0:NH}{f0:List (PK×L2.V)}{R:NH->List (PK×L2.V)->α0->Prop}(h:H a=some (.ins C d0 f0)):(∃d f x0,H a=some (.ins C d f)/\R d f x0)=∃x0,R d0 f0 x0:=propext ⟨λe=>by obtain⟨d,f,x0,e,r⟩:=e;rw [h] at e;cases e;exact⟨x0,r⟩,λe=>by obtain⟨x0,r⟩:=e;exact⟨d0,f0,x0,h,r⟩⟩
theorem L2.xE1{H:L2.Hp}{a:NH}{α0:Sort _}{v0:List L2.V}{R:List L2.V->α0->Prop}(h:H a=some (.tup v0)):(∃v x0,(H a=some (.tup v)\/H a=some (.lst v))/\R v x0)=∃x0,R v0 x0:=propext ⟨λe=>by obtain⟨v,x0,e,r⟩:=e;rw [h] at e;rcases e with e | e<;>cases e;exact⟨x0,r⟩,λe=>by obtain⟨x0,r⟩:=e;exact⟨v0,x0,.inl h,r⟩⟩
theorem L2.xF1{H:L2.Hp}{a:NH}{α0:Sort _}{v0:List L2.V}{R:List L2.V->α0->Prop}(h:H a=some (.lst v0)):(∃v x0,(H a=some (.tup v)\/H a=some (.lst v))/\R v x0)=∃x0,R v0 x0:=propext ⟨λe=>by obtain⟨v,x0,e,r⟩:=e;rw [h] at e;rcases e with e | e<;>cases e;exact⟨x0,r⟩,λe=>by obtain⟨x0,r⟩:=e;exact⟨v0,x0,.inr h,r⟩⟩
def L2.xNames : String := "xD0 xE1 xF1 xI0 xI1 xL0 xL1 xT0 xT1"
open Lean Meta Simp in
simproc_decl exHp (Exists _) := fun e => do
  let _ := L2.xNames
  let mut b := e
  let mut n := 0
  while b.isAppOfArity ``Exists 2 && b.appArg!.isLambda do
    b := b.appArg!.bindingBody!
    n := n + 1
  let_expr And A _ := b | return .continue
  let (o, X) := match_expr A with
    | Or X _ => (true, X)
    | _ => (false, A)
  let_expr Eq _ l r := X | return .continue
  if l.hasLooseBVars then return .continue
  let_expr Option.some _ rc := r | return .continue
  let some c := rc.getAppFn.constName? | return .continue
  for d in (← getLCtx) do
    if d.isImplementationDetail then continue
    let ty ← instantiateMVars d.type
    let_expr Eq _ l' r' := ty | continue
    unless l' == l do continue
    let_expr Option.some _ rc' := r' | continue
    let some c' := rc'.getAppFn.constName? | continue
    let (s, k) := if o then
        (if c == `L2.HO.tup then (if c' == `L2.HO.tup then "xE" else "xF") else (if c' == `L2.HO.lst then "xG" else "xJ"), n - 1)
      else if c != c' then ("", 0)
      else if c == `L2.HO.lst then ("xL", n - 1) else if c == `L2.HO.tup then ("xT", n - 1) else if c == `L2.HO.dK then ("xD", n - 1) else if c == `L2.HO.ins && n ≥ 2 then ("xI", n - 2) else ("", 0)
    if s == "" || k > 3 then continue
    let nm := Name.mkStr `L2 (s ++ toString k)
    unless (← getEnv).contains nm do continue
    let thm ← mkConstWithFreshMVarLevels nm
    let (ms, _, ty2) ← forallMetaTelescope (← inferType thm)
    let_expr Eq _ a2 b2 := ty2 | continue
    unless (← withReducible (isDefEq a2 e)) do continue
    unless (← isDefEq (← inferType ms.back!) ty) do continue
    ms.back!.mvarId!.assign d.toExpr
    let res ← instantiateMVars b2
    return .visit { expr := res.headBeta, proof? := some (← instantiateMVars (mkAppN thm ms)) }
  return .continue
open Lean Meta Simp in
simproc_decl quickV2 (L2.iF _ _ _ _) := fun e => do
  let_expr L2.iF i s H Q := e | return .continue
  let l ← mkAppM ``GetElem?.getElem? #[s, i]
  let w ← whnfD l
  let_expr Option.some _ o := w | return .continue
  let o' ← whnfD o
  let_expr Option.some _ v := o' | return .continue
  return .visit { expr := (mkApp2 Q v H).headBeta, proof? := some (mkApp6 (mkConst ``L2.qVar) i s H Q v (← mkEqRefl (← mkAppM ``Option.some #[← mkAppM ``Option.some #[v]]))) }
def L2.lzPre2 : String := "lazyAnd reduceIte lazyIte exHp exists_eq_left exists_eq_left' reduceIte L2.exBl L2.exIn L2.exRf L2.exSt L2.exSo quickV2 L2.exIn1 L2.exRf1 L2.exRf2 L2.exRf3 quickVM"
@[elab_as_elim] theorem L2.len1 {α:Type} {p:List α->Prop} (us:List α) (hl:us.length=1) (h:∀a,p [a]):p us:=
 match us,hl with
 | [a],_=>h a
@[elab_as_elim] theorem L2.len2 {α:Type} {p:List α->Prop} (us:List α) (hl:us.length=2) (h:∀a b,p [a,b]):p us:=
 match us,hl with
 | [a,b],_=>h a b
@[elab_as_elim] theorem L2.len3 {α:Type} {p:List α->Prop} (us:List α) (hl:us.length=3) (h:∀a b c,p [a,b,c]):p us:=
 match us,hl with
 | [a,b,c],_=>h a b c
@[elab_as_elim] theorem L2.len4 {α:Type} {p:List α->Prop} (us:List α) (hl:us.length=4) (h:∀a b c d,p [a,b,c,d]):p us:=
 match us,hl with
 | [a,b,c,d],_=>h a b c d
@[elab_as_elim] theorem L2.len5 {α:Type} {p:List α->Prop} (us:List α) (hl:us.length=5) (h:∀a b c d e,p [a,b,c,d,e]):p us:=
 match us,hl with
 | [a,b,c,d,e],_=>h a b c d e
theorem L2.hFld{C f a b D σ H}(h:L2.qz C f a b D σ H):L2.qz C f a b D σ H:=h
theorem L2.hPut{a b c D σ H}(h:L2.kP a b c D σ H):L2.kP a b c D σ H:=h
theorem L2.hRetN{D σ H}(h:L2.qv D σ H):L2.qv D σ H:=h
namespace L2
open PySem PySem.Spec PyProof.Rows
end L2
namespace L2
open PySem PySem.Calls PySem.Spec PyProof.Rows
section
variable{prog:Np}{w:Nu}{A:Nw}{E:Nk->Nn->Prop}{s:Nn}
end
section
variable{X:Cx}
end
section
variable{prog:Np}{w:Nu}{A:Nw}{E:Nk->Nn->Prop}{s:Nn}
end
section
variable{X:Cx}
end
end L2
namespace L2
open PySem PySem.Spec PyProof.Rows
def Bw:List V->Hp->VK->Prop:=λxs H Q=>∃p ys,xs= [.ref p]/\(H p=some (.tup ys)\/H p=some (.lst ys))/\Q (.int ys.length) H
theorem dE{X:Cx}:bG X (.builtin "len") Bw:=by
 intro RE s σ H xs us Q I r h
 obtain⟨p,ys,e,hp,q⟩:=h
 refine eV RE s σ H xs us Q I r ⟨p,ys,e,?_,q⟩
 rcases hp with hp | hp
 ·exact .inr (SqT.of hp)
 ·exact .inl (SqL.of hp)
end L2
namespace L2
open PySem
end L2
namespace L2
open PySem PySem.Spec PyProof.Rows
section
variable{X:Cx}{o e f:Expr}{ty tx:TE}{apos cpos:Pos}{a:Addr}{kvs:List (Key×V)}
end
section
variable{X:Cx}
end
section
variable{prog:Np}{w:Nu}{A:Nw}{E:Nk->Nn->Prop}
abbrev vJ(fs:Array Nk):Obj:={cls:=.type "enumerate",dict:=none,data:=.fields fs,slots:= #[]}
theorem mW{h:Heap}{g:Array P3}{d:Drawn}{tk:Nat}{os:PY}{e:Addr}{fs:Array Nk}{k:Nat}{v:Nk}{α:Type}{f:Unit->Sem α}{Q:α->Nn->Prop}(he:h.get? e=some (vJ fs))(hk:k<fs.size)
 (q:∀h',h'.get? e=some (vJ (fs.set! k v))->Heap.SameBut e h h'->Nr (model prog w) A (f ()) Q E ⟨h',g,d,tk,os⟩):Nr (model prog w) A (setField (.ref e) k v >>= f) Q E ⟨h,g,d,tk,os⟩:=
 Nj (NK he hk λh' he' hs'=>q h' he' hs')
end
open AutoSeq1 renaming wpAny_loadPart'→MG
section
variable{prog:Np}{w:Nu}{A:Nw}{E:Nk->Nn->Prop}{s:Nn}
end
end L2
namespace L2
open PySem PySem.Spec PyProof.Rows
section
variable{prog:Np}{w:Nu}{A:Nw}{E:Nk->Nn->Prop}{s:Nn}
end
section
variable{M:Qx}{A:Nw}{E:Nk->Nn->Prop}{s:Nn}{env:Env}
end
section
variable{prog:Np}{w:Nu}{A:Nw}{E:Nk->Nn->Prop}{s:Nn}
end
def met{K:Type}[DecidableEq K](val:Nat->K):Nat->K->Bool
 | 0,_=>false
 | i+1,k=>met val i k || decide (k=val i)
section
variable{prog:Np}{w:Nu}{A:Nw}{R:Result->Nn->Prop}{I:Addr}{fp wr:List Addr}{G:Array P3->Array P3->Prop}{n:Nat}{P:Nat->Nk->Prop}{St:Nat->Nn->Prop}{K:Type}[DecidableEq K]{knd:P5 prog w K}
end
section
variable{prog:Np}{w:Nu}{A:Nw}{E:Nk->Nn->Prop}{s:Nn}{K:Type}[DecidableEq K]{knd:P5 prog w K}
end
section
variable{X:Cx}
end
section
variable{X:Cx}{a:Expr}{ta:TE}{pos:Pos}
end
section
variable{prog:Np}{w:Nu}{K:Type}[DecidableEq K]{knd:HeapKind prog w K}{A:Nw}{E:Nk->Nn->Prop}{s:Nn}
end
section
variable{X:Cx}{RE:List (Addr×Obj)}{σ:St}{H:Hp}{s:Nn}{a b:Addr}{v:V}{r:Nk}{A:Nw}{E:Nk->Nn->Prop}{kvs:List (List Key×V)}{k:List Key}
end
section
variable{X:Cx}{o e f:Expr}{apos cpos:Pos}{td ty tx:TE}
end
end L2
namespace L2
open PySem PySem.W
theorem slot_type_ga:Slot "type" "__getattribute__" "type.__getattribute__":=
 Slot.of (owner:="type") (n:="__getattribute__") (by rw [typeLookup_type];rfl) (by decide) (by decide) (by decide) (Or.inl (by decide)) (by rw [isSubtype_type];rfl) (by decide)
theorem qc:entryFor table "type.__getattribute__" =some PySem.Builtin.«type.__getattribute__»:=entryFor_of_tree rfl
theorem rA:OO (.type "type") "__init__" =pure (some (.builtin "type.__init__")):=by rfl
theorem FC(X:K.In s.heap)(ty:OT K (.ref C)=some (.type "type"))(op:nsIn K Pg "thirdparty.any" =some none)(fi:NL K (.ref C) "__init__" =some (some (.ref f)))(fn:isFn K (.ref f)=true)(q:Q (.done (.ret (.ref f))) s):
 Nr (model prog w) A (PySem.Builtin.«type.__getattribute__» {pos:=[.ref C,.str "__init__" tk]}) Q E s:=by
 refine Nj (OR rfl ?_)
 refine Nj (looks_opaque X op A _ E s (λ_ _ h=>h) ?_)
 refine Nj (Pz X ty A _ E s (λ_ _ h=>h) ?_)
 refine Nj (OR rA ?_)
 refine Nj (PB X (r:=some (.builtin "wrapper_descriptor.__get__")) rfl A _ E s (λ_ _ h=>h) ?_)
 refine Nj (PB X rfl A _ E s (λ_ _ h=>h) ?_)
 refine Nj (PB X rfl A _ E s (λ_ _ h=>h) ?_)
 refine Nj (Nl ?_)
 refine Nj (looks_findIn X fi A _ E s (λ_ _ h=>h) ?_)
 have tf:OT K (.ref f)=some (.type "function"):=by
  exact eq_of_beq fn
 refine Nj (Pz X tf A _ E s (λ_ _ h=>h) ?_)
 apply PU rfl
 exact Nl q
theorem tG(X:K.In s.heap)(ty:OT K (.ref C)=some (.type "type"))(op:nsIn K Pg "thirdparty.any" =some none)(fi:NL K (.ref C) "__init__" =some (some (.ref f)))(fn:isFn K (.ref f)=true)(q:∀tk,Q (.ref f) {s with toks:=tk}):
 Nr (model prog w) A (Rs (.ref C) "__init__") Q E s:=by
 refine Nj (Nj (wpAny_fresh' (Nl ?_)))
 apply NA
 refine Nj (Pz X ty A _ E _ (λ_ _ h=>h) ?_)
 refine Nj (OR slot_type_ga.lookup ?_)
 apply Oa rfl
 refine Nj (Oa rfl (Nl ?_))
 refine Nj (Od (NA ?_))
 apply Oa rfl
 refine Nj (OR (slot_type_ga.bind _) ?_)
 refine QQ (codeAny_call_builtin slot_type_ga.plain qc ?_)
 refine slot_type_ga.check (model prog w) A.in1 _ _ (.ref C) [.str "__init__" s.toks] [] _ ?_ ?_ ?_
 ·have ty:(List.lookup C K).map (·.cls)=some (.type "type"):=ty
  cases e:List.lookup C K with
  | none=>simp_all
  | some o=>rw [e] at ty;exact⟨o,X _ _ e,Option.some.inj ty⟩
 ·exact(rfl)
 ·refine FC X ty op fi fn ?_
  exact Nl (q _)
theorem qe(X:K.In s.heap)(ty:OT K (.ref C)=some (.type "type"))(op:nsIn K Pg "thirdparty.any" =some none)(fi:NL K (.ref C) "__init__" =some (some (.ref f)))(fn:isFn K (.ref f)=true)(q:∀tk,Q (.ref f,[]) {s with toks:=tk}):
 Nr (model prog w) A (Ou (.ref C) "__init__" pl) Q E s:=by
 refine Nj (Nj (Pz X ty A _ E _ (λ_ _ h=>h) (OR slot_type_ga.lookup ?_)))
 apply PU rfl
 exact Nj (tG X ty op fi fn λtk=>Nl (q tk))
structure OkI(P:Np)(w:Nu)(K:Frag)(mg:Str->Option Nk)(base:Heap)(n:Nat)(x:Str)(ps:List Str)(sp:Sp):Prop where
 ex:∃C f fd,mg x=some (.ref C)/\OT K (.ref C)=some (.type "type")/\nsIn K Pg "thirdparty.any" =some none/\lW K C "__init__" f/\Binds K fd ps []/\d9 P w K mg base CX0 n f fd ps sp
theorem Cq{p apos pos:Pos}{pl:Sem Bool}(G:OkI X.prog X.w X.K X.mg X.base k x ps sp)(hr:Room n X.A)(hg:Gl X x)(ha:PA X (e::es) t)(hk:k<=n:=by lia)(hdb:(x==("__debug__":Str))=false:=by decide)(hs:(e::es).all bm=true:=by rfl)
 (ht:eval (.Call (.Attribute (.Name x p) "__init__" apos) (e::es) [] pos) X.env=(do
  let ov <-eval (.Name x p) X.env
  Pa apos.atName
  let (f,first) <-holding [ov] (Ou ov "__init__" pl)
  PL pos f first (Oi pos (Nt (e::es) X.env)) (Ov pos (N4 [] X.env))):=by rfl):PE X (.Call (.Attribute (.Name x p) "__init__" apos) (e::es) [] pos) (zh sp t):=by
 obtain⟨C,f,fd,hm,ty,op,M,hb,F⟩:=G.ex
 intro RE s σ H Q I h
 refine Mm (iN I hg hm ?_ hdb) ht
 refine qe I.kIn ty op M.at_ M.fn λtk=>?_
 have I1:Inv X RE σ H {s with toks:=tk}:=I.tok tk
 refine ME (first:=[]) I.ok.mod.kin M.kp (thn (ha pos RE _ σ H _ I1 h) λus s2 ⟨vs,H2,I2,r,q2⟩=>⟨I2.kIn,?_⟩) (dw (Bool.and_eq_true_iff.mp hs).1) (cX (Bool.and_eq_true_iff.mp hs).2)
 have e:=LQ vs
 exact fO F (hr.mono hk) hb .nil fH I2 r (e.symm▸q2)
end L2
namespace L2
open PySem PySem.Spec PyProof.Rows
section
variable{prog:Np}{w:Nu}{A:Nw}{E:Nk->Nn->Prop}{s:Nn}
abbrev ot(h:Heap)(z TI TO p:Addr)(b:Bool):Prop:=h.get? z=some {cls:=.type "zip",data:=.fields #[O4 p,.bool b,.bool false,.ref TI,.ref TO]}
theorem zF(h:s.heap.get? a=some o)(q:Q (some o) s):Nr M A (loadIfAlive a) Q E s:=λΓ p hΓ=>by
 unfold loadIfAlive
 rw [Sem.wp_loadIfAlive,h]
 exact Nl q Γ p hΓ
variable{z TI TO i j:Addr}{f1 f2:List Addr}{T1 T2:Nat->Heap->Prop}{e1 e2:Nat->Option Nk}
theorem uo(hz:ot s.heap z TI TO p bb)(hp:s.heap.get? p=some o)(q:∀h',ot h' z TI TO p true->Heap.SameBut z s.heap h'->Q false {s with heap:=h'}):Nr (model prog w) A (ND.SmallTypes.ownedTupleIsFree (.ref z)) Q E s:=by
 refine Nj (Nv hz rfl rfl ?_)
 refine Nj (zF hp ?_)
 apply Oa rfl
 refine Nj (Nv hz rfl (x:=.bool bb) rfl ?_)
 cases bb with
 | true=>
  refine Oa rfl (Nl ?_)
  exact q s.heap hz ⟨rfl,λ_ _=>rfl⟩
 | false=>
  apply PU rfl
  refine Nj (NK hz (by simp) λg1 z1 s1=>Nl ?_)
  exact q g1 z1 s1
theorem Cr(D:ZA z TI TO i j f1 f2)(N1:Nx prog w i f1 T1 e1)(N2:Nx prog w j f2 T2 e2)(hz:ot s.heap z TI TO p bb)(hp:s.heap.get? p=some op)(hTI:OL s.heap TI (.ref i) (.ref j))
 (t1:T1 k s.heap) (t2:T2 k s.heap) (hx:e1 k=some x) (hy:e2 k=some y)
 (hQ:∀h',ot h' z TI TO p true->T1 (k+1) h'->T2 (k+1) h'->OL h' s.heap.objs.size x y->(∀c o,c≠z->c≠i->c≠j->s.heap.get? c=some o->h'.get? c=some o)->Q (some (.ref s.heap.objs.size)) {s with heap:=h'}):
 Nr (model prog w) A (P0 (.ref z)) Q E s:=by
 have hT:s.TypeIs (.ref z) "zip":=⟨_,hz,rfl⟩
 refine Nj (Od (NB hT F.slot_zip_next (NF F.slot_zip_next hT F.entry_zip_next ?_ (F.args_zip_next_1 _))))
 show Nr _ _ (field (.ref z) 2 >>= _) _ _ _
 refine Nj (Nv hz rfl (x:=.bool false) rfl ?_)
 refine Nj (Nv hz rfl rfl ?_)
 refine Nj (NM hTI rfl ?_)
 refine Nj (uo hz hp λg1 z1 s1=>?_)
 apply Oa rfl
 apply Nj
 refine Nj (Nj (NA ?_))
 have t1a:=N1.keep k _ _ t1 λb hb o e=>s1.extBut _ _ (hb.elim (λq=>q▸D.iz) λq=>(D.a1 b q).1) e
 refine Nj (N1.next _ k x _ _ _ t1a hx λg2 t1b s2=>Nl (Nl ?_))
 refine Nj (Nj (NA ?_))
 have t2a:=N2.keep k _ _ t2 λb hb o e=>by
  have n:b≠z/\b≠i:=hb.elim (λq=>q▸⟨D.jz,D.ij.symm⟩) λq=>⟨(D.a2 b q).1,(D.a2 b q).2.2.1⟩
  exact s2.extBut _ _ n.2 (s1.extBut _ _ n.1 e)
 refine Nj (N2.next _ k y _ _ _ t2a hy λg3 t2b s3=>Nl (Nl (Nl ?_)))
 have sz:g3.objs.size=s.heap.objs.size:=by rw [s3.1,s2.1,s1.1]
 refine Nj (OI ?_ (by show 2<=Nm;decide))
 refine Nl ⟨_,rfl,Nl ?_⟩
 have k3:∀c o,c≠z->c≠i->c≠j->s.heap.get? c=some o->g3.get? c=some o:=λc o c1 c2 c3 e=>s3.extBut _ _ c3 (s2.extBut _ _ c2 (s1.extBut _ _ c1 e))
 have z3:=s3.extBut _ _ D.jz.symm (s2.extBut _ _ D.iz.symm z1)
 have t13:=N1.keep _ _ _ t1b λb hb o e=>s3.extBut _ _ (hb.elim (λq=>q▸D.ij) λq=>(D.a1 b q).2.2.2) e
 have pr:=Lp g3 (o:={cls:=.type "tuple",data:=.seq #[x,y]}) rfl
 rw [sz] at pr
 have up:∀c o,g3.get? c=some o->(g3.push {cls:=.type "tuple",data:=.seq #[x,y]}).get? c=some o:=λc o e=>Lk _ e
 rw [sz]
 exact hQ _ (up _ _ z3) (N1.keep _ _ _ t13 λb _ o e=>up b o e) (N2.keep _ _ _ t2b λb _ o e=>up b o e) pr λc o c1 c2 c3 e=>up c o (k3 c o c1 c2 c3 e)
theorem FD(hh:A.handled=none)(D:ZA z TI TO i j f1 f2)(N1:Nx prog w i f1 T1 e1)(N2:Nx prog w j f2 T2 e2)(hz:ot s.heap z TI TO p bb)(hp:s.heap.get? p=some op)(hTI:OL s.heap TI (.ref i) (.ref j))
 (t1:T1 k s.heap) (t2:T2 k s.heap) (hend:e1 k=none\/e2 k=none)
 (hQ:∀h',(∀c o,c≠z->c≠i->c≠j->s.heap.get? c=some o->h'.get? c=some o)->Q none {s with heap:=h'}):Nr (model prog w) A (P0 (.ref z)) Q E s:=by
 have hT:s.TypeIs (.ref z) "zip":=⟨_,hz,rfl⟩
 have fin:∀h' e,(∀c o,c≠z->c≠i->c≠j->s.heap.get? c=some o->h'.get? c=some o)->(∃o,h'.get? e=some o/\o.cls= .type "StopIteration")->Nr (model prog w) A (do if <-Qc (.ref e) (.type "StopIteration") then pure none else throw (.ref e)) Q E {s with heap:=h'}:=λh' e hk he=>by
  obtain⟨o,ho,hc⟩:=he
  exact Nj (Pn ⟨o,ho,hc⟩ PR (Nl (hQ _ hk)))
 refine Nj (Od (NB hT F.slot_zip_next (NF F.slot_zip_next hT F.entry_zip_next ?_ (F.args_zip_next_1 _))))
 show Nr _ _ (field (.ref z) 2 >>= _) _ _ _
 refine Nj (Nv hz rfl (x:=.bool false) rfl ?_)
 refine Nj (Nv hz rfl rfl ?_)
 refine Nj (NM hTI rfl ?_)
 refine Nj (uo hz hp λg1 z1 s1=>?_)
 apply Oa rfl
 apply Nj
 refine Nj (Nj (NA ?_))
 have t1a:=N1.keep k _ _ t1 λb hb o e=>s1.extBut _ _ (hb.elim (λq=>q▸D.iz) λq=>(D.a1 b q).1) e
 cases hx:e1 k with
 | none=>
  refine Nj (N1.done _ k _ _ _ hh t1a hx λg2 e s2 he=>?_)
  exact fin g2 e (λc o c1 c2 c3 q=>s2 _ _ c2 (s1.extBut _ _ c1 q)) he
 | some x=>
  have hy:e2 k=none:=by rcases hend with h | h;(rw [hx] at h;cases h);exact h
  refine Nj (N1.next _ k x _ _ _ t1a hx λg2 t1b s2=>Nl (Nl ?_))
  refine Nj (Nj (NA ?_))
  have t2a:=N2.keep k _ _ t2 λb hb o e=>by
   have n:b≠z/\b≠i:=hb.elim (λq=>q▸⟨D.jz,D.ij.symm⟩) λq=>⟨(D.a2 b q).1,(D.a2 b q).2.2.1⟩
   exact s2.extBut _ _ n.2 (s1.extBut _ _ n.1 e)
  refine Nj (N2.done _ k _ _ _ hh t2a hy λg3 e s3 he=>?_)
  exact fin g3 e (λc o c1 c2 c3 q=>s3 _ _ c3 (s2.extBut _ _ c2 (s1.extBut _ _ c1 q))) he
inductive ZI (prog:Np) (w:Nu) (e1 e2:Nat->Option Nk):Nat->List (Key×Nk)->Prop
 | nil {k:Nat}:e1 k=none\/e2 k=none->ZI prog w e1 e2 k []
 | cons {k:Nat} {key v:Nk} {kk:Key} {ps:List (Key×Nk)}:e1 k=some key->e2 k=some v->(ay prog w).is kk key=true->ZI prog w e1 e2 (k+1) ps->ZI prog w e1 e2 k ((kk,v)::ps)
theorem uq(hk:(ay prog w).is kk key=true)(hm:s.heap.DictOf (ay prog w) d cur)(hp:OL s.heap pr key v)(hsz:cur.length<1000)
 (q:∀h'',h''.DictOf (ay prog w) d (stored cur kk v)->Heap.SameBut d s.heap h''->OJ (model prog w) A (.builtin "dict.update.loop" ⟨[.ref d,.ref it,O4 ((k+1:Nat):Int),.none],[]⟩) R {s with heap:=h'',toks:=s.toks+1}):
 Nr (model prog w) A.in1 (do
  holding [.ref pr] do
   let pair <-(ND.Dict.pairItems (.ref pr)).tryCatch λe=>do
    let b <-Qc e (.type "TypeError")
    have jp:=λ__r=>do
     rule "dict.update.element-no-sequence"
     raiseErrorMade "TypeError" (toString "cannot convert dictionary update sequence element #"++toString (k:Int)++toString " to a sequence")
    if (!b) = true then do
        let __r <-throw e
        jp __r
     else jp ()
   match pair with
    | [k,v]=>holding [k,v] (dictSet d k v)
    | l=>do
     rule "dict.update.element-length"
     raiseErrorMade "ValueError" (toString "dictionary update sequence element #"++toString (k:Int)++toString " has length "++toString l.length++toString "; 2 is required")
  PySem.again (.builtin "dict.update.loop" ⟨[.ref d,.ref it,O4 ((k:Int)+1),.none],[]⟩))
  (λfin s'=>match fin with
   | .done f=>R (.ok f) s'
   | .again c'=>c'.quiet=true/\OJ (model prog w) A c' R s') (λe s'=>R (.error e) s') s:=by
 have hT:s.TypeIs (.ref pr) "tuple":=⟨_,hp,rfl⟩
 refine Nj (NA (Nj (wpAny_tryCatch ?_)))
 refine Nj (OX hT ?_)
 refine Nj (NM hp rfl (Nl ?_))
 refine NA (wpAny_dictSet_pairs hk hm (λh'' hm'' sb''=>?_) (by unfold Nm;lia))
 refine Nl ⟨Code.quiet_builtin _ (by decide),?_⟩
 exact q h'' hm'' sb''
structure ZD(d z TI TO i j:Addr)(f1 f2:List Addr):Prop where
 z:d≠z
 ti:d≠TI
 to:d≠TO
 i:d≠i
 j:d≠j
 f1:d∉f1
 f2:d∉f2
theorem Cs(hh:A.handled=none){d:Addr}(D:ZA z TI TO i j f1 f2)(DD:ZD d z TI TO i j f1 f2)(N1:Nx prog w i f1 T1 e1)(N2:Nx prog w j f2 T2 e2):∀(rest:List (Key×Nk)) (k:Nat) (s:Nn) (cur:List (Key×Nk)) (p:Addr) (bb:Bool) (op:Obj),ot s.heap z TI TO p bb->s.heap.get? p=some op->p≠z->p≠i->p≠j->p≠d->OL s.heap TI (.ref i) (.ref j)->T1 k s.heap->T2 k s.heap->ZI prog w e1 e2 k rest->
 s.heap.DictOf (ay prog w) d cur->cur.length+rest.length<=1000->
 (∀h' tk,h'.DictOf (ay prog w) d (rest.foldl (λc p=>stored c p.1 p.2) cur)->(∀b o,b≠d->b≠z->b≠i->b≠j->s.heap.get? b=some o->h'.get? b=some o)->R (.ok (.ret .none)) {s with heap:=h',toks:=tk})->
 OJ (model prog w) A (.builtin "dict.update.loop" ⟨[.ref d,.ref z,O4 k,.none],[]⟩) R s:=by
 intro rest
 induction rest with
 | nil=>
  intro k s cur p bb op hz hp _ _ _ _ hTI t1 t2 zi hm hsz hR
  apply Ow cP
  cases zi with
  | nil he=>
  refine Nj (FD hh D N1 N2 hz hp hTI t1 t2 he λh' eb=>?_)
  refine Nj (Nl (Nl ?_))
  obtain⟨o,es,ep,ho,r⟩:=hm
  exact hR h' s.toks ⟨o,es,ep,eb _ _ DD.z DD.i DD.j ho,r⟩ λb o _ nz ni nj e=>eb b o nz ni nj e
 | cons a rest ih=>
  intro k s cur p bb op hz hp pz pi pj pd hTI t1 t2 zi hm hsz hR
  apply Ow cP
  cases zi with
  | @cons _ key v kk _ hx hy hk zi=>
  refine Nj (Cr D N1 N2 hz hp hTI t1 t2 hx hy λh' z' t1' t2' pr' kp=>?_)
  obtain⟨o,es,ep,ho,r⟩:=hm
  refine uq (s:={s with heap:=h'}) hk ⟨o,es,ep,kp _ _ DD.z DD.i DD.j ho,r⟩ pr' (by rw [Lw] at hsz;lia) λh'' hm'' sb=>?_
  have IV:=Pm cur kk v
  have u:∀b o,b≠d->h'.get? b=some o->h''.get? b=some o:=λb o n e=>(sb.2 b n).trans e
  refine ih (k+1) _ (stored cur kk v) p true op (u _ _ DD.z.symm z') (u _ _ pd (kp _ _ pz pi pj hp)) pz pi pj pd (u _ _ DD.ti.symm (kp _ _ D.tz D.ti D.tj hTI)) (N1.keep _ _ _ t1' λb hb o e=>u b o (hb.elim (λq=>q▸DD.i.symm) λq z=>DD.f1 (z▸q)) e) (N2.keep _ _ _ t2' λb hb o e=>u b o (hb.elim (λq=>q▸DD.j.symm) λq z=>DD.f2 (z▸q)) e) zi hm'' (by rw [Lw] at hsz;lia) λh3 tk hm3 k3=>hR h3 tk hm3 λb o nd nz ni nj e=>k3 b o nd nz ni nj (u b o nd (kp b o nz ni nj e))
theorem Ct(hh:A.handled=none)(D:ZA z TI TO i j f1 f2)(DD:ZD d z TI TO i j f1 f2)(N1:Nx prog w i f1 T1 e1)(N2:Nx prog w j f2 T2 e2){rest:List (Key×Nk)}(hz:Rz s.heap z TI TO .none)(hTI:OL s.heap TI (.ref i) (.ref j))(hTO:OL s.heap TO a b)(t1:T1 0 s.heap)(t2:T2 0 s.heap)(zi:ZI prog w e1 e2 0 rest)(dl:∀b,s.heap.objs.size<=b->b≠d)
 (hm:s.heap.DictOf (ay prog w) d []) (hsz:rest.length<=900)
 (hR:∀h' tk,h'.DictOf (ay prog w) d (rest.foldl (λc p=>stored c p.1 p.2) [])->(∀b o,b≠d->b≠z->b≠TO->b≠i->b≠j->s.heap.get? b=some o->h'.get? b=some o)->R (.ok (.ret .none)) {s with heap:=h',toks:=tk}):
 OJ (model prog w) A (.builtin "dict.update.loop" ⟨[.ref d,.ref z,O4 ((0:Nat):Int),.none],[]⟩) R s:=by
 apply Ow cP
 cases zi with
 | nil he=>
  refine Nj (FA hh D N1 N2 hz hTI hTO t1 t2 he λh' eb=>?_)
  refine Nj (Nl (Nl ?_))
  obtain⟨o,es,ep,ho,r⟩:=hm
  exact hR h' s.toks ⟨o,es,ep,eb _ _ DD.z DD.to DD.i DD.j ho,r⟩ λb o _ nz nt ni nj e=>eb b o nz nt ni nj e
 | @cons _ key v kk ps hx hy hk zi=>
  refine Nj (Co D N1 N2 hz hTI hTO t1 t2 hx hy λh' z' o' t1' t2' pr' sz' kp=>?_)
  obtain⟨o,es,ep,ho,r⟩:=hm
  refine uq (s:={s with heap:=h'}) hk ⟨o,es,ep,kp _ _ DD.z DD.to DD.i DD.j ho,r⟩ pr' (by decide) λh'' hm'' sb=>?_
  have u:∀b o,b≠d->h'.get? b=some o->h''.get? b=some o:=λb o n e=>(sb.2 b n).trans e
  have lt:∀b o,s.heap.get? b=some o->s.heap.objs.size≠b:=λb o e z=>by
   rw [<-z] at e;exact L8 _ (LG e)
  have ni:=N1.obj _ _ t1
  have nj:=N2.obj _ _ t2
  obtain⟨oi,hi,_⟩:=ni
  obtain⟨oj,hj,_⟩:=nj
  have IV:=Pm [] kk v
  refine Cs hh D DD N1 N2 ps 1 _ (stored [] kk v) s.heap.objs.size false _ (u _ _ DD.z.symm z') (u _ _ (dl _ (Nat.le_refl _)) pr') (lt _ _ hz) (lt _ _ hi) (lt _ _ hj) (dl _ (Nat.le_refl _)) (u _ _ DD.ti.symm (kp _ _ D.tz D.to D.ti D.tj hTI)) (N1.keep _ _ _ t1' λb hb o e=>u b o (hb.elim (λq=>q▸DD.i.symm) λq z=>DD.f1 (z▸q)) e) (N2.keep _ _ _ t2' λb hb o e=>u b o (hb.elim (λq=>q▸DD.j.symm) λq z=>DD.f2 (z▸q)) e) zi hm'' (by rw [Lw] at hsz;simp only [Mr] at IV;lia) λh3 tk hm3 k3=>hR h3 tk hm3 λb o nd nz nt ni nj e=>k3 b o nd nz ni nj (u b o nd (kp b o nz nt ni nj e))
theorem ow(a:Addr)(fs:Array Nk)(name:Str)(u:Tok)(hmiss:OO (.type "zip") name=pure none)(hname:[Str.ofString "__module__",Str.ofString "__name__",Str.ofString "__qualname__",Str.ofString "__doc__",Str.ofString "__annotations__"].contains name=false)(hsz:(Str.ofString (toString "'"++toString ((Manifest.find? "zip").elim "zip" λx=>x.tpName)++toString "' object has no attribute '")++name++Str.ofString "'").length<=Nm):
 Meets (PySem.Builtin.«object.__getattribute__» {pos:=[.ref a,.str name u]}) λA R s=>s.heap.get? a=some {cls:=.type "zip",data:=.fields fs}/\raisesAttr (.ref a) name A R s:=by
 refine Meets.of_wp λprog w A R s hs=>?_
 obtain⟨hx,hA,hs⟩:=hs
 repeat (any_goals (first | assumption | exact hT _ | wp_step))
 rw [hname]
 repeat (any_goals (first | assumption | exact hT _ | wp_step))
 exact wpAny_raiseAttrError hA (λh' tk e n=>hs h' tk e n) hsz
theorem qf:OO (.type "zip") "keys" =pure none:=by rfl
theorem md:OO (.type "zip") "__getattr__" =pure none:=by rfl
theorem rB:entryFor table "zip.__getattribute__" =some ND.«object.__getattribute__»:=entryFor_alias (by kernel_rfl) rfl (show _= "object.__getattribute__" by decide) (by kernel_rfl)
theorem qg
 (hx:s.heap.get? a=some {cls:=.type "zip",data:=.fields fs}) (hA:A.handled=none)
 (h:∀h' tk,(∀b o,s.heap.get? b=some o->h'.get? b=some o)->Q none {s with heap:=h',toks:=tk}):Nr (model prog w) A (getAttr? (.ref a) "keys") Q E s:=by
 obtain⟨hp,g,d,tk,os⟩:=s
 have hT:∀tk',(⟨hp,g,d,tk',os⟩:Nn).TypeIs (.ref a) "zip":=λ_=>⟨_,hx,rfl⟩
 have f1:=sub_AttributeError
 have f3:=F.slot_zip_getattribute.lookup
 have f4:=F.slot_zip_getattribute.bind (.ref a)
 have f5:=md
 repeat (any_goals (first | assumption | exact hT _ | ((with_reducible show Nr _ _ (call (Nk.builtin "zip.__getattribute__") _ _) _ _ _);refine O5 F.slot_zip_getattribute (hT _) rB (F.args_zip_getattribute_2 _ _) (ow a fs "keys" _ qf (by decide) (by decide)) ⟨hx,hA,λh' tk' e hx'=>?_⟩) | wp_step))
 obtain⟨t',u',he⟩:=hx'.there
 show Nr _ _ (getattributeRaised _ _ _ _ _ _ _) _ _ _
 repeat (any_goals (first | assumption | exact hE _ | exact h _ _ hx'.keeps | wp_step))
theorem rC(l1 l2:Addr)(xs ys:Array Nk):
 Meets (ND.«zip.__new__» ⟨[.type "zip",.ref l1,.ref l2],[]⟩) (λ_ R s=>s.heap.IsTuple l1 xs/\s.heap.IsTuple l2 ys/\R (.ok (.ret (.ref (zA s.heap (zO "tuple_iterator" l1) (zO "tuple_iterator" l2))))) {s with heap:=zG s.heap (zO "tuple_iterator" l1) (zO "tuple_iterator" l2)}):=
 .of_wp λprog w A R s h=>by
  obtain⟨hp,g,d,tk,os⟩:=s;obtain⟨hl1,hl2,h⟩:=h
  have hsub:=sub_zip
  have hL1:=hl1
  have hL2:Heap.IsTuple (Nn.heap ⟨hp.push (zO "tuple_iterator" l1),g,d,tk,os⟩) l2 ys:=by
   obtain⟨o,e,r⟩:=hl2
   exact⟨o,Lk _ e,r⟩
  wp_walk using NJ hL1,NJ hL2
  exact⟨_,rfl,h⟩
theorem tH(hl1:s.heap.IsTuple l1 xs)(hl2:s.heap.IsTuple l2 ys)(h:Q (.ref (s.heap.objs.size+4)) {s with heap:=zG s.heap (zO "tuple_iterator" l1) (zO "tuple_iterator" l2)}):
 Nr (model prog w) A (call (.type "zip") [.ref l1,.ref l2]) Q E s:=by
 refine Ql F.called_zip (by decide) (F.typeCall_zip_2 _ _) (F.newCall_zip_2 _ _) (λobj=>F.args_object_init_3 obj _ _) F.entry_zip_new (rC l1 l2 xs ys) ⟨hl1,hl2,?_⟩
 have g:=(mV s.heap (zO "tuple_iterator" l1) (zO "tuple_iterator" l2) rfl rfl).1
 rw [Bu]
 exact⟨⟨_,g,rfl⟩,h⟩
end
section
variable{X:Cx}
theorem rD{σ:St}{l1 l2:Addr}(I:Inv X RE σ H s)(hh:X.A.handled=none)(f1:o1.isFreed=false)(f2:o2.isFreed=false)(b1:l1<s.heap.objs.size)(b2:l2<s.heap.objs.size)
 (N1:Nx X.prog X.w s.heap.objs.size [l1] T1 e1) (N2:Nx X.prog X.w (s.heap.objs.size+1) [l2] T2 e2) (t1:T1 0 (zG s.heap o1 o2)) (t2:T2 0 (zG s.heap o1 o2)) (zi:ZI X.prog X.w e1 e2 0 us) (hK:KV ps us) (hsz:ps.length<=900)
 (q:∀h' tk l,H l=none->Inv X RE σ (upd H l (.dK (di ps))) {s with heap:=h',toks:=tk}->Q (.ref l) {s with heap:=h',toks:=tk}):
 Nr (model X.prog X.w) X.A (call (.type "dict") [.ref (s.heap.objs.size+4)]) Q E {s with heap:=zG s.heap o1 o2}:=by
 obtain⟨z1,z2,z3,z4,z5,z6,z7⟩:=mV s.heap o1 o2 f1 f2
 have D:ZA (s.heap.objs.size+4) (s.heap.objs.size+2) (s.heap.objs.size+3) s.heap.objs.size (s.heap.objs.size+1) [l1] [l2]:=FB _ _ _ b1 b2
 generalize zG s.heap o1 o2=h0 at *
 apply callType_codes (Q₁:=λobj s₁=>obj= .ref h0.objs.size/\s₁={s with heap:=h0.push {cls:=.type "dict",data:=.dict #[]}}) F.kt_called_dict (F.kt_typeCall_dict_1 _) F.entry_dict_init (kt_code_dict_new _ ⟨rfl,rfl⟩)
 rintro obj s₁ ⟨rfl,rfl⟩
 have hnew:(h0.push {cls:=.type "dict",data:=.dict #[]}).DictOf (ay X.prog X.w) h0.objs.size []:=Heap.DictOf.new h0
 have e1:Rz (h0.push {cls:=.type "dict",data:=.dict #[]}) (s.heap.objs.size+4) (s.heap.objs.size+2) (s.heap.objs.size+3) .none:=Lk _ z1
 have hT:({s with heap:=h0.push {cls:=.type "dict",data:=.dict #[]}}:Nn).TypeIs (.ref (s.heap.objs.size+4)) "zip":=⟨_,e1,rfl⟩
 refine⟨hnew.typeIs,F.args_dict_init_2 _ _,?_⟩
 apply Nj
 refine Nj (wpAny_notOrdered_dict hnew.typeIs ?_)
 apply Nl
 refine Nj (OX hT ?_)
 refine Nj (qg e1 hh λh1 tk1 k1=>?_)
 have ln:∀b o,h0.get? b=some o->h1.get? b=some o:=λb o e=>k1 _ _ (Lk _ e)
 have hm1:h1.DictOf (ay X.prog X.w) h0.objs.size []:=by
  obtain⟨o,es,ep,ho,r⟩:=hnew
  exact⟨o,es,ep,k1 _ _ ho,r⟩
 have lt1:h0.objs.size<h1.objs.size:=by
  obtain⟨o,es,ep,ho,r⟩:=hm1
  exact LG ho
 refine Nj (OD ?_)
 refine Nj (wpAny_pyIter_zip (s:={s with heap:=h1,toks:=tk1}) (ln _ _ z1) ?_)
 refine Nl ⟨Code.quiet_builtin _ (by decide),?_⟩
 have hlu:=(KV.length hK).symm
 have nd:∀b,b<s.heap.objs.size+5->h0.objs.size≠b:=λb hb e=>by rw [z6] at e;exact L8 _ (e▸hb)
 have DD:ZD h0.objs.size (s.heap.objs.size+4) (s.heap.objs.size+2) (s.heap.objs.size+3) s.heap.objs.size (s.heap.objs.size+1) [l1] [l2]:=⟨nd _ (ML _),nd _ (by lia),nd _ (by lia),nd _ (by lia),nd _ (by lia),λz=>nd l1 (Ly b1 (by lia)) (List.mem_singleton.mp z),λz=>nd l2 (Ly b2 (by lia)) (List.mem_singleton.mp z)⟩
 have up:=ln
 refine Ct (A:=X.A.in1) hh D DD N1 N2 (up _ _ z1) (up _ _ z2) (up _ _ z3) (N1.keep _ _ _ t1 λb _ o e=>up b o e) (N2.keep _ _ _ t2 λb _ o e=>up b o e) zi (λb hb e=>by rw [e] at hb;exact L8 _ (Ly lt1 hb)) hm1 (by lia) λh2 tk2 hm2 k2=>?_
 refine⟨rfl,?_⟩
 have kp:∀b o,s.heap.get? b=some o->h2.get? b=some o:=λb o e=>by
  have lb:=LG e
  have n:∀m,b≠s.heap.objs.size+m:=λm z=>by rw [z] at lb;exact L8 _ (L7 (Mx _ _) lb)
  exact k2 b o (λz=>nd b (Ly lb (by lia)) z.symm) (n 4) (n 3) (n 0) (n 1) (ln b o (z7 b o e))
 have le0:s.heap.objs.size<=h0.objs.size:=by rw [z6];lia
 have fr:=I.hok.fresh le0
 have hs:=beq_eq_false_iff_ne.mpr (L5 (Ly I.big le0))
 have kv:=rf hK .nil
 have le:=pD ps
 have I2:=I.laid (o:=.dK (di ps)) (t':=tk2) kp le0 (show ObjOk X.prog X.w _ h2 _ (.dK (di ps)) from ⟨by unfold Nm;lia,hs,_,kv,hm2⟩)
 exact q h2 tk2 _ fr I2
theorem Bx{w:Nu}{e1 e2:Nat->Option Nk}:∀(ks:List Key) (ys:List V) (a b:List Nk) (n:Nat),(∀i,e1 (n+i)=a[i]?)->(∀i,e2 (n+i)=b[i]?)->Vals (ks.map kV) a->Vals ys b->∃us,ZI prog w e1 e2 n us/\KV (ks.zip ys) us:=by
 intro ks
 induction ks with
 | nil=>
  intro ys a b n h1 h2 r1 r2
  cases r1
  exact⟨[],.nil (.inl (by have:=h1 0;simpa using this)),.nil⟩
 | cons k ks ih=>
  intro ys a b n h1 h2 r1 r2
  cases r2 with
  | nil=>exact⟨[],.nil (.inr (by have:=h2 0;simpa using this)),.nil⟩
  | @cons y v ys b rv r2=>
   cases r1 with
   | @cons _ key _ a rk r1=>
    obtain⟨us,z,kv⟩:=ih ys a b (n+1) (λi=>by have:=h1 (i+1);rw [L6] at this;rw [<-this];congr 1;lia) (λi=>by have:=h2 (i+1);rw [L6] at this;rw [<-this];congr 1;lia) r1 r2
    exact⟨(k,v)::us,.cons (by have:=h1 0;simpa using this) (by have:=h2 0;simpa using this) (eW rk) z,.cons ⟨rfl,rv⟩ kv⟩
def rE(K:MF)(ta:TA):TE:=λσ H Q=>ta σ H λvs H1=>∃(a b:Addr) (ks:List Key) (ys:List V),vs= [.ref a,.ref b]/\SqT K H1 a (ks.map kV)/\(SqL K H1 b ys\/SqT K H1 b ys)/\ks.length<=900/\∀l H',H1 l=none->Same H1 H'->H' l=some (.dK (di (ks.zip ys)))->Q (.ref l) H'
theorem vK{p1 p2 pos1 pos2:Pos}(hg:Gl X "dict")(hm:X.mg "dict" =none)(hg2:Gl X "zip")(hm2:X.mg "zip" =none)(ha:PA X [a,b] ta)(hc:X.calm=true:=by rfl)(hs:Nt [a,b] X.env=(false,eval a X.env)::Nt [b] X.env:=by rfl)(hs3:Nt [b] X.env= [(false,eval b X.env)]:=by rfl)(hs2:Nt [.Call (.Name "zip" p2) [a,b] [] pos2] X.env= [(false,eval (.Call (.Name "zip" p2) [a,b] [] pos2) X.env)]:=by rfl):PE X (.Call (.Name "dict" p1) [.Call (.Name "zip" p2) [a,b] [] pos2] [] pos1) (rE X.K ta):=by
 intro RE s σ H Q I h
 refine Call_ (gH I hg hm (show NN "dict" =some (.type "dict") by decide) (NP ?_ hs2 rfl))
 apply Calls.spliced_cons
 refine Call_ (gH I hg2 hm2 (show NN "zip" =some (.type "zip") by decide) (NP (thn (ha pos2 RE s σ H _ I h) λus s1 y=>?_) hs (by rw [hs3];rfl)))
 obtain⟨vs,H1,I1,r1,q1⟩:=y
 obtain⟨l1,l2,ks,ys,e,hq1,hq2,hl,q⟩:=q1
 subst e
 cases r1 with
 | cons r rr=>
  cases rr with
  | cons r' rr=>
   cases rr
   cases r
   cases r'
   obtain⟨its1,rv1,p1,hz1⟩:=I1.tuple hq1
   have t1:=p1
   have b1:l1<s1.heap.objs.size:=by obtain⟨_,e,_⟩:=t1;exact LG e
   have hzl:(ks.zip ys).length<=900:=by rw [MW];lia
   have fin:∀h' tk l,H1 l=none->Inv X RE σ (upd H1 l (.dK (di (ks.zip ys)))) {s1 with heap:=h',toks:=tk}->EP X RE σ Q (.ref l) {s1 with heap:=h',toks:=tk}:=λh' tk l hl I2=>⟨.ref l,_,I2,rfl,q l _ hl (bh hl _) aB⟩
   have o:∀(l:Addr) (m:Nat),l<s1.heap.objs.size->l≠s1.heap.objs.size+m:=λl m h z=>by rw [z] at h;exact L8 _ (L7 (Mx _ _) h)
   rcases hq2 with hq2 | hq2
   ·obtain⟨its2,rv2,p2,hz2⟩:=I1.list hq2
    have b2:l2<s1.heap.objs.size:=by obtain⟨_,e,_⟩:=p2.isList;exact LG e
    apply tF t1 p2.isList
    apply Calls.spliced_nil
    obtain⟨z1,z2,z3,z4,z5,z6,z7⟩:=mV s1.heap (zO "tuple_iterator" l1) (zO "list_iterator" l2) rfl rfl
    obtain⟨us,zi,kv⟩:=Bx (e1:=λk=>its1.toArray[k]?) (e2:=λk=>its2.toArray[k]?) ks ys its1 its2 0 (λi=>by simp) (λi=>by simp) rv1 rv2
    obtain⟨o1,e1,w1⟩:=t1
    obtain⟨o2,e2,w2⟩:=p2.isList
    exact rD I1 (I1.ok.hd hc) rfl rfl b1 b2 (gO _ l1 its1.toArray (o l1 0 b1)) (Cn _ l2 its2.toArray (o l2 1 b2)) ⟨⟨_,z4,rfl,rfl⟩,o1,z7 _ _ e1,w1⟩ ⟨⟨_,z5,rfl,rfl⟩,o2,z7 _ _ e2,w2⟩ zi kv hzl fin
   ·obtain⟨its2,rv2,p2,hz2⟩:=I1.tuple hq2
    have t2:=p2
    have b2:l2<s1.heap.objs.size:=by obtain⟨_,e,_⟩:=t2;exact LG e
    apply tH t1 t2
    apply Calls.spliced_nil
    obtain⟨z1,z2,z3,z4,z5,z6,z7⟩:=mV s1.heap (zO "tuple_iterator" l1) (zO "tuple_iterator" l2) rfl rfl
    obtain⟨us,zi,kv⟩:=Bx (e1:=λk=>its1.toArray[k]?) (e2:=λk=>its2.toArray[k]?) ks ys its1 its2 0 (λi=>by simp) (λi=>by simp) rv1 rv2
    obtain⟨o1,e1,w1⟩:=t1
    obtain⟨o2,e2,w2⟩:=t2
    exact rD I1 (I1.ok.hd hc) rfl rfl b1 b2 (gO _ l1 its1.toArray (o l1 0 b1)) (gO _ l2 its2.toArray (o l2 1 b2)) ⟨⟨_,z4,rfl,rfl⟩,o1,z7 _ _ e1,w1⟩ ⟨⟨_,z5,rfl,rfl⟩,o2,z7 _ _ e2,w2⟩ zi kv hzl fin
def xM:List V->Hp->VK->Prop:=λxs H Q=>∃(p d:Addr) (kvs:List (Key×V)),xs= [.ref p]/\H p=some (DV p d)/\H d=some (.dK kvs)/\kvs.length<1000/\∀l H',H l=none->Same H H'->H' l=some (.lst (kvs.map (·.2)))->Q (.ref l) H'
theorem vL(hc:X.calm=true:=by rfl):bG X (.type "list") xM:=by
 intro RE s σ H xs us Q I r h
 obtain⟨p,d,kvs,rfl,hp,hd,hz,q⟩:=h
 obtain⟨u,rfl,ru⟩:=fF r
 cases ru
 obtain⟨z1,z2,vs,rel,o,es,ep,ho,rr⟩:=ii I.hok hd
 have hv:s.heap.IsValuesView p d:=(show ObjOk X.prog X.w H s.heap p (DV p d) from I.hok p _ hp).1
 have hl:kvs.length=vs.length:=rel.length
 have big:1000<=Nm:=by unfold Nm;decide
 refine Ng (PySem.W.kdl_values (knd:=ay X.prog X.w) (r:=p) (kvs:=vs) (ep:=ep)) (I.ok.hd hc) ⟨hv,o,es,ho,rr⟩ (by lia) λh' tk acc c' hk hS hacc=>?_
 have fr:H s.heap.objs.size=none:=I.hok.fresh (Nat.le_refl _)
 have rv:Vals (kvs.map (·.2)) acc.toList:=by
  refine oq _ _ (by rw [Array.length_toList,hacc.1,Ln,hl]) λj v hj=>?_
  obtain⟨k,e⟩:=hacc.2 j v (by rw [<-Array.getElem?_toList];exact hj)
  have lt:j<kvs.length:=by rw [hl];exact(List.getElem?_eq_some_iff.mp e).1
  obtain⟨u,hx,ru⟩:=mT rel (k:=kvs[j].1) (x:=kvs[j].2) (Lo lt)
  rw [hx] at e
  cases e
  exact⟨kvs[j].2,by rw [LF,Lo lt];rfl,ru⟩
 have I2:=I.laid (a:=s.heap.objs.size) (o:=.lst (kvs.map (·.2))) (t':=tk) hk (Nat.le_refl _) (show ObjOk X.prog X.w _ h' _ (.lst _) from ⟨by rw [Ln];lia,acc.toList,c',rv,by simpa using hS⟩)
 exact⟨.ref s.heap.objs.size,_,I2,rfl,q _ _ fr (bh fr _) aB⟩
end
section
variable{prog:Np}{w:Nu}{A:Nw}{E:Nk->Nn->Prop}
theorem zH(N:Nx prog w it fp T item)(hf:e∉fp)(he:Rl s.heap e it c old)(hit:T i s.heap)(hx:item i=some x)(hne:e≠it)
 (hQ:∀h',IsEnumOut h' e it (c+1) x s.heap.objs.size->T (i+1) h'->h'.get? s.heap.objs.size=some {cls:=.type "tuple",data:=.seq #[.int c s.toks,x]}->h'.objs.size=s.heap.objs.size+1->
  (∀b o,b≠e->b≠it->s.heap.get? b=some o->h'.get? b=some o)->Q (some (.ref s.heap.objs.size)) {s with heap:=h',toks:=s.toks+1}):Nr (model prog w) A (P0 (.ref e)) Q E s:=by
 have hT:s.TypeIs (.ref e) "enumerate":=⟨_,he,rfl⟩
 refine Nj (Od (NB hT F.slot_enumerate_next (NF F.slot_enumerate_next hT F.entry_enumerate_next ?_ (F.args_enumerate_next_1 _))))
 obtain⟨hp,g,d,tk,os⟩:=s
 have he0:=he
 have ne':=Ne.symm hne
 have lt:=LG he0
 show Nr _ _ (field (.ref e) 2 >>= _) _ _ _
 refine Nj (Nv he0 rfl rfl (Nj (N.next _ i x _ _ _ hit hx λh1 it1 (s1:Heap.SameBut it hp h1)=>?_)))
 have e1:=(s1.2 e hne).trans he0
 refine Nj (Nv e1 rfl rfl ?_)
 refine Nj (Nv e1 rfl rfl ?_)
 refine Nj (wpAny_mkInt ?_)
 show Nr _ _ (setField (.ref e) 3 (O4 (c+1)) >>= _) _ _ ⟨h1,g,d,tk+1,os⟩
 refine mW e1 (by simp) λh2 e2 s2=>mW e2 (by simp) λh3 e3 s3=>Nj (OI ?_)
 have z3:h3.objs.size=hp.objs.size:=by rw [s3.1,s2.1,s1.1]
 obtain⟨h4,e4⟩:∃h4,h4=h3.push {cls:=.type "tuple",data:=.seq #[.int c tk,x]}:=⟨_,rfl⟩
 have k4:∀b o,h3.get? b=some o->h4.get? b=some o:=λb o q=>by rw [e4];exact Lk _ q
 have t4:h4.get? hp.objs.size=some {cls:=.type "tuple",data:=.seq #[.int c tk,x]}:=by rw [e4,<-z3];exact Lp _ rfl
 have z4:h4.objs.size=hp.objs.size+1:=by rw [e4,LS,z3]
 have r4:=k4 _ _ e3
 have i4:=N.keep _ _ _ it1 λb hb o q=>k4 b o (s3.extBut b o (hb.elim (λz=>z▸ne') λz y=>hf (y▸z)) (s2.extBut b o (hb.elim (λz=>z▸ne') λz y=>hf (y▸z)) q))
 rw [<-e4,z3]
 refine Nj (Nj (Nv r4 rfl rfl (Nl ?_)))
 refine Nj (OD (Nj (Nv r4 rfl (x:=old) rfl (mW r4 (by simp) λh5 e5 s5=>?_))))
 refine Nj (mW e5 (by simp) λh6 e6 s6=>NK e6 (by simp) λh7 e7 s7=>Nj (PX (Nl ⟨_,rfl,Nl (hQ h7 e7 ?_ ?_ ?_ ?_)⟩)))
 ·exact N.keep _ _ _ i4 λb hb o q=>by
   have n:b≠e:=hb.elim (λz=>z▸ne') λz y=>hf (y▸z)
   exact s7.extBut b o n (s6.extBut b o n (s5.extBut b o n q))
 ·have n:=L5 lt
  exact s7.extBut _ _ n (s6.extBut _ _ n (s5.extBut _ _ n t4))
 ·rw [s7.1,s6.1,s5.1,z4]
 ·exact λb o n1 n2 q=>s7.extBut b o n1 (s6.extBut b o n1 (s5.extBut b o n1 (k4 b o (s3.extBut b o n1 (s2.extBut b o n1 (s1.extBut b o n2 q))))))
end
theorem Cu(l:Addr)(items:Array Nk):
 Meets (ND.«enumerate.__new__» ⟨[.type "enumerate",.ref l],[]⟩) (λ_ R s=>s.heap.IsTuple l items/\
  R (.ok (.ret (.ref (s.heap.push {cls:=.type "tuple_iterator",data:=.fields #[.ref l,.int 0 0]}).objs.size)))
   {s with heap:=(s.heap.push {cls:=.type "tuple_iterator",data:=.fields #[.ref l,.int 0 0]}).push (vJ #[.none,.bool false,.ref s.heap.objs.size,O4 0,.none,.none])}):=
 .of_wp λprog w A R s h=>by
  obtain⟨hp,g,d,tk,os⟩:=s;obtain⟨hl,h⟩:=h
  have hsub:=sub_enumerate
  have hL:=hl
  wp_walk using NJ hL
  refine wpAny_stack_any λst=>Nl ?_
  split
  ·rename_i c _ _ _ _ _
   cases (c==Nk.type "enumerate")
   ·wp_walk using NJ hL
    exact⟨_,rfl,h⟩
   ·wp_walk using NJ hL
    exact⟨_,rfl,h⟩
  ·wp_walk using NJ hL
   exact⟨_,rfl,h⟩
theorem Cv(N:Nx prog w it fp T item)(hh:A.handled=none)(he:Rl s.heap e it c old)(hit:T i s.heap)(hx:item i=none)
 (hQ:∀h',Heap.ExtBut it s.heap h'->Q none {s with heap:=h'}):Nr (model prog w) A (P0 (.ref e)) Q E s:=by
 have hT:s.TypeIs (.ref e) "enumerate":=⟨_,he,rfl⟩
 refine Nj (Od (NB hT F.slot_enumerate_next (NF F.slot_enumerate_next hT F.entry_enumerate_next ?_ (F.args_enumerate_next_1 _))))
 show Nr _ _ (field (.ref e) 2 >>= _) _ _ _
 refine Nj (Nv he rfl rfl (Nj (N.done _ i _ _ _ hh hit hx λh' x g ⟨o,ho,hc⟩=>?_)))
 exact Nj (Pn ⟨o,ho,hc⟩ PR (Nl (hQ _ g)))
theorem jC{s:Nn}(hL:s.heap.IsTuple l items)
 (h:∀h',Rl h' (s.heap.objs.size+1) s.heap.objs.size 0 .none->h'.IsTupleIter s.heap.objs.size l 0->h'.objs.size=s.heap.objs.size+2->
  (∀b o,s.heap.get? b=some o->h'.get? b=some o)->Q (.ref (s.heap.objs.size+1)) {s with heap:=h'}):
 Nr (model prog w) A (call (.type "enumerate") [.ref l]) Q E s:=by
 refine Ql F.called_enumerate (by decide) (F.typeCall_enumerate_1 _) (F.newCall_enumerate_1 _) (λobj=>F.args_object_init_2 obj _) F.entry_enumerate_new
  (Cu l items) ⟨hL,?_⟩
 have hz:(s.heap.push {cls:=.type "tuple_iterator",data:=.fields #[.ref l,.int 0 0]}).objs.size=s.heap.objs.size+1:=LS ..
 rw [hz]
 have he:Rl ((s.heap.push {cls:=.type "tuple_iterator",data:=.fields #[.ref l,.int 0 0]}).push
  {cls:=.type "enumerate",data:=.fields #[.none,.bool false,.ref s.heap.objs.size,O4 0,.none,.none]}) (s.heap.objs.size+1) s.heap.objs.size 0 .none:=by
  have:=Lp (s.heap.push {cls:=.type "tuple_iterator",data:=.fields #[.ref l,.int 0 0]})
   (o:={cls:=.type "enumerate",data:=.fields #[.none,.bool false,.ref s.heap.objs.size,O4 0,.none,.none]}) rfl
  rw [hz] at this;exact this
 refine⟨⟨_,he,rfl⟩,h _ he ⟨_,Lk _ (Lp _ rfl),rfl,rfl⟩ (by rw [LS,hz]) λb o x=>Lk _ (Lk _ x)⟩
theorem By(he:Rl h e it c old)(hit:h.IsTupleIter it a i)(ht:h.IsTuple a xs):e≠a/\a≠it:=by
 obtain⟨o,ho,hc,_⟩:=hit
 obtain⟨o2,ho2,hc2,_⟩:=ht
 refine⟨λz=>?_,λz=>?_⟩
 ·grind
 ·grind
def ItT(K:MF)(a:Addr):It:=
 ⟨λi H=>∃xs x,SqT K H a xs/\xs[i]? =some x,λi H v H'=>∃p x,v= .ref p/\H p=none/\Same H H'/\H' p=some (.tup [.int i,x])/\∀xs,SqT K H a xs->xs[i]? =some x,λi H=>∃xs,SqT K H a xs/\xs.length<=i⟩
theorem vM{K:MF}(a e it:Addr)(hne:e≠it):
 lV P w K (.Tuple elts kk tpos) (ItT K a) [e,it] e (λi h=>(∃old,Rl h e it i old)/\h.IsTupleIter it a i) where
 mem:=by simp
 obj:=λi h st b hb=>by
  obtain⟨⟨old,he⟩,o,ho,c,d⟩:=st
  rcases List.mem_cons.mp hb with rfl | hb
  ·simp_all
  ·simp_all
 keep:=λi h h' y k=>by obtain⟨⟨old,he⟩,hit⟩:=y;exact⟨⟨old,k e (by simp) _ he⟩,hit.at λo q=>k it (by simp) o q⟩
 item:=by
  intro X hP hw hK hc i RE s σ H E I hf st hg
  subst hP hw hK
  obtain⟨xs,x,hq,hx⟩:=hg
  obtain⟨⟨old,he⟩,hit⟩:=st
  obtain⟨its,rv,p,hz⟩:=I.tuple hq
  obtain⟨u,hu,ru⟩:=rv.get hx
  have nl:=By he hit p
  refine zH (gO it a _ nl.2) (by simpa using λz=>nl.1 z) he ⟨hit,p⟩ (by simpa using hu) hne λh' ho hit'0 hT hsz hk=>?_
  have hit':=hit'0.1
  refine⟨_,rfl,wpAny_letOwnedTupleGo_enum ho λh'' he'' hs=>?_⟩
  have helt:=LG he
  have hilt:it<s.heap.objs.size:=by obtain⟨_,q,_⟩:=hit;exact LG q
  have I1:Inv X RE σ (upd H s.heap.objs.size (.tup [.int i,x])) {s with heap:=s.heap.push {cls:=.type "tuple",data:=.seq #[.int i s.toks,u]},toks:=s.toks+1}:=
   I.laid (λb o q=>Lk _ q) (Nat.le_refl _) ⟨by show 2<=Nm;decide,[.int i s.toks,u],.cons ⟨_,rfl⟩ (.cons ru .nil),⟨_,Lp _ rfl,rfl,_,rfl⟩⟩
  have hf':∀b∈[e,it],ft X RE (upd H s.heap.objs.size (.tup [.int i,x])) b:=λb hb=>by
   have lt:b<s.heap.objs.size:=by
    rcases List.mem_cons.mp hb with rfl | hb
    ·exact helt
    ·simp_all
   refine⟨?_,(hf b hb).2⟩
   rw [aN (LK lt)]
   exact(hf b hb).1
  have I2:Inv X RE σ (upd H s.heap.objs.size (.tup [.int i,x])) {s with heap:=h'',toks:=s.toks+1}:=I1.turnedL (λb o hb q=>by
   have n1:b≠e:=λz=>hb (by simp [z])
   have n2:b≠it:=λz=>hb (by simp [z])
   apply (hs.2 b n1).trans
   by_cases hbT:b=s.heap.objs.size
   ·subst hbT
    have q':(s.heap.push {cls:=.type "tuple",data:=.seq #[.int i s.toks,u]}).get? s.heap.objs.size=some o:=q
    rw [Lp _ rfl] at q'
    cases q'
    exact hT
   ·have q':(s.heap.push {cls:=.type "tuple",data:=.seq #[.int i s.toks,u]}).get? b=some o:=q
    rw [L9 _ _ _ hbT] at q'
    exact hk b o n1 n2 q') hf'
  refine⟨.ref s.heap.objs.size,_,I2,rfl,⟨_,x,rfl,I.hok.fresh (Nat.le_refl _),bh (I.hok.fresh (Nat.le_refl _)) _,aB,λys hy=>by rw [I.tuple_inj hy hq];exact hx⟩,⟨⟨_,by simpa using he''⟩,?_⟩,λb hb=>(hf' b hb).1⟩
  exact hit'.at λo q=>(hs.2 it hne.symm).trans q
 done := by
   intro X hP hw hK hc i RE s σ H E I hf st hg
   subst hP hw hK
   obtain⟨xs,hq,hx⟩:=hg
   obtain⟨⟨old,he⟩,hit⟩:=st
   obtain⟨its,rv,p,hz⟩:=I.tuple hq
   obtain⟨f0,f1,f2,f3,f4,f5⟩:=hf it (by simp)
   have hl:=rv.length
   have nl:=By he hit p
   exact Cv (gO it a _ nl.2) (I.ok.hd hc) he ⟨hit,p⟩ (by simp;lia) λh' eb=>⟨rfl,I.turned (λb o hb e=>eb b o hb e) f0 f1 f3 f4 f5⟩
 self:=λ_ _ _ _ _ st h=>by
  obtain⟨⟨old,he⟩,_⟩:=st
  exact wpAny_pyIter_enum he h
def xN(K:MF)(ta:TA):TI:=λσ H R=>ta σ H λvs H1=>∃a,vs= [.ref a]/\(∃xs,SqT K H1 a xs)/\R (ItT K a) H1
theorem zI(hg:Gl X "enumerate")(hm:X.mg "enumerate" =none)(ha:PA X [a] ta)(hs:Nt [a] X.env= [(false,eval a X.env)]:=by rfl):
 PI X (.Tuple elts kk tpos) (.Call (.Name "enumerate" p) [a] [] pos) (xN X.K ta):=by
 intro RE s σ H R I h
 refine Call_ (gH I hg hm (show NN "enumerate" =some (.type "enumerate") by decide) (NP (thn (ha pos RE s σ H _ I h) λus s1 z=>?_) hs rfl))
 obtain⟨vs,H1,I1,r1,q1⟩:=z
 obtain⟨l,e,⟨xs,hq⟩,q⟩:=q1
 subst e
 cases r1 with
 | cons r rr=>
  cases rr
  cases r
  obtain⟨its,rv,pl,hz⟩:=I1.tuple hq
  refine jC pl λh' hE hI hsz hk=>?_
  refine wpAny_pyIter_enum hE ⟨s1.heap.objs.size+1,[s1.heap.objs.size+1,s1.heap.objs.size],_,_,H1,rfl,I1.kept hk,vM l _ _ (Nat.succ_ne_self _),⟨⟨_,hE⟩,hI⟩,λb hb=>?_,q⟩
  have le:s1.heap.objs.size<=b:=by
   rcases List.mem_cons.mp hb with rfl | hb
   ·lia
   ·grind
  exact I1.fpOk le (I1.hok.fresh le)
theorem xO{K:MF}{g:TG}{tb:TS}{D:jo}(xs:List V)(Pv:Nat->St->Hp->Prop)(h0:Pv 0 σ H1)
 (hl:∀i σ H,i<=xs.length->Pv i σ H->SqT K H a xs)
 (hs:∀i x σ H p H',xs[i]? =some x->Pv i σ H->H p=none->Same H H'->H' p=some (.tup [.int (i:Nat),x])->g (.ref p) σ H' λσ2 H2=>tb {D with nx:=Pv (i+1),ct:=Pv (i+1),bk:=D.nx} σ2 H2)
 (hd:∀σ H,Pv xs.length σ H->D.nx σ H):∃W:Nat->Nat->St->Hp->Prop,(∃m,W 0 m σ H1)/\∀i m σ H,W i m σ H->
  ((ItT K a).stop i H/\D.nx σ H)\/((ItT K a).go i H/\∃N,(∀σ' H',N σ' H'->∃m',m'<m/\W (i+1) m' σ' H')/\∀x H',(ItT K a).yld i H x H'->g x σ H' λσ2 H2=>tb {D with nx:=N,ct:=N,bk:=D.nx} σ2 H2):=by
 refine⟨λi m σ H=>m=xs.length-i/\i<=xs.length/\Pv i σ H,⟨xs.length,by simp,Mf _,h0⟩,?_⟩
 rintro i m σ H ⟨rfl,hi,p⟩
 have q:=hl i σ H hi p
 by_cases hlt:i<xs.length
 ·refine .inr ⟨⟨xs,xs[i],q,Lo hlt⟩,Pv (i+1),λσ' H' p'=>⟨xs.length-(i+1),by lia,rfl,hlt,p'⟩,λv H' y=>?_⟩
  obtain⟨pp,x,rfl,hn,sm,hp,hx⟩:=y
  exact hs i x σ H pp H' (hx xs q) p hn sm hp
 ·have e:i=xs.length:=by lia
  subst e
  exact .inl ⟨⟨xs,q,Nat.le_refl _⟩,hd σ H p⟩
def zJ(K:MF)(tl:TE):TI:=λσ H R=>tl σ H λx H1=>∃a,x= .ref a/\(((∃xs,SqL K H1 a xs)/\R (Itl K a) H1)\/((∃xs,SqT K H1 a xs)/\R (Itt K a) H1))
theorem FE(hl:PE X l tl):PI X tg l (zJ X.K tl):=by
 intro RE s σ H R I h
 refine thn (hl RE s σ H _ I h) λv s1 z=>?_
 obtain⟨x,H1,I1,r1,q1⟩:=z
 obtain⟨a,e,⟨⟨xs,hq⟩,q⟩ | ⟨⟨xs,hq⟩,q⟩⟩:=q1
 ·subst e
  cases r1
  obtain⟨its,rv,p,hz⟩:=I1.list hq
  apply OE p.isList
  refine⟨s1.heap.objs.size,[s1.heap.objs.size],_,_,H1,rfl,I1.kept λb o e=>Lk _ e,oV a _,⟨_,Lp _ rfl,rfl,rfl⟩,λb hb=>?_,q⟩
  have e:b=s1.heap.objs.size:=by simpa using hb
  subst e
  exact I1.fpOk (Nat.le_refl _) (I1.hok.fresh (Nat.le_refl _))
 ·subst e
  cases r1
  obtain⟨its,rv,p,hz⟩:=I1.tuple hq
  apply NJ (p)
  refine⟨s1.heap.objs.size,[s1.heap.objs.size],_,_,H1,rfl,I1.kept λb o e=>Lk _ e,mG a _,⟨_,Lp _ rfl,rfl,rfl⟩,λb hb=>?_,q⟩
  have e:b=s1.heap.objs.size:=by simpa using hb
  subst e
  exact I1.fpOk (Nat.le_refl _) (I1.hok.fresh (Nat.le_refl _))
theorem vN{K:MF}(ha:H1 a=some (.tup xs))(sz:xs.length<Nm)(Pv:Addr->Nat->List V->St->Hp->Prop)
 (h0:∀D H',H1 D=none->Same H1 H'->H' D=some (.lst [])->Pv D 0 [] cs H')
 (hs:∀D i x ys σ1 H',xs[i]? =some x->At xs H1 D i ys H'->Pv D i ys σ1 H'->g x σ1 H' λσ2 H2=>tc σ2 H2 λb H3=>if b=true then te σ2 H3 λv H4=>Put xs H1 D (Pv D) i σ2 v H4 else l8 xs H1 D (Pv D) i σ2 H3)
 (hd:∀D ys σ1 H',H1 D=none->Same H1 H'->H' D=some (.lst ys)->ys.length<=xs.length->Pv D xs.length ys σ1 H'->Q (.ref D) H'):gw (Itt K a) g tc te cs H1 Q:=
 mS zk (λH g=>g _ _ ha) sz Pv h0 hs hd
def Hi(K:MF):List V->Hp->VK->Prop:=λxs H Q=>∃x tp T1 T2 t b,xs= [x,.ref tp]/\H tp=some (.tup [.ty T1,.ty T2])/\tyG H x=some t/\QO K (.type t) [.type T1,.type T2]=some b/\Q (.bl b) H
theorem vO{σ:St}(I:Inv X RE σ H s)(rx:RelV x u)(ty:fw X.K H x (.type t))(htp:s.heap.IsTuple tp its.toArray)(e:QO X.K (.type t) its=some b)(h:∀tk,Q (.bool b) {s with toks:=tk}):
 Nr (model X.prog X.w) A (call (.builtin "isinstance") [u,.ref tp]) Q E s:=by
 obtain⟨⟨c,dd,da,sl⟩,k1,k2,n,k3⟩:=htp
 subst k2 k3
 cases ty with
 | non=>cases (rx);exact MM PySem.W.kitx_none I.kIn True.intro k1 e (λz=>nomatch z) h
 | bl y=>cases (rx);exact MM PySem.W.kitx_bool I.kIn True.intro k1 e (λz=>nomatch z) h
 | int i=>obtain⟨t,q⟩:=(rx);cases q;exact MM PySem.W.kitx_int I.kIn True.intro k1 e (λz=>nomatch z) h
 | str y=>obtain⟨t,q⟩:=(rx);cases q;exact MM PySem.W.kitx_str I.kIn True.intro k1 e (λz=>nomatch z) h
 | flt y=>obtain⟨t,q⟩:=(rx);cases q;exact MM PySem.W.kitx_float I.kIn True.intro k1 e (λz=>nomatch z) h
 | @lst a xs ea=>
  cases (rx)
  obtain⟨_,_,n,_,h1⟩:=(I.hok a _ ea)
  exact MM Nb I.kIn ⟨_,h1,rfl⟩ k1 e (λz=>nomatch z) h
 | @frz a ob xs ea=>
  cases (rx)
  obtain⟨_,_,_,n,_,h1⟩:=(I.hok a _ ea)
  exact MM Nb I.kIn ⟨_,h1,rfl⟩ k1 e (λz=>nomatch z) h
 | @tup a xs ea=>
  cases (rx)
  obtain⟨_,_,_,p⟩:=(I.hok a _ ea)
  obtain⟨o,h1,h2,_⟩:=p
  exact MM PySem.W.kitx_tuple I.kIn ⟨o,h1,h2⟩ k1 e (λz=>nomatch z) h
 | @dK a kvs ea=>
  cases (rx)
  obtain⟨_,_,vs,_,p⟩:=(I.hok a _ ea)
  obtain⟨o,es,ep,h1,h2,_⟩:=p
  exact MM Nc I.kIn ⟨o,h1,h2.1⟩ k1 e (λz=>nomatch z) h
 | @dT a kvs ea=>
  cases (rx)
  obtain⟨_,_,xs,_,o,es,ep,h1,h2,_⟩:=(I.hok a _ ea)
  exact MM Nc I.kIn ⟨o,h1,h2.1⟩ k1 e (λz=>nomatch z) h
theorem rF:bG X (.builtin "isinstance") (Hi X.K):=by
 intro RE s σ H xs us Q I r h
 obtain⟨x,tp,T1,T2,t,b,rfl,htp,ty,e,q⟩:=h
 obtain⟨u,w,rfl,ru,rw'⟩:=mK r
 cases rw'
 obtain⟨its,rv,p,hz⟩:=I.tuple (SqT.of htp)
 obtain⟨a,b',rfl,ra,rb⟩:=mK rv
 cases (ra)
 cases (rb)
 exact vO I ru (Cd ty) p e λtk=>⟨.bl b,H,I.tok _,rfl,q⟩
end L2
namespace L2
open PySem
end L2
namespace L2
open PySem PySem.Spec PySem.Calls PyProof.Rows PySem.W
theorem zK{K:Frag}{x t c:Nk}{H:Heap->Prop}(ty:∀(M:Qx) (h:Heap),K.In h->H h->Looks M h (typeOf x) t)(e:No K t c=some true):Answers (λs=>K.In s.heap/\H s.heap) x c true:=by
 intro dep tk prog w A R s hs
 obtain⟨h0,g,d,tt,os⟩:=s
 obtain⟨⟨X,p⟩,hq⟩:=hs
 have LT:=ty (model prog w) h0 X p
 unfold No at e
 unfold ND.«isinstance.nested»
 refine Nj (LT.at ?_)
 by_cases q:(t==c)=true
 ·rw [RD q] at e
  rw [RD q]
  exact Nj (OD (Nl (hq tt)))
 ·rw [RC q] at e
  rw [RC q]
  obtain⟨hty,his,hsub⟩:=kit_cls (M:=model prog w) X e
  have LI:Looks (model prog w) h0 (Qc x c) true:=LT.andThen hsub
  refine Nj (hty.at ?_)
  rw [RD (by decide)]
  k_delta "plainIsInstance"
  refine Nj (Nj (his.at ?_))
  simp only [Bool.not_true,MC,if_false]
  refine Nj (LI.at ?_)
  simp only [if_true]
  exact Nl (Nl (hq tt))
def vP(K:Frag):List V->Hp->VK->Prop:=λxs H Q=>∃(x C c dx:Addr) (fs:List (Str×V)),xs= [.ref x,.ref c]/\H x=some (.ins C dx fs)/\No K (.ref C) (.ref c)=some true/\Q (.bl true) H
theorem rG{X:Cx}:bG X (.builtin "isinstance") (vP X.K):=by
 intro RE s σ H xs us Q I r h
 obtain⟨x,C,c,dx,fs,rfl,hx,e,q⟩:=h
 obtain⟨u,w',rfl,ru,rw'⟩:=mK r
 cases ru
 cases rw'
 obtain⟨_,_,_,hg,_⟩:=(show ObjOk X.prog X.w H s.heap x (.ins C dx fs) from I.hok x _ hx)
 refine call_isinstance (S:=λ_ R s=>(X.K.In s.heap/\s.heap.get? x=some (instObj C dx))/\∀tk,R (.ok (.ret (.bool true))) {s with toks:=tk})
  (λprog w A R s hs=>isinstance_outer (zK (H:=λh=>h.get? x=some (instObj C dx)) (λM h _ p=>?_) e 0 _ prog w A R s hs) (λz=>nomatch z)) ⟨⟨I.kIn,hg⟩,λtk=>⟨.bl true,H,I.tok _,rfl,q⟩⟩
 exact(Looks.ld p).andThen .now
theorem mf{X:Cx}{e:Expr}:PE X e (λ_ _ _=>False):=by
 intro RE s σ H Q I h
 exact h.elim
end L2
namespace HD
open PySem PySem.W
def xP{α:Type}(v:Obj)(k:BT->α)(l r:BT):α:=k (.node v l r)
def xQ{α:Type}(v:Obj)(k:BT->α)(fr:(BT->α)->α)(l:BT):α:=fr (xP v k l)
noncomputable def i3{α:Type}(t:BT):(BT->α)->α:=
 @BT.rec (λ_=>(BT->α)->α) (λk=>k .nil) (λv _ _ fl fr k=>fl (xQ v k fr)) t
theorem kh:∀(t:BT) (k:BT->α),i3 t k=k t
 | .nil,_=>rfl
 | .node v l r,k=>by
  show i3 l (xQ v k (i3 r))=_
  rw [kh l]
  show i3 r (xP v k l)=_
  rw [kh r]
  rfl
noncomputable def km{α:Type}(n:Nat)(k:Nat->α):α:= @Nat.rec (λ_=>α) (k 0) (λm _=>k (m+1)) n
theorem pG(n:Nat)(k:Nat->α):km n k=k n:=by cases n<;>rfl
def ur{α:Type}(k:NG->α)(life:Life)(gens:Array P3)(drawn:Drawn)(os:PY)(n toks:Nat)(t:BT):α:=k ⟨t,n,life,gens,drawn,toks,os⟩
noncomputable def FF{α:Type}(k:NG->α)(t:BT)(life:Life)(gens:Array P3)(drawn:Drawn)(os:PY)(n toks:Nat):α:=i3 t (ur k life gens drawn os n toks)
noncomputable def FG{α:Type}(k:NG->α)(t:BT)(life:Life)(gens:Array P3)(drawn:Drawn)(os:PY)(toks n:Nat):α:=km toks (FF k t life gens drawn os n)
noncomputable def ko{α:Type}(s:NG)(k:NG->α):α:=match s with
 | ⟨t,n,life,gens,drawn,toks,os⟩=>km n (FG k t life gens drawn os toks)
theorem pH(s:NG)(k:NG->α):ko s k=k s:=by
 obtain⟨t,n,life,gens,drawn,toks,os⟩:=s
 show km n (FG k t life gens drawn os toks)=_
 rw [pG]
 show km toks (FF k t life gens drawn os n)=_
 rw [pG]
 show i3 t (ur k life gens drawn os n toks)=_
 rw [kh]
 rfl
section
variable(thr ok:OA->Bool)(st:NG->OA->Option (NG×OA))
def mX(ih:NG->OA->Option (Bool×NG×OA))(s:NG)(t:OA):Option (Bool×NG×OA):=match thr t with
 | true=>some (true,s,t)
 | false=>match ok t with
  | false=>none
  | true=>match st s t with
   | some (s',t')=>ih s' t'
   | none=>none
noncomputable def rH(n:Nat):NG->OA->Option (Bool×NG×OA):=
 @Nat.rec (λ_=>NG->OA->Option (Bool×NG×OA)) (λs t=>some (false,s,t)) (λ_ ih=>mX thr ok st ih) n
def FH{α:Type}(k:NG->α)(s:NG):Option α:=some (k s)
def goOn{α:Type}(ih:NG->OA->Option α)(t:OA)(s:NG):Option α:=ih s t
noncomputable def vR{α:Type}(m:Nat)(k:NG->α)(ih:NG->OA->Option α)(s:NG)(t:OA):Option α:=
 match rH thr ok st m s t with
  | some (true,s',_)=>ko s' (FH k)
  | some (false,s',t')=>ko s' (goOn ih t')
  | none=>none
noncomputable def zL{α:Type}(m:Nat)(k:NG->α)(n:Nat):NG->OA->Option α:=
 @Nat.rec (λ_=>NG->OA->Option α) (λ_ _=>none) (λ_ ih=>vR thr ok st m k ih) n
end
section
variable {tb : String → Option ND} {p : Np} {w : Nu} {n₀ : Nat} {ann : Option Nk}
noncomputable abbrev mY (tb : String → Option ND) (p : Np) (w : Nu) (n₀ : Nat) (ann : Option Nk) := rH through (Qm n₀ ann) (Rm (denote tb) p w)
noncomputable abbrev vU {α : Type} (tb : String → Option ND) (p : Np) (w : Nu) (n₀ : Nat) (ann : Option Nk) := @zL through (Qm n₀ ann) (Rm (denote tb) p w) α
theorem rJ:∀{n:Nat} {s s':NG} {t t':OA},mY tb p w n₀ ann n s t=some (false,s',t')->∀N r,QA tb p w n₀ ann N s'.abs t'=some r->QA tb p w n₀ ann (n+N) s.abs t=some r
 | 0,s,s',t,t',h,N,r,k=>by
  cases h
  rw [Nat.zero_add];exact k
 | n+1,s,s',t,t',h,N,r,k=>by
  rw [show n+1+N=n+N+1 by lia]
  have h:mX through (Qm n₀ ann) (Rm (denote tb) p w) (mY tb p w n₀ ann n) s t=some (false,s',t'):=h
  unfold mX at h
  unfold QA
  cases ht:through t with
  | true=>simp_all
  | false=>
   rw [ht] at h
   cases hk:Qm n₀ ann t with
   | false=>simp_all
   | true=>
    rw [hk] at h
    cases hs:Rm (denote tb) p w s t with
    | none=>simp_all
    | some x=>obtain⟨s₂,t₂⟩:=x;rw [hs] at h;rw [stepT_spec hs];exact rJ h N r k
theorem pI:∀{n:Nat} {s s':NG} {t t':OA},mY tb p w n₀ ann n s t=some (true,s',t')->QA tb p w n₀ ann n s.abs t=some s'.abs
 | 0,s,s',t,t',h=>by cases h
 | n+1,s,s',t,t',h=>by
  have h:mX through (Qm n₀ ann) (Rm (denote tb) p w) (mY tb p w n₀ ann n) s t=some (true,s',t'):=h
  unfold mX at h
  unfold QA
  cases ht:through t with
  | true=>simp_all
  | false=>
   rw [ht] at h
   cases hk:Qm n₀ ann t with
   | false=>simp_all
   | true=>
    rw [hk] at h
    cases hs:Rm (denote tb) p w s t with
    | none=>simp_all
    | some x=>obtain⟨s₂,t₂⟩:=x;rw [hs] at h;rw [stepT_spec hs];exact pI h
theorem rK{k:NG->α}{r:α}:∀{n:Nat} {s:NG} {t:OA},vU tb p w n₀ ann m k n s t=some r->∃s',QA tb p w n₀ ann (m*n) s.abs t=some s'.abs/\k s'=r
 | 0,s,t,h=>by cases h
 | n+1,s,t,h=>by
  have h:vR through (Qm n₀ ann) (Rm (denote tb) p w) m k (vU tb p w n₀ ann m k n) s t=some r:=h
  unfold vR at h
  cases hs:rH through (Qm n₀ ann) (Rm (denote tb) p w) m s t with
  | none=>simp_all
  | some x=>
   obtain⟨b,s₂,t₂⟩:=x
   rw [hs] at h
   cases b with
   | true=>
    have h:ko s₂ (FH k)=some r:=h
    rw [pH] at h
    refine⟨s₂,?_,Option.some.inj h⟩
    rw [show m*(n+1)=m+m*n by rw [Nat.mul_succ];lia]
    exact topRun_mono _ _ _ _ _ (pI hs)
   | false=>
    have h:ko s₂ (goOn (vU tb p w n₀ ann m k n) t₂)=some r:=h
    rw [pH] at h
    obtain⟨s',e,e'⟩:=rK h
    refine⟨s',?_,e'⟩
    rw [show m*(n+1)=m+m*n by rw [Nat.mul_succ];lia]
    exact rJ hs _ _ e
end
noncomputable def Hj(P:Params):BT:=
 .node (boot_o_0 P) (.node (boot_o_1 P) (.node (boot_o_3 P) (.node (boot_o_7 P) .nil .nil) .nil) (.node (boot_o_5 P) (.node (boot_o_9 P) .nil .nil) .nil))
  (.node (boot_o_2 P) (.node (boot_o_4 P) (.node (boot_o_8 P) .nil .nil) .nil) (.node (boot_o_6 P) (.node (boot_o_10 P) .nil .nil) .nil))
noncomputable def rL(w:Nu)(os:PY):NG:=⟨Hj w.params,11,(Oe w.params).life, #[],PM,P4,os⟩
noncomputable def rM(w:Nu):Option Nk:=(Oe w.params).nsMap Ny "__annotations__"
noncomputable def look{α:Type}(p q:Np)(loose:List Str)(Xt:Nn->Bool)(g0:Bool)(Yf:Nn->α)(w:Nu)(s:NG):=
 ((Ro (OB p.main.body) (Oe w.params) s.abs.heap&&QU p s.abs.heap&&gensDone s.abs&&laidKept (Oe w.params) s.abs.heap),openSeen q loose (OB p.main.body) Xt g0 s.abs,Yf s.abs)
theorem Hk(w:Nu):(Oe w.params).isNs Ny=true:=by kernel_rfl
noncomputable abbrev vV{α:Type}(p:Np)(w:Nu):= @zL through (Fast.tw6613529449190102663 11 (rM w)) (Fast.tw10156331382660048174 (Fast.tw11892475500146522536 Fast.tw14364793385576792824) p w) α
theorem Cw(p:Np)(w:Nu): @vU α PD p w 11 (rM w)=vV p w:=by
 show @zL through (Qm 11 (rM w)) (Rm (denote PD) p w) α=_
 rw [Fast.te6613529449190102663,Fast.te10156331382660048174,Fast.te11892475500146522536,Fast.te14364793385576792824]
def vW{α:Type}(o:Option Obj)(a:Nat)(ih:Frag->(Frag->α)->α)(acc:Frag)(k:Frag->α):α:=match o with
 | some o=>(match alive o with
  | some o'=>ih ((a,o')::acc) k
  | none=>ih acc k)
 | none=>ih acc k
noncomputable def qA{α:Type}(t:BT)(n:Nat):Frag->(Frag->α)->α:=
 @Nat.rec (λ_=>Frag->(Frag->α)->α) (λacc k=>k acc) (λa ih acc k=>vW (t.get a) a ih acc k) n
def iq(h:Heap)(n:Nat):Frag:=(List.range n).filterMap λa=>(h.get? a).map λo=>(a,o)
theorem dJ:∀{K:Frag},K.lookup a=some o->(a,o)∈K
 | [],h=>nomatch h
 | (b,x)::K,h=>by
  simp only [List.lookup] at h
  split at h
  ·simp_all
  ·exact Lm _ (dJ h)
theorem zM(h:Heap)(n:Nat):(iq h n).In h:=λa o e=>by
 obtain⟨b,_,q⟩:=List.mem_filterMap.mp (dJ e)
 obtain⟨x,h1,h2⟩:=Option.map_eq_some_iff.mp q
 cases h2
 exact h1
def zN(t:BT)(n:Nat):Bool:=(List.range n).all λa=>(t.get a).isSome
theorem mh{k:Frag->α}(f:zN t m=true):∀(n:Nat) (acc:Frag),n<=m->qA t n acc k=k (iq (Rf t m life) n++acc)
 | 0,acc,_=>rfl
 | n+1,acc,le=>by
  have e:qA t (n+1) acc k=vW (t.get n) n (qA t n) acc k:=rfl
  have hs:=List.all_eq_true.mp f n (List.mem_range.mpr le)
  obtain⟨o,hg⟩:=Option.isSome_iff_exists.mp hs
  have hx:iq (Rf t m life) (n+1)++acc=iq (Rf t m life) n++((match alive o with | some o'=>[(n,o')] | none=>[])++acc):=by
   unfold iq
   rw [MV,List.filterMap_append,LO]
   congr 2
   rw [Me,abs_get le hg]
   cases alive o<;>rfl
  rw [e,hx]
  unfold vW
  rw [hg]
  cases ha:alive o with
  | none=>simp only [ha];exact mh f n acc (Nat.le_of_succ_le le)
  | some o'=>simp only [ha];exact mh f n _ (Nat.le_of_succ_le le)
noncomputable def vX{α:Type}(see:Frag->α)(s:NG):α:=qA s.tree s.n [] see
theorem zP(f:zN s.tree s.n=true):vX see s=see (iq s.abs.heap s.abs.heap.objs.size):=by
 unfold vX
 rw [mh f s.n [] (Nat.le_refl _),LQ]
 show _=see (iq (Rf s.tree s.n s.life) (Rf s.tree s.n s.life).objs.size)
 rw [absHeap_size]
noncomputable def vY{α:Type}(p q:Np)(loose:List Str)(Xt:Nn->Bool)(see:Frag->α)(w:Nu)(s:NG):=
 (zN s.tree s.n&&(Ro (OB p.main.body) (Oe w.params) s.abs.heap&&QU p s.abs.heap&&gensDone s.abs&&laidKept (Oe w.params) s.abs.heap),openSeen q loose (OB p.main.body) Xt true s.abs,vX see s)
def Ix{α:Type}(see:Frag->α)(s:Nn):α:=see (iq s.heap s.heap.objs.size)
theorem tI{see:Frag->α}{saw:Nu->α}{N:Nat}
 (e:opening p=plainProg p.main.scope.names) (hN:Nat.ble 600 N=true) (f:∀s,fenceModules? p s=some s) (le:Nat.ble (m*n) N=true)
 (run:∀(w:Nu) (os:PY),vV p w m (vY p q loose Xt see w) n (rL w os) (Rt p)=some (true,openGood q loose,saw w)):
 LeftO p q loose Xt (Ix see) saw N true:=by
 intro w
 obtain⟨⟨h,gs,d,k,os⟩,e1,e2⟩:=Option.map_eq_some_iff.mp (boot_open e hN f w)
 obtain⟨rfl,rfl,rfl,rfl⟩:h=Oe w.params/\gs=Array.mk []/\d=PM/\k=P4:=by simpa using e2
 have r0:=run w os
 rw [<-Cw] at r0
 obtain⟨s',r,l⟩:=rK r0
 have r:QA PD p w 11 (rM w) (m*n) ⟨Oe w.params,Array.mk [],PM,P4,os⟩ (Rt p)=some s'.abs:=r
 have r:=topRun_mono (N-m*n) _ _ _ _ r
 rw [show m*n+(N-m*n)=N by have:=Lz le;lia] at r
 obtain⟨l0,l1⟩:=Bool.and_eq_true_iff.mp (congrArg Prod.fst l)
 have l2:=congrArg (λx=>x.2.1) l
 have l3:=(zP l0).symm.trans (congrArg (λx=>x.2.2) l)
 have t:topFrom PD p w N ⟨Oe w.params,Array.mk [],PM,P4,os⟩=some s'.abs:=by
  unfold topFrom
  rw [Hk w]
  show(QA PD p w 11 (rM w) N ⟨Oe w.params,Array.mk [],PM,P4,os⟩ (Rt p)).bind _=_
  rw [r]
  show(match Ro (OB p.main.body) (Oe w.params) s'.abs.heap&&QU p s'.abs.heap&&gensDone s'.abs&&laidKept (Oe w.params) s'.abs.heap with | true=>_ | false=>_)=_
  rw [l1]
 unfold openEnds
 rw [e1]
 show Option.map _ (topFrom PD p w N _)=_
 rw [t]
 exact congrArg some (Prod.ext l2 l3)
def gP(p:Np)(x:Str):List Str:=p.boundNames.filter λy=>!(y==x)
theorem xR{l:Ra}{N:Nat}{see:Frag->α}{saw:Nu->α}
 (said:l.row.wellSaid=true)
 (e:opening l.prog=plainProg l.prog.main.scope.names) (f:∀s,fenceModules? l.prog s=some s) (hN:Nat.ble 600 N=true) (le:Nat.ble (m*n) N=true)
 (run:∀(w:Nu) (os:PY),vV l.prog w m (vY l.prog (view l.prog [i]) (gP l.prog l.name) (λ_=>true) see w) n (rL w os) (Rt l.prog)=some (true,openGood (view l.prog [i]) (gP l.prog l.name),saw w))
 (hdef:defOf (view l.prog [i]) l.row.name=some (d,kwd)) (hp:l.row.prog.theDef l.row.name=some (d.params,d.body,d.scope)) (hk:kwWritten? d.params.kwonlyargs d.params.kw_defaults=some kwd)
 (ok:(chainsOk (view l.prog [i])&&opensWell l.row.prog&&(frees l.row.toRowW&&l.row.within.isEmpty))=true) (hb:l.row.prog.bare) (hw:l.row.toRowW.promised)
 (call:WalkO (view l.prog [i]) (gP l.prog l.name) (λ_ _=>True) (λw h=>∃K,K.In h/\see K=saw w) l.row.toRowW d kwd λf vs=>Q8 f vs):l.row.Holds:=
 holds_open (tI e hN f le run) (λ_ s h=>⟨_,zM s.heap _,h⟩) (λ_ _ _ z k=>by obtain⟨K,a,b⟩:=z;exact⟨K,a.keeps k,b⟩) (λ_ _=>trivial) (λ_ _ _ _ _=>trivial) hdef hp hk (λs _=>recFacts_of (R:=[]) rfl) (by show(_ || true)=true;exact Bool.or_true _) said ok hb hw call
theorem zQ{l:Ra}{S:Nu->Frag->Prop}{sp:Frag->L2.Sp}
 (hn:l.most=some n) (hn2:n<=Nm) (hdf:d.params.defaults= []) (hr:L2.Room k Qa)
 (F:∀(w:Nu) (K:Frag) (mg:Str->Option Nk) (fa:Addr) (h:Heap),S w K->K.In h->h.Ns Ny mg->mg d.name=some (.ref fa)->
  ∃fd,(∀(s:Nn) (u:Nk),P8 s fd ⟨[u],[]⟩ [(x,u)])/\
   ∀base:Heap,K.In base->base.Ns Ny mg->L2.d9 l.prog w K mg base CX k fa fd [x] (sp K))
 (hsp:∀(K:Frag) (H:L2.Hp) (a:Addr) (ns:List Int),ns.length<=n->L2.za H->L2.SqL K H a (ns.map L2.V.int)->sp K [.ref a] H (λv _=>v= .bl true) λ_ _ _=>False)
 (hCX:∀(H:L2.Hp) (s:Nn) (e:Nk) (s':Nn),CX [] H s (λ_ _ _=>False) e s'->False):
 WalkO q loose XP (λw h=>∃K,K.In h/\S w K) l.row.toRowW d [] (λf vs=>Q8 f vs):=by
 refine Att.tw hn hdf λw s₀ s₁ mg mb fa o pm cd doc a vs ns G Y ho hd hcd hmg hobj hints IV hg=>?_
 obtain⟨K,KX,hS⟩:=Y
 obtain⟨fd,hb,hF⟩:=F w K mg fa _ hS KX G.T.g hmg
 exact L2.zc KX G.T.g G.T.b G.T.builtins G.T.nolimit hg hobj hints (Nat.le_trans IV hn2) hr hF hb (λH hO hS=>hsp K H a ns IV hO hS) λH e s'=>hCX H s₁ e s'
def cr(s:Stmt):Str:=match s with
 | .FunctionDef n _ _ _ _ _ _ _ _ _=>n
 | _=>""
abbrev gQ:=Option (Str×Str×Arguments×FuncBody×OS×Addr×List (Str×Addr)×Nk×Addr×Bool)
def kr(K:Frag)(q:Str)(f:Addr):gQ:=match K.lookup f with
 | some ⟨_,_,.func fd,_⟩=>some (fd.name,fd.qualname,fd.params,fd.body,fd.scope,fd.globals,fd.closure,fd.defaults,fd.builtins,codeIn K fd.code q)
 | _=>none
def eY(x q:Str)(st:Stmt):gQ:=some (x,q,L2.fA st,.stmts (L2.bS st),L2.aj st,Ny,[],.none,P7,true)
theorem mL(e:kr K q f=eY x q st):
 ∃fd,L2.Fun K x q st f fd:=by
 unfold kr at e
 split at e
 ·rename_i oc od fd sl hl
  obtain⟨nm,qn,pa,bo,sc,gl,cl,df,kd,doc,pm,an,cdv,ct,bu⟩:=fd
  simp only [eY,Option.some.injEq,Prod.mk.injEq] at e
  obtain⟨rfl,rfl,rfl,rfl,rfl,rfl,rfl,rfl,rfl,c⟩:=e
  exact⟨_,⟨oc,od,kd,doc,pm,an,cdv,ct,sl,rfl,hl,c⟩,by unfold Oq;simp only [hl]⟩
 ·cases e
theorem mj(F:L2.Fun K x q st f fd)
 (b:∀(kV doc pm:Nk) (an:Option Addr) (cdv ct:Nk) (us:List Nk),us.length=ps.length->Qt (fnOf x q (L2.fA st) (L2.bS st) (L2.aj st) .none kV doc pm an cdv ct) ⟨us,[]⟩=pure (ps.zip us)):L2.Binds K fd ps []:=by
 obtain⟨⟨oc,od,kV,doc,pm,an,cdv,ct,osl,rfl,_⟩,_⟩:=F
 exact .all (b kV doc pm an cdv ct)
def i7(K:Frag)(st:Stmt):gQ:=match nsIn K Ny (cr st) with
 | some (some (.ref f))=>kr K (cr st) f
 | _=>none
theorem xS(e:i7 K st=eY (cr st) (cr st) st)(hx:cr st=x):∃f fd,nsIn K Ny x=some (some (.ref f))/\L2.Fun K x x st f fd:=by
 subst hx
 unfold i7 at e
 split at e
 ·rename_i f ha
  obtain⟨fd,F⟩:=mL e
  exact⟨f,fd,ha,F⟩
 ·cases e
theorem aX(X:K.In h)(G:h.Ns Ny mg)(e:i7 K st=eY (cr st) (cr st) st)(hx:cr st=x)
 (b:∀(kV doc pm:Nk) (an:Option Addr) (cdv ct:Nk) (us:List Nk),us.length=ps.length->Qt (fnOf x x (L2.fA st) (L2.bS st) (L2.aj st) .none kV doc pm an cdv ct) ⟨us,[]⟩=pure (ps.zip us)):L2.DefAt K mg x st ps:=by
 obtain⟨f,fd,ha,F⟩:=xS e hx
 exact⟨f,fd,mg_of X G ha,F,mj F b⟩
theorem Cy(X:K.In h)(G:h.Ns Ny mg)(e:i7 K st=eY (cr st) (cr st) st)(hx:cr st=x)(hfa:mg x=some (.ref fa))
 (b:∀(kV doc pm:Nk) (an:Option Addr) (cdv ct:Nk) (s:Nn) (u:Nk),P8 s (fnOf x x (L2.fA st) (L2.bS st) (L2.aj st) .none kV doc pm an cdv ct) ⟨[u],[]⟩ [(y,u)]):
 ∃fd,L2.Fun K x x st fa fd/\∀(s:Nn) (u:Nk),P8 s fd ⟨[u],[]⟩ [(y,u)]:=by
 obtain⟨f,fd,ha,F⟩:=xS e hx
 have e:=hfa.symm.trans (mg_of X G ha)
 cases e
 refine⟨fd,F,?_⟩
 obtain⟨⟨oc,od,kV,doc,pm,an,cdv,ct,osl,rfl,_⟩,_⟩:=F
 exact b kV doc pm an cdv ct
def eZ(K:Frag)(x:Str):Bool:=match nsIn K Ny x with
 | some none=>true
 | _=>false
theorem dZ(X:K.In h)(G:h.Ns Ny mg)(e:eZ K x=true):mg x=none:=by
 unfold eZ at e
 split at e
 ·rename_i ha;exact mg_none_of X G ha
 ·cases e
def isInt(K:Frag)(x:Str)(n:Int):Bool:=match nsIn K Ny x with
 | some (some (.int m _))=>decide (m=n)
 | _=>false
theorem rN(X:K.In h)(G:h.Ns Ny mg)(e:isInt K x n=true):∃tk,mg x=some (.int n tk):=by
 unfold isInt at e
 split at e
 ·rename_i m tk ha;cases of_decide_eq_true e;exact⟨tk,mg_of X G ha⟩
 ·cases e
def fJ(K:Frag)(x:Str):Bool:=match nsIn K Ny x with
 | some (some (.ref _))=>true
 | _=>false
def adr(K:Frag)(x:Str):Addr:=match nsIn K Ny x with
 | some (some (.ref f))=>f
 | _=>0
theorem fR(e:fJ K x=true):nsIn K Ny x=some (some (.ref (adr K x))):=by
 unfold fJ at e
 unfold adr
 split at e
 ·simp_all
 ·cases e
def All(l:List Bool):Bool:=l.all id
theorem all_cons(h:All (b::l)=true):b=true/\All l=true:=Bool.and_eq_true_iff.mp h
theorem aw{α:Type}{a b:α}{l m:List α}(h:a::l=b::m):a=b/\l=m:=List.cons.inj h
end HD
namespace HD
open PySem PySem.W L2
def eC(K:Frag)(C:Addr)(attrs:List Str):Bool:=plainGet K C Str.empty&&(hasDictIn K C&&(plainOver K C&&((NL K (.ref C) "__setattr__" ==some (some (.builtin "object.__setattr__")))&&(makesIn K C&&(Oq K (.ref C)&&attrs.all λa=>NL K (.ref C) a==some none)))))
theorem i8(e:eC K C attrs=true):Cls K C/\makesIn K C=true/\Oq K (.ref C)=true/\∀a∈attrs,NoAttr K C a:=by
 unfold eC at e
 simp only [Mc] at e
 obtain⟨e1,e2,e3,e4,e5,e6,e7⟩:=e
 exact⟨⟨e1,e2,e3,beq_iff_eq.mp e4⟩,e5,e6,λa ha=>beq_iff_eq.mp (List.all_eq_true.mp e7 a ha)⟩
def kR(K:Frag)(C:Addr)(m q:Str):gQ:=match NL K (.ref C) m with
 | some (some (.ref f))=>if isFn K (.ref f)=true then kr K q f else none
 | _=>none
theorem FI(e:kR K C m q=eY m q st):∃f fd,NL K (.ref C) m=some (some (.ref f))/\isFn K (.ref f)=true/\L2.Fun K m q st f fd:=by
 unfold kR at e
 split at e
 ·rename_i f ha
  split at e
  ·rename_i i
   obtain⟨fd,F⟩:=mL e
   exact⟨f,fd,ha,i,F⟩
  ·cases e
 ·cases e
theorem gE(X:K.In h)(G:h.Ns Ny mg)(g:nsIn K Ny x=some (some (.ref C)))(mk:makesIn K C=true)(kc:Oq K (.ref C)=true)(e:kR K C "__init__" q=eY "__init__" q st)
 (b:∀(kV doc pm:Nk) (an:Option Addr) (cdv ct:Nk) (us:List Nk),us.length=ps.length->Qt (fnOf "__init__" q (L2.fA st) (L2.bS st) (L2.aj st) .none kV doc pm an cdv ct) ⟨us,[]⟩=pure (ps.zip us)):MakeAt K mg x C q st ps:=by
 obtain⟨f,fd,ha,i,F⟩:=FI e
 exact⟨f,fd,mg_of X G g,⟨mk,ha,i,kc⟩,F,mj F b⟩
def ox(K:Frag)(a:Addr):=match K.lookup a with
 | some ⟨c,d,.dict es _,sl⟩=>some (c,d,sl,es.toList.map λ(e:Pw)=>(e.hash,(match e.key with | Nk.str x _=>some x | _=>none),(match e.val with | Nk.str x _=>some x | _=>none)))
 | _=>none
inductive XEs (w:Nu):List Pw->List (Str×Str)->List (Str×Nk)->Prop
 | nil:XEs w [] [] []
 | cons {x y:Str} {u v:Tok} {es:List Pw} {l:List (Str×Str)} {vs:List (Str×Nk)}:XEs w es l vs->XEs w (⟨qH w (.inr x),.str x u,.str y v⟩::es) ((x,y)::l) ((x,.str y v)::vs)
theorem XEs.dict(P:Np)(t:XEs w es l vs):(∀e∈es,∃k,(ay P w).is k e.key=true/\e.hash=(ay P w).hash k)/\Pairs (ay P w) es (vs.map λp=>((.inr p.1:Key),p.2))/\KV (l.map λp=>((.inr p.1:Key),V.str p.2)) (vs.map λp=>((.inr p.1:Key),p.2))/\(vs.map λp=>((.inr p.1:Key),p.2)).map (·.1)=(l.map (·.1)).map (Sum.inr:Str->Key):=by
 induction t with
 | nil=>exact⟨λe he=>absurd he Lr,.nil,.nil,rfl⟩
 | @cons x y u v es l vs r ih=>
  obtain⟨h1,h2,h3,h4⟩:=ih
  have ki:(ay P w).is (.inr x) (.str x u)=true:=by
   show Nk.isStrOf x (.str x u)=true
   simp [Nk.isStrOf]
  refine⟨λe he=>?_,.cons ki rfl h2,.cons ⟨rfl,⟨_,rfl⟩⟩ h3,by rw [Ls,Ls,h4];rfl⟩
  rcases List.mem_cons.mp he with rfl | he
  ·exact⟨.inr x,ki,rfl⟩
  ·exact h1 e he
theorem FJ:∀{F:List (Str×Str)},(es.map λ(e:Pw)=>(e.hash,(match e.key with | Nk.str x _=>some x | _=>none),(match e.val with | Nk.str x _=>some x | _=>none)))=(F.map λp=>(qH w (.inr p.1),some p.1,some p.2))->∃vs,XEs w es F vs:=by
 induction es with
 | nil=>
  intro F h
  cases F with
  | nil=>exact⟨[],.nil⟩
  | cons _ _=>cases h
 | cons e es ih=>
  intro F h
  cases F with
  | nil=>cases h
  | cons p F=>
   obtain⟨h1,h2⟩:=List.cons.inj h
   obtain⟨vs,a⟩:=ih h2
   obtain⟨hs,ky,vl⟩:=e
   simp only [Prod.mk.injEq] at h1
   obtain⟨rfl,hk,hv⟩:=h1
   cases ky<;>simp only [reduceCtorEq,Option.some.injEq] at hk
   subst hk
   cases vl<;>simp only [reduceCtorEq,Option.some.injEq] at hv
   subst hv
   exact⟨_,.cons a⟩
theorem Cz{F:List (Str×Str)}(e:ox K a=some (Nk.type "dict",none, #[],F.map λp=>(qH w (.inr p.1),some p.1,some p.2)))(ns:(a==NX)=false)(nd:((F.map (·.1)).map (Sum.inr:Str->Key)).Nodup):KD P w K a (F.map λp=>((.inr p.1:Key),V.str p.2)):=by
 unfold ox at e
 split at e
 ·rename_i c d es n sl hk
  simp only [Option.some.injEq,Prod.mk.injEq] at e
  obtain⟨rfl,rfl,rfl,e⟩:=e
  obtain⟨vs,fe⟩:=FJ e
  obtain⟨h1,h2,h3,h4⟩:=fe.dict P
  exact⟨_,_,hk,ns,h3,λh hh=>⟨_,es,n,hh,⟨rfl,rfl,rfl⟩,rfl,λe he=>h1 e (Array.mem_toList_iff.mpr he),h2,by rw [h4];exact nd⟩⟩
 ·cases e
def oy(K:Frag)(C:Addr)(m q:Str):gQ:=match NL K (.ref C) m with
 | some (some (.ref f))=>if (isFn K (.ref f)&&Oq K (.ref f))=true then kr K q f else none
 | _=>none
theorem aS{K:Frag}{C:Addr}{m q:Str}{st:Stmt}{ps:List Str}(e:oy K C m q=eY m q st)
 (b:∀(kV doc pm:Nk) (an:Option Addr) (cdv ct:Nk) (us:List Nk),us.length=ps.length->Qt (fnOf m q (L2.fA st) (L2.bS st) (L2.aj st) .none kV doc pm an cdv ct) ⟨us,[]⟩=pure (ps.zip us)):MethAt K C m q st ps:=by
 unfold oy at e
 split at e
 ·rename_i f ha
  split at e
  ·rename_i i
   rw [Mc] at i
   obtain⟨fd,F⟩:=mL e
   exact⟨f,fd,⟨ha,i.1,i.2⟩,F,mj F b⟩
  ·cases e
 ·cases e
end HD
namespace L2
open PySem PySem.Spec PyProof.Rows
theorem PE.imp{X:Cx}{e:Expr}{t t':TE}(h:PE X e t)(k:∀σ H Q,t' σ H Q->t σ H Q):PE X e t':=λRE s σ H Q I q=>h RE s σ H Q I (k σ H Q q)
def mZ(i:Nat):TE:=λσ H Q=>match σ[i]? with
 | some (some v)=>Q v H
 | _=>False
theorem zR{i:Nat}{σ:St}{H:Hp}{Q:VK}(h:mZ i σ H Q):iF i σ H Q:=by
 unfold mZ at h
 split at h
 ·next v e=>exact⟨v,e,h⟩
 ·exact h.elim
section
variable{X:Cx}
theorem pvM(i:Nat){x:Str}{pos:Pos}(hN:X.N[i]? =some x:=by rfl)(hv:Vis X.env.scope x:=by first | exact Or.inl rfl | exact Or.inr (Or.inl rfl) | exact Or.inr (Or.inr rfl))(hd:(x==("__debug__":Str))=false:=by decide)
 (hcd:(x==("__classdict__":Str))=false:=by decide):PE X (.Name x pos) (mZ i):=(pv i hN hv hd hcd).imp λ_ _ _ h=>zR h
end
end L2
open Lean Meta Simp in
simproc_decl quickVM (L2.mZ _ _ _ _) := fun e => do
  let_expr L2.mZ i s H Q := e | return .continue
  let l ← mkAppM ``GetElem?.getElem? #[s, i]
  let w ← whnfD l
  let_expr Option.some _ o := w | return .continue
  let o' ← whnfD o
  let_expr Option.some _ v := o' | return .continue
  return .visit { expr := (mkApp2 Q v H).headBeta }
seal L2.PE L2.PA L2.PS L2.PSs L2.PT L2.PW L2.PG L2.PGs L2.OpR L2.bG L2.PI L2.uZ L2.PO L2.SlR L2.IxR L2.PC L2.UnR L2.MtR
local macro_rules
  | `(tactic| walk_at "rl") => do
    let a ← L2.rdArgs L2.lzPre
    `(tactic| simp (config := { maxSteps := 3000000 }) only [$a,*, *])
  | `(tactic| walk_at "ro") => do
    let a ← L2.rdArgs (L2.rdPre)
    `(tactic| simp (config := { maxSteps := 3000000 }) only [and_assoc, $a,*, *])
  | `(tactic| walk_at "rz") => do
    let a ← L2.rdArgs (L2.lzPre ++ " lazyAll")
    `(tactic| simp (config := { maxSteps := 3000000 }) only [$a,*, *])
  | `(tactic| walk_at "rd") => `(tactic| first | (walk_at "rl"; try walk_at "ro") | walk_at "ro")
  | `(tactic| walk_at "ry") => do
    let a ← L2.rdArgs (L2.lzPre2 ++ " lazyAll")
    `(tactic| simp (config := { maxSteps := 3000000, zeta := false, zetaDelta := false }) only [$a,*, *])
  | `(tactic| walk_at "rh") => `(tactic| with_reducible first | (refine L2.hideL ?_; intro T) | refine L2.hRet ?_ | refine L2.hIf ?_ | refine L2.hFor ?_ | refine L2.hDrop ?_ | refine L2.hAsg ?_ | refine L2.hWhile ?_ | refine L2.hFld ?_ | refine L2.hForU ?_ | refine L2.hForK ?_ | refine L2.hPut ?_ | refine L2.hRetN ?_)
  | `(tactic| walk_at "r2") => `(tactic| ((try walk_at "rh"); (try walk_at "ry"); repeat (walk_at "rh"; walk_at "ry")))
namespace L2
open PySem PySem.Spec PyProof.Rows
theorem scO{N P:List Str}{sc:OS}(h:(sc.kind= .function/\sc.isCoroutine=false/\sc.isGenerator=false/\N.Nodup/\N.take P.length=P)/\(∀x∈P,sc.names.lookup x=some .local\/sc.names.lookup x=some .cell)/\∀y∈sc.names,y.2≠.free):am N P sc:=⟨h.1.1,h.1.2.1,h.1.2.2.1,h.1.2.2.2.1,h.1.2.2.2.2,h.2.1,h.2.2⟩
section
variable{X:Cx}{pos:Pos}{x:Str}{e a b c d:Expr}{es:List Expr}{te ta tb tc td:TE}{t:TA}{P:List Str}{sc:OS}{op:CmpOp}{r:R2}
theorem aQ(i:Nat){pos':Pos}(S:am X.N P sc)(he:PE X e te)(hi:X.N[i]? =some x:=by rfl)(hx:Loc X.env.scope x:=by exact .inl rfl)(hs:O3 e (some (.Name x pos')) pos.line X.env=pure false:=by rfl)(hf:X.fn x=true\/X.env.scope.names.lookup x=some .local:=by first | exact .inl rfl | exact .inr rfl | assumption):PS X (.Assign [.Name x pos'] e pos) (lU te (ie i)):=DX S.nd hi hx he hs hf
theorem bw(i:Nat)(S:am X.N P sc)(hi:X.N[i]? =some x:=by rfl)(hx:Loc X.env.scope x:=by exact .inl rfl)(hf:X.fn x=true\/X.env.scope.names.lookup x=some .local:=by first | exact .inl rfl | exact .inr rfl | assumption):PG X (.Name x pos) (ie i):=iR S.nd hi hx hf
theorem cY(i:Nat)(n:X.N.Nodup)(hi:X.N[i]? =some x:=by rfl)(hx:Loc X.env.scope x:=by exact .inl (NI rfl))(hf:X.fn x=true\/X.env.scope.names.lookup x=some .local:=by exact .inr (NI rfl)):PG X (.Name x pos) (ie i):=iR n hi hx hf
theorem aq(ha:PE X a ta)(hb:PE X b tb)(hs:t7 b:=by exact λ_ _=>rfl):PE X (.Subscript a b pos) (tOp vz ta tb):=GO Ij ha hb hs
theorem aO(ho:OpR X (NO op) r)(ha:PE X a ta)(hb:PE X b tb)(hm:Oo op b=false:=by exact wQ _):PT X (.Compare a [op] [b] pos) (vg (tOp r ta tb)):=iV ho ha hb hm
theorem fK(ho:OpR X (NO op) r)(ha:PE X a ta)(hb:PE X b tb)(hm:Oo op b=false:=by exact wQ _):PE X (.Compare a [op] [b] pos) (tOp r ta tb):=BO ho ha hb hm
theorem aG(ha:PE X a ta)(h:bm a=true:=by rfl):PA X [a] (dI ta jq):=gJ ha a0 h
theorem aD(ha:PE X a ta)(hb:PE X b tb)(h:(bm a&&bm b)=true:=by rfl):PA X [a,b] (dI ta (dI tb jq)):=gJ ha (aG hb (Bool.and_eq_true_iff.mp h).2) (Bool.and_eq_true_iff.mp h).1
theorem bJ(ha:PE X a ta)(hb:PE X b tb)(hc:PE X c tc)(h:(bm a&&(bm b&&bm c))=true:=by rfl):PA X [a,b,c] (dI ta (dI tb (dI tc jq))):=gJ ha (aD hb hc (Bool.and_eq_true_iff.mp h).2) (Bool.and_eq_true_iff.mp h).1
theorem cg(ha:PE X a ta)(hb:PE X b tb)(hc:PE X c tc)(hd:PE X d td)(h:(bm a&&(bm b&&(bm c&&bm d)))=true:=by rfl):PA X [a,b,c,d] (dI ta (dI tb (dI tc (dI td jq)))):=gJ ha (bJ hb hc hd (Bool.and_eq_true_iff.mp h).2) (Bool.and_eq_true_iff.mp h).1
end
section
variable{X:Cx}{e:Expr}{es:List Expr}{t:TA}{x:Str}{p pos:Pos}{id T:String}{r:List V->Hp->VK->Prop}
theorem gc(hc:bG X (.builtin id) r)(hm:X.mg x=none)(ha:PA X (e::es) t)(hg:Gl X x:=by rfl)(hv:NN x=some (.builtin id):=by decide)(hn:x≠"__name__":=by decide)(hdb:(x==("__debug__":Str))=false:=by decide)(hs:(e::es).all bm=true:=by rfl):PE X (.Call (.Name x p) (e::es) [] pos) (tCB r t):=dY hc hg hm hv ha hn hdb hs
theorem dA(hc:bG X (.type T) r)(hm:X.mg x=none)(ha:PA X (e::es) t)(hg:Gl X x:=by rfl)(hv:NN x=some (.type T):=by decide)(hn:x≠"__name__":=by decide)(hdb:(x==("__debug__":Str))=false:=by decide)(hs:(e::es).all bm=true:=by rfl):PE X (.Call (.Name x p) (e::es) [] pos) (tCB r t):=Fp hc hg hm hv ha hn hdb hs
end
section
variable{X:Cx}{scope:OS}{cl:List (Str×Addr)}{N:List Str}{cap:List Nat}{k:Nat}{tg:Expr}{g:TG}{pos:Pos}{iter elt:Expr}{ifs:List Expr}{wi:TI}{tc:TT}{te:TE}
theorem cQ(k:Nat)(N:List Str)(cap:List Nat)(hi:PI X tg iter wi)(hg:N.Nodup->∀C fp s₀ H₀,PG (X.comp scope (oh X.env scope) N C fp s₀ H₀) tg g)(ht:∀C fp s₀ H₀,PTs (X.comp scope (oh X.env scope) N C fp s₀ H₀) ifs tc)(he:∀C fp s₀ H₀,PE (X.comp scope (oh X.env scope) N C fp s₀ H₀) elt te)(hs:∀x,N3 iter X.env x=pure x:=by intro _;rfl)(S:dL X scope (oh X.env scope) N cap k:=by exact fI _ rfl rfl rfl rfl (by decide) rfl rfl rfl)(hc:X.calm=true:=by rfl):PE X (.ListComp elt [⟨tg,iter,ifs,0⟩] scope pos) (j6 k cap wi g tc te):=zt S hc hi (hg S.nd) ht he hs
end
end L2
namespace K34
open PySem L2
def top(i:Nat):Stmt:=PySem.Challenge.pw_rerunyard_k34_waits_and_queues_known.main.body.getD i (.Pass ⟨0,0,0,0⟩)
abbrev ir:Stmt:=aH (top 2) 0
theorem mn:am ["self","count"] ["self","count"] (aj ir):=scO (by decide)
abbrev gR:Stmt:=aH (top 4) 0
theorem lu:am ["self","program"] ["self","program"] (aj gR):=scO (by decide)
abbrev ku:Stmt:=aH (top 4) 1
theorem jL:am ["self","hand","name","n","tool"] ["self","hand","name","n"] (aj ku):=scO (by decide)
abbrev kx:Stmt:=aH (top 4) 2
theorem gf:am ["self","hand","name","n","tool","given"] ["self","hand","name","n"] (aj kx):=scO (by decide)
abbrev jM:Stmt:=aH (top 4) 6
theorem cu:am ["self","hand","left","name","n","given","served"] ["self","hand"] (aj jM):=scO (by decide)
abbrev jN:Stmt:=aH (top 4) 7
theorem oA:am ["self"] ["self"] (aj jN):=scO (by decide)
abbrev i9:Stmt:=aH (top 4) 8
theorem nu:am ["self"] ["self"] (aj i9):=scO (by decide)
abbrev nA:Stmt:=top 5
theorem tJ:am ["program"] ["program"] (aj nA):=scO (by decide)
abbrev lF:Stmt:=top 6
theorem rO:am ["program"] ["program"] (aj lF):=scO (by decide)
abbrev lG:Stmt:=top 7
theorem rP:am ["tool"] ["tool"] (aj lG):=scO (by decide)
abbrev nB:Stmt:=top 9
theorem tK:am ["tool","hand","n"] ["tool","hand","n"] (aj nB):=scO (by decide)
abbrev pJ:Stmt:=top 10
theorem vZ:am ["tool","hand","n"] ["tool","hand","n"] (aj pJ):=scO (by decide)
abbrev ja:Stmt:=top 11
theorem dB:am ["tool","served","hand","n"] ["tool"] (aj ja):=scO (by decide)
abbrev lH:Stmt:=top 14
theorem rR:am ["statement"] ["statement"] (aj lH):=scO (by decide)
abbrev gS:Stmt:=top 15
theorem gj:am ["statement","word"] ["statement"] (aj gS):=scO (by decide)
abbrev nC:Stmt:=top 16
theorem lI:am ["statement","word"] ["statement"] (aj nC):=scO (by decide)
abbrev mt:Stmt:=top 18
theorem pK:am ["thing"] ["thing"] (aj mt):=scO (by decide)
abbrev iw:Stmt:=aH (top 24) 0
theorem mv:am ["self","number","name","row","known"] ["self","number","name","row","known"] (aj iw):=scO (by decide)
abbrev ix:Stmt:=aH (top 25) 0
theorem mw:am ["self","program","outer","agenda"] ["self","program","outer","agenda"] (aj ix):=scO (by decide)
abbrev fS:Stmt:=aH (top 25) 1
theorem jP:am ["self"] ["self"] (aj fS):=scO (by decide)
abbrev fb:Stmt:=aH (top 25) 2
theorem eD:am ["self","moment"] ["self"] (aj fb):=scO (by decide)
abbrev lJ:Stmt:=aH (top 25) 3
theorem kz:am ["self","moment"] ["self"] (aj lJ):=scO (by decide)
abbrev iy:Stmt:=aH (top 25) 4
theorem gU:am ["self","thing","brought","served"] ["self"] (aj iy):=scO (by decide)
abbrev nE:Stmt:=aH (top 25) 7
theorem tL:am ["self"] ["self"] (aj nE):=scO (by decide)
abbrev nF:Stmt:=aH (top 25) 9
theorem tN:am ["self"] ["self"] (aj nF):=scO (by decide)
abbrev lK:Stmt:=aH (top 25) 10
theorem sc_Yard_view:am ["self","hands","told"] ["self"] (aj lK):=scO (by decide)
abbrev nG:Stmt:=aH (top 25) 13
theorem tO:am ["self","number","words"] ["self","number","words"] (aj nG):=scO (by decide)
abbrev lL:Stmt:=aH (top 25) 14
theorem fc:am ["self","name","served","number","word","n"] ["self","name","served"] (aj lL):=scO (by decide)
abbrev kA:Stmt:=aH (top 25) 15
theorem qh:am ["self","name","numbers"] ["self","name","numbers"] (aj kA):=scO (by decide)
abbrev iA:Stmt:=aH (top 25) 16
theorem cZ:am ["self","hand","name","given","served"] ["self","hand"] (aj iA):=scO (by decide)
abbrev gW:Stmt:=aH (top 25) 17
theorem lw:am ["self","hand","name","given","served"] ["self","hand","name","given","served"] (aj gW):=scO (by decide)
abbrev dU:Stmt:=aH (top 25) 18
theorem ia:am ["self","hand","k"] ["self","hand","k"] (aj dU):=scO (by decide)
abbrev lM:Stmt:=aH (top 25) 20
theorem rV:am ["self","hand","word","names","numbers"] ["self","hand","word","names","numbers"] (aj lM):=scO (by decide)
abbrev lN:Stmt:=aH (top 25) 21
theorem rW:am ["self","hand","moments"] ["self","hand","moments"] (aj lN):=scO (by decide)
abbrev nH:Stmt:=aH (top 25) 22
theorem sc_Yard_ask:am ["self","hand","word","name","n","had","served"] ["self","hand","word","name","n"] (aj nH):=scO (by decide)
abbrev lO:Stmt:=aH (top 25) 23
theorem gX:am ["self","hand","name","n","given","served"] ["self","hand","name","n"] (aj lO):=scO (by decide)
abbrev eE:Stmt:=aH (top 27) 0
theorem iH:am ["self"] ["self"] (aj eE):=scO (by decide)
abbrev gY:Stmt:=aH (top 27) 1
theorem dQ:am ["self","moment","thing","at"] ["self","moment","thing"] (aj gY):=scO (by decide)
abbrev fT:Stmt:=aH (top 27) 2
theorem jQ:am ["self"] ["self"] (aj fT):=scO (by decide)
abbrev gk:Stmt:=aH (top 27) 3
theorem kB:am ["self"] ["self"] (aj gk):=scO (by decide)
abbrev eF:Stmt:=aH (top 27) 4
theorem iI:am ["self"] ["self"] (aj eF):=scO (by decide)
abbrev eG:Stmt:=aH (top 28) 0
theorem iJ:am ["self"] ["self"] (aj eG):=scO (by decide)
abbrev gZ:Stmt:=aH (top 28) 1
theorem lx:am ["self","moment","thing"] ["self","moment","thing"] (aj gZ):=scO (by decide)
abbrev fU:Stmt:=aH (top 28) 2
theorem jR:am ["self"] ["self"] (aj fU):=scO (by decide)
abbrev gm:Stmt:=aH (top 28) 3
theorem bX:am ["self","moment","turn","thing","last"] ["self"] (aj gm):=scO (by decide)
abbrev eI:Stmt:=aH (top 28) 4
theorem iK:am ["self"] ["self"] (aj eI):=scO (by decide)
abbrev xT:Stmt:=top 29
theorem oB:am ["heap","at"] ["heap"] (aj xT):=scO (by decide)
abbrev xU:Stmt:=top 30
theorem jb:am ["heap","at","least"] ["heap"] (aj xU):=scO (by decide)
abbrev hG:Stmt:=top 31
theorem cO:am ["heap","at","least","below"] ["heap","at"] (aj hG):=scO (by decide)
abbrev xV:Stmt:=top 32
theorem ut:am ["heap","one","other","kept"] ["heap","one","other"] (aj xV):=scO (by decide)
abbrev uu:Stmt:=top 35
theorem rX:am ["e","values","now","own","kind","left","right"] ["e","values","now","own"] (aj uu):=scO (by decide)
abbrev iB:Stmt:=top 36
theorem mx:am ["name","values"] ["name","values"] (aj iB):=scO (by decide)
abbrev ff:Stmt:=aH (top 40) 0
theorem jc:am ["self","program","outer","agenda"] ["self","program","outer","agenda"] (aj ff):=scO (by decide)
abbrev gn:Stmt:=aH (top 40) 1
theorem bE:am ["self","hand","path","going","statement"] ["self","hand"] (aj gn):=scO (by decide)
abbrev jd:Stmt:=aH (top 40) 2
theorem iC:am ["self","hand","statement","path","numbers"] ["self","hand","statement","path"] (aj jd):=scO (by decide)
abbrev fV:Stmt:=aH (top 40) 3
theorem bP:am ["self","hand","expressions","numbers","e","n","stop"] ["self","hand","expressions"] (aj fV):=scO (by decide)
abbrev jO:Stmt:=top 41
theorem dN:am ["body","row","at","statement","within","path"] ["body","row"] (aj jO):=scO (by decide)
abbrev hJ:Stmt:=top 42
theorem dR:am ["path","body","at"] ["path"] (aj hJ):=scO (by decide)
abbrev pL:Stmt:=top 43
theorem jD:am ["path","body","at"] ["path"] (aj pL):=scO (by decide)
abbrev lP:Stmt:=top 46
theorem cR:am ["cell","k","j","number"] ["cell","k"] (aj lP):=scO (by decide)
abbrev lQ:Stmt:=top 47
theorem fg:am ["program","outer","heap","agenda","yard"] ["program","outer","heap"] (aj lQ):=scO (by decide)
abbrev lR:Stmt:=top 48
theorem hU:am ["log","word","found","row"] ["log","word"] (aj lR):=scO (by decide)
abbrev lS:Stmt:=top 49
theorem aP:am ["script","heap","head","pieces","lasts","one","body","program","outer","moment","cell","yard","log","begins","k","takes","queues","says","queued","view"] ["script","heap"] (aj lS):=scO (by decide)
abbrev je:Stmt:=top 50
theorem sc__law_waiters:am ["script","heap","body","program","outer","moment","due","cell","lasts","yard","says"] ["script","heap"] (aj je):=scO (by decide)
abbrev v9:Stmt:=top 51
theorem xW:am ["script","heap"] ["script"] (aj v9):=scO (by decide)
structure TS where
 free:Int
 held:List (Int×Int)
 que:List (Int×Int)
def aV:List (Int×Int)->Int->Int
 | [],_=>0
 | (k,x)::r,h=>if k=h then x else aV r h
def c9:List (Int×Int)->Int->Int->List (Int×Int)
 | [],h,x=>[(h,x)]
 | (k,y)::r,h,x=>if k=h then (k,x)::r else (k,y)::c9 r h x
def bn(t:TS)(h n:Int):TS:=⟨t.free-n,c9 t.held h (aV t.held h+n),t.que⟩
def hk(held:List (Int×Int)):List (Key×V):=held.map λp=>(Sum.inl p.1,V.int p.2)
theorem nI:∀held:List (Int×Int),(aZ (hk held) (Sum.inl h)).getD (.int 0)= .int (aV held h)
 | []=>rfl
 | (k,x)::r=>by
  unfold hk aV
  rw [Ls]
  by_cases c:k=h
  ·rw [bQ (by rw [c]),RD c];rfl
  ·rw [bR (λe=>c (Sum.inl.inj e)),RC c]
   exact nI r
theorem xX:∀held:List (Int×Int),(held.map (·.1)).Nodup->bN (hk held) (Sum.inl h) (.int x)=hk (c9 held h x)
 | [],_=>rfl
 | (k,y)::r,nd=>by
  rw [Ls,LV] at nd
  have ih:=xX (h:=h) (x:=x) r nd.2
  unfold c9
  by_cases c:k=h
  ·rw [RD c]
   subst c
   unfold bN hk
   rw [RD (by rw [Ls];simp),Ls,Ls,Ls]
   congr 1
   ·simp
   ·rw [LW]
    refine Mt λp hp=>?_
    have:p.1≠k:=λe=>nd.1 (by rw [<-e];exact L3 (f:=(·.1)) hp)
    simp [this]
  ·rw [RC c]
   unfold bN hk at ih⊢
   rw [Ls,M7]
   have e0:decide ((Sum.inl k:Key)=Sum.inl h)=false:=decide_eq_false λe=>c (Sum.inl.inj e)
   rw [e0,Bool.false_or]
   by_cases c2:(List.map (λp=>((Sum.inl p.1:Key),V.int p.2)) r).any (λkv=>decide (kv.1=Sum.inl h))=true
   ·rw [RD c2] at ih⊢
    rw [Ls]
    congr 1
    simp [c]
   ·rw [RC c2] at ih⊢
    rw [MP,ih,Ls]
theorem pM:∀held:List (Int×Int),(held.map (·.1)).Nodup->((c9 held h x).map (·.1)).Nodup/\(∀k,k∈(c9 held h x).map (·.1)->k=h\/k∈held.map (·.1))/\(c9 held h x).length<=held.length+1
 | [],_=>⟨List.nodup_cons.mpr ⟨Lr,.nil⟩,λk hk=>.inl (List.mem_singleton.mp hk),Nat.le_refl _⟩
 | (k,y)::r,nd=>by
  rw [Ls,LV] at nd
  obtain⟨a,b,c⟩:=pM r nd.2
  unfold c9
  by_cases e:k=h
  ·rw [RD e]
   exact⟨by rw [Ls,LV];exact nd,λk' hk'=>.inr hk',by simp⟩
  ·rw [RC e,Ls,LV]
   refine⟨⟨λz=>(b _ z).elim (λz=>e z) nd.1,a⟩,λk' hk'=>?_,by simp only [Lw];lia⟩
   rcases List.mem_cons.mp hk' with rfl | hk'
   ·exact .inr Ll
   ·exact(b _ hk').imp id λz=>Lm _ z
def srv:List (Int×Int)->TS->List (Int×Int)×TS
 | [],t=>([],t)
 | (h,n)::q,t=>if n<=t.free then ((h,n)::(srv q (bn ⟨t.free,t.held,q⟩ h n)).1,(srv q (bn ⟨t.free,t.held,q⟩ h n)).2) else ([],t)
theorem jE(c:n<=t.free):srv ((h,n)::q) t=((h,n)::(srv q (bn ⟨t.free,t.held,q⟩ h n)).1,(srv q (bn ⟨t.free,t.held,q⟩ h n)).2):=by
 show(if n<=t.free then _ else _)=_
 rw [RD c]
inductive Prs (H:Hp):List V->List (Int×Int)->Prop
 | nil:Prs H [] []
 | cons {p:Addr} {h n:Int} {vs:List V} {ps:List (Int×Int)}:H p=some (.tup [.int h,.int n])->Prs H vs ps->Prs H (.ref p::vs) ((h,n)::ps)
theorem Prs.mono(g:∀c xs,H c=some (.tup xs)->H' c=some (.tup xs)):∀{vs:List V} {ps:List (Int×Int)},Prs H vs ps->Prs H' vs ps:=by
 intro x0 x1 zq
 induction zq with
 | nil=>exact .nil
 | cons h r ih=>exact .cons (g _ _ h) ih
theorem Prs.length:∀{vs:List V} {ps:List (Int×Int)},Prs H vs ps->vs.length=ps.length:=by
 intro x0 x1 zq
 induction zq with
 | nil=>exact rfl
 | cons _ r ih=>rw [Lw,Lw,ih]
theorem Prs.snoc(hp:H p=some (.tup [.int h,.int n])):∀{vs:List V} {ps:List (Int×Int)},Prs H vs ps->Prs H (vs++[.ref p]) (ps++[(h,n)]):=by
 intro x0 x1 zq
 induction zq with
 | nil=>exact .cons hp .nil
 | cons h r ih=>exact .cons h ih
def Fr3(a d q:Addr)(H H':Hp):Prop:=∀c u,c≠a->c≠d->c≠q->H c=some u->H' c=some u
def hs:List Int:=(List.range 60).map λ(i:Nat)=>((i:Int)+1)
def FK(t:TS):Prop:=(∀p∈t.held,p.1∈hs)/\∀p∈t.que,p.1∈hs
theorem qB:∀{l m:List Int},l.Nodup->(∀x∈l,x∈m)->l.length<=m.length
 | [],m,_,_=>Mf _
 | x::l,m,nd,h=>by
  rw [LV] at nd
  have hx:=h x Ll
  have h2:∀y∈l,y∈m.erase x:=λy hy=>(List.mem_erase_of_ne (λz=>nd.1 (by rw [<-z];exact hy))).mpr (h y (Lm _ hy))
  have:=qB nd.2 h2
  rw [List.length_erase_of_mem hx] at this
  have hp:=List.length_pos_of_mem hx
  rw [Lw];lia
theorem rY(nd:(t.held.map (·.1)).Nodup)(h:FK t):t.held.length<=60:=by
 have:=qB nd λx hx=>by
  obtain⟨p,hp,e⟩:=List.mem_map.mp hx
  exact e▸h.1 p hp
 rw [Ln] at this
 exact this
def TlO(C:Addr)(H:Hp)(a d q:Addr)(t:TS):Prop:=∃dx qs,H a=some (.ins C dx [("free",.int t.free),("held",.ref d),("queue",.ref q)])/\H d=some (.dK (hk t.held))/\H q=some (.lst qs)/\Prs H qs t.que/\(t.held.map (·.1)).Nodup/\FK t/\t.que.length<=200
section
variable{P:Np}{w:Nu}{K:MF}{mg:Str->Option Nk}{base:Heap}
def uv(C:Addr):Sp:=λvs H Q _=>∃(a dx:Addr) (n:Int),vs= [.ref a,.int n]/\H a=some (.ins C dx [])/\∀(d q:Addr) (H':Hp),H d=none->H q=none->(∀c u,c≠a->H c=some u->H' c=some u)->TlO C H' a d q ⟨n,[],[]⟩->Q .non H'
theorem CB(D:MakeAt K mg "Tool" C "Tool.__init__" ir ["self","count"])(IT:Cls K C)(Ja:NoAttr K C "free")(Jb:NoAttr K C "held")(IZ:NoAttr K C "queue"):OkC P w K mg base 1 "Tool" C ["self","count"] (uv C):=by
 refine D.ok mn (λvs H Q E h=>?_) (λf cdv A outer s H vs Q E hr h=>?_)
 ·obtain⟨_,_,_,rfl,_⟩:=h;rfl
 obtain⟨a,dx,n,rfl,ha,q⟩:=h
 refine⟨_,(aa (aI IT Ja (pv 0) (pv 1)) (aa (aI IT Jb (pv 0) lZ) (ae (aI IT IZ (pv 0) (aE a0))))),?_⟩
 walk_at "rd"
 intro H1 m1 d H2 hd g2 h2
 have a2:=g2 _ _ m1.at_
 walk_at "rd"
 intro H3 m3 q0 H4 hq g4 h4
 have a4:=g4 _ _ m3.at_
 walk_at "rd"
 intro H5 m5
 have nd:=(aK m1.at_ hd).symm
 have nq:=(aK m3.at_ hq).symm
 have d3:=m3.old h2 nd
 have hd0:H d=none:=by rw [<-m1.else_ d nd];exact hd
 have hq2:H2 q0=none:=by rw [<-m3.else_ q0 nq];exact hq
 have hq0:H q0=none:=by rw [<-m1.else_ q0 nq];exact g2.free hq2
 refine q d q0 H5 hd0 hq0 (λc u nc hc=>m5.old (g4 _ _ (m3.old (g2 _ _ (m1.old hc nc)) nc)) nc) ⟨dx,[],m5.at_,m5.old (g4 _ _ d3) nd,m5.old h4 nq,.nil,.nil,⟨λp hp=>absurd hp Lr,λp hp=>absurd hp Lr⟩,by simp⟩
theorem Fr3.trans(g:Fr3 a d q H H')(g':Fr3 a d q H' H''):Fr3 a d q H H'':=λc u h1 h2 h3 h=>g' c u h1 h2 h3 (g c u h1 h2 h3 h)
def qC(C:Addr):Sp:=λvs H Q _=>∃(a d q:Addr) (t:TS) (h n:Int),vs= [.ref a,.int h,.int n]/\TlO C H a d q t/\h∈hs/\∀H',Fr3 a d q H H'->TlO C H' a d q (bn t h n)->Q .non H'
theorem FM(D:DefAt K mg "hand_out" nB ["tool","hand","n"])(IT:Cls K C)(Ja:NoAttr K C "free")(Jb:NoAttr K C "held"):OkD P w K mg base 1 "hand_out" ["tool","hand","n"] (qC C):=by
 refine D.ok tK (λvs H Q E h=>?_) (λf cdv A outer s H vs Q E hr h=>?_)
 ·obtain⟨_,_,_,_,_,_,rfl,_⟩:=h;rfl
 obtain⟨a,d,q0,t,h,n,rfl,⟨dx,qs,k1,k2,k3,k4,k5,k6,k7⟩,kl,q⟩:=h
 have hu:=cJ hr
 have big:100000<=Nm:=by unfold Nm;decide
 refine⟨_,(aa (aI IT Ja (pv 0) (az eN (ai IT Ja (pv 0)) (pv 2))) (ae (j5 hu (ai IT Jb (pv 0)) (pv 1) (az bc (j7 hu (ai IT Jb (pv 0)) (pv 1) ac ⟨rfl,rfl,rfl,rfl⟩) (pv 2))))),?_⟩
 walk_at "rd"
 intro H1 m1
 have nda:d≠a:=λz=>by rw [z,k1] at k2;cases k2
 have nqa:q0≠a:=λz=>by rw [z,k1] at k3;cases k3
 have nqd:q0≠d:=λz=>by rw [z,k2] at k3;cases k3
 have a1:=m1.at_
 have d1:=m1.old k2 nda
 have lh:(hk t.held).length=t.held.length:=by unfold hk;rw [Ln]
 have l12:=rY k5 k6
 walk_at "rd"
 refine⟨⟨_,rfl⟩,_,nI _,by lia,λH2 m2=>?_⟩
 obtain⟨p1,p2,p3⟩:=pM t.held k5
 have nt:∀c xs,H c=some (.tup xs)->H2 c=some (.tup xs):=λc xs hc=>m2.old (m1.old hc (λz=>by rw [z,k1] at hc;cases hc)) (λz=>by rw [z,k2] at hc;cases hc)
 refine q H2 (λc u n1 n2 _ hc=>m2.old (m1.old hc n1) n2) ⟨dx,qs,m2.old a1 (Ne.symm nda),?_,m2.old (m1.old k3 nqa) nqd,k4.mono nt,p1,⟨λp hp=>(p2 p.1 (L3 (f:=(·.1)) hp)).elim (λz=>z▸kl) (λz=>by obtain⟨p',hp',e'⟩:=List.mem_map.mp z;exact e'▸k6.1 p' hp'),k6.2⟩,k7⟩
 rw [m2.at_,xX _ k5]
 rfl
def FN(C:Addr):Sp:=λvs H Q _=>∃(a d q:Addr) (t:TS) (h n:Int),vs= [.ref a,.int h,.int n]/\TlO C H a d q t/\h∈hs/\∀H',Fr3 a d q H H'->TlO C H' a d q (bn t h (-n))->Q .non H'
theorem Hl(D:DefAt K mg "hand_in" pJ ["tool","hand","n"])(JA:OkD P w K mg base 1 "hand_out" ["tool","hand","n"] (qC C)):OkD P w K mg base 2 "hand_in" ["tool","hand","n"] (FN C):=by
 refine D.ok vZ (λvs H Q E h=>?_) (λf cdv A outer s H vs Q E hr h=>?_)
 ·obtain⟨_,_,_,_,_,_,rfl,_⟩:=h;rfl
 obtain⟨a,d,q0,t,h,n,rfl,tl,kl,q⟩:=h
 refine⟨_,(ae (aC (aR JA hr rfl (bJ (pv 0) (pv 1) (kO iT (pv 2)))))),?_⟩
 walk_at "rd"
 exact⟨a,d,q0,t,h, -n,rfl,tl,kl,λH' f3 tl'=>q H' f3 tl'⟩
inductive Svd (w:Str) (H:Hp):List V->List (Int×Int)->Prop
 | nil:Svd w H [] []
 | cons {p:Addr} {h n:Int} {vs:List V} {ps:List (Int×Int)}:H p=some (.tup [.int h,.str w,.int n])->Svd w H vs ps->Svd w H (.ref p::vs) ((h,n)::ps)
theorem Svd.mono{w:Str}(g:∀c xs,H c=some (.tup xs)->H' c=some (.tup xs)):∀{vs:List V} {ps:List (Int×Int)},Svd w H vs ps->Svd w H' vs ps:=by
 intro x0 x1 zq
 induction zq with
 | nil=>exact .nil
 | cons h r ih=>exact .cons (g _ _ h) ih
theorem Svd.length{w:Str}:∀{vs:List V} {ps:List (Int×Int)},Svd w H vs ps->vs.length=ps.length:=by
 intro x0 x1 zq
 induction zq with
 | nil=>exact rfl
 | cons _ r ih=>rw [Lw,Lw,ih]
theorem Svd.snoc{w:Str}(hp:H p=some (.tup [.int h,.str w,.int n])):∀{vs:List V} {ps:List (Int×Int)},Svd w H vs ps->Svd w H (vs++[.ref p]) (ps++[(h,n)]):=by
 intro x0 x1 zq
 induction zq with
 | nil=>exact .cons hp .nil
 | cons h r ih=>exact .cons h ih
theorem TlO.ne(h:TlO C H a d q t):∀c xs,H c=some (.tup xs)->c≠a/\c≠d/\c≠q:=by
 obtain⟨dx,qs,k1,k2,k3,_⟩:=h
 intro c xs hc
 refine⟨λz=>?_,λz=>?_,λz=>?_⟩
 ·rw [z,k1] at hc;cases hc
 ·rw [z,k2] at hc;cases hc
 ·rw [z,k3] at hc;cases hc
theorem TlO.kt(h:TlO C H a d q t)(f:Fr3 a d q H H'):∀c xs,H c=some (.tup xs)->H' c=some (.tup xs):=λc xs hc=>by
 obtain⟨n1,n2,n3⟩:=h.ne c xs hc
 exact f c _ n1 n2 n3 hc
theorem uw(h:H p=some (.lst xs)):vi K (.ref p) H (!xs.isEmpty):=.inl ⟨_,SqL.of h,rfl⟩
theorem TlO.grow(h:TlO C H a d q t)(g:∀c u,(c=a\/c=d\/c=q\/∃xs,u=HO.tup xs)->H c=some u->H' c=some u):TlO C H' a d q t:=by
 obtain⟨dx,qs,k1,k2,k3,k4,k5⟩:=h
 exact⟨dx,qs,g _ _ (.inl rfl) k1,g _ _ (.inr (.inl rfl)) k2,g _ _ (.inr (.inr (.inl rfl))) k3,k4.mono λc xs hc=>g _ _ (.inr (.inr (.inr ⟨xs,rfl⟩))) hc,k5⟩
def StI(C a d q r:Addr)(t:TS)(H:Hp)(m:Nat)(σ:St)(H':Hp):Prop:=∃(sv:List V) (dn:List (Int×Int)) (t':TS) (v2 v3:Option V),σ= [some (.ref a),some (.ref r),v2,v3]/\Fr3 a d q H H'/\H' r=some (.lst sv)/\Svd "takes" H' sv dn/\TlO C H' a d q t'/\dn++(srv t'.que t').1=(srv t.que t).1/\(srv t'.que t').2=(srv t.que t).2/\dn.length+t'.que.length<=200/\m=t'.que.length
def StZ(C a d q r:Addr)(t:TS)(H:Hp)(σ:St)(H':Hp):Prop:=∃(sv:List V) (v2 v3:Option V),σ= [some (.ref a),some (.ref r),v2,v3]/\Fr3 a d q H H'/\H' r=some (.lst sv)/\Svd "takes" H' sv (srv t.que t).1/\TlO C H' a d q (srv t.que t).2
def uy(C:Addr):Sp:=λvs H Q _=>∃(a d q:Addr) (t:TS),vs= [.ref a]/\TlO C H a d q t/\
 ∀(r:Addr) (H':Hp) (sv:List V),H r=none->Fr3 a d q H H'->H' r=some (.lst sv)->Svd "takes" H' sv (srv t.que t).1->TlO C H' a d q (srv t.que t).2->Q (.ref r) H'
theorem zS(D:DefAt K mg "serve_takers" ja ["tool"])(IT:Cls K C)(Ja:NoAttr K C "free")(IZ:NoAttr K C "queue")(JA:OkD P w K mg base 1 "hand_out" ["tool","hand","n"] (qC C)):OkD P w K mg base 2 "serve_takers" ["tool"] (uy C):=by
 refine D.ok dB (λvs H Q E h=>?_) (λf cdv A outer s H vs Q E hr h=>?_)
 ·obtain⟨_,_,_,_,rfl,_⟩:=h;rfl
 obtain⟨a,d,q0,t,rfl,tl,q⟩:=h
 have big:100000<=Nm:=by unfold Nm;decide
 refine⟨_,(aa (aQ 1 dB (aE a0)) (aa (gu (d7 NE.never (PW.pt (iO (d8 (ai IT IZ (pv 0)) (λ_=>rfl)) (gC (aO A4 (aq (aq (ai IT IZ (pv 0)) ac) ac) (ai IT Ja (pv 0)))))) (aa (de (vy NR Om On pB (ai IT IZ (pv 0)) (aG ac)) (cb 2 rfl (aL (bw 2 dB) (aL (bw 3 dB) bZ)))) (aa (aC (aR JA hr rfl (bJ (pv 0) (pv 2) (pv 3)))) (ae (aC (dv (pv 1) (au (bJ (pv 2) av (pv 3)))))))))) (ae (ax (pv 1))))),?_⟩
 symm
 intro r H1 hr1 g1 h1
 refine⟨StZ C a d q0 r t H,?_,?_⟩
 ·refine⟨StI C a d q0 r t H,⟨t.que.length,?_⟩,?_⟩
  ·unfold StI
   obtain⟨dx,qs,k1,k2,k3,k4,k5,k6,k7⟩:=tl
   exact⟨[],[],t,_,_,rfl,λc u _ _ _ hc=>g1 _ _ hc,h1,.nil,⟨dx,qs,g1 _ _ k1,g1 _ _ k2,g1 _ _ k3,k4.mono λ_ _ hc=>g1 _ _ hc,k5,k6,k7⟩,rfl,rfl,by simp only [Mr];lia,rfl⟩
  ·intro m σ H2 z
   unfold StI at z
   obtain⟨sv,dn,t',v2,v3,rfl,f3,h2,sd,tl',e1,e2,b2,rfl⟩:=z
   obtain⟨dx,qs,k1,k2,k3,k4,k5,k6,k7⟩:=id tl'
   clear h1
   symm
   have nrq:r≠q0:=by
    obtain⟨_,_,_,_,kq,_⟩:=tl
    exact λz=>by rw [z,kq] at hr1;cases hr1
   have fin:(srv t'.que t')=([],t')->∀v2 v3,StZ C a d q0 r t H [some (.ref a),some (.ref r),v2,v3] H2:=λe v2 v3=>by
    rw [e] at e1 e2
    unfold StZ
    refine⟨sv,_,_,rfl,f3,h2,?_,?_⟩
    ·rw [<-e1,LQ];exact sd
    ·rw [<-e2];exact tl'
   refine⟨!qs.isEmpty,uw k3,?_⟩
   cases hq:t'.que with
   | nil=>
    rw [hq] at k4
    cases k4
    exact Eu (fin (by rw [hq];rfl) _ _)
   | cons p0 qu=>
    obtain⟨h,n⟩:=p0
    rw [hq] at k4
    cases k4 with
    | cons hp0 pr0=>
    rename_i pa qs'
    apply zd
    symm
    refine cv (λc=>?_) λc=>?_
    rotate_left
    ·symm
     exact fin (by rw [hq];unfold srv;rw [RC c]) _ _
    rw [<-hq]
    refine⟨λσ' H'=>∃m',m'<t'.que.length/\StI C a d q0 r t H m' σ' H',λ_ _ z=>z,?_⟩
    symm
    refine⟨⟨_,SqL.of k3⟩,?_⟩
    symm
    refine⟨by lia,_,by have:=pr0.length;rw [hq] at k7;simp only [Lw] at k7⊢;lia,rfl,λH3 m3=>?_⟩
    have npa:=(tl'.ne pa _ hp0).2.2
    have hp3:=m3.old hp0 npa
    obtain⟨nra,nrd⟩:r≠a/\r≠d:=by
     obtain⟨_,_,ka,kd,_⟩:=tl
     exact⟨λz=>(by rw [z,ka] at hr1;cases hr1),λz=>(by rw [z,kd] at hr1;cases hr1)⟩
    have naq:a≠q0:=λz=>by rw [z,k3] at k1;cases k1
    have ndq:d≠q0:=λz=>by rw [z,k3] at k2;cases k2
    have kt3:=λc xs hc=>m3.old hc (tl'.ne c xs hc).2.2
    have tl3:TlO C H3 a d q0 ⟨t'.free,t'.held,qu⟩:=⟨dx,qs',m3.old k1 naq,m3.old k2 ndq,m3.at_,pr0.mono kt3,k5,⟨k6.1,λp hp=>k6.2 p (by rw [hq];exact Lm _ hp)⟩,by rw [hq,Lw] at k7;show qu.length<=200;lia⟩
    rw [hq,Lw] at b2
    symm
    refine⟨a,d,q0,⟨t'.free,t'.held,qu⟩,h,n,rfl,tl3,k6.2 (h,n) (by rw [hq];exact Ll),λH4 f4 tl4=>?_⟩
    have h4r:=f4 r _ nra nrd nrq (m3.old h2 nrq)
    have ls:=sd.length
    symm
    intro p5 H5 hp5 g5 h5
    have h5r:=g5 _ _ h4r
    symm
    refine⟨by lia,λH6 m6=>⟨qu.length,by first | (rw [hq,Lw];lia) | lia,?_⟩⟩
    have kt6:=λc xs hc=>m6.old (g5 _ _ (tl3.kt f4 c xs (kt3 c xs hc))) λz=>by rw [z,h2] at hc;cases hc
    have np5:=(aK h4r hp5).symm
    refine⟨sv++[.ref p5],dn++[(h,n)],bn ⟨t'.free,t'.held,qu⟩ h n,_,_,rfl,λc u n1 n2 n3 hc=>m6.old (g5 _ _ (f4 c u n1 n2 n3 (m3.old (f3 c u n1 n2 n3 hc) n3))) (aK hc hr1),m6.at_,(sd.mono kt6).snoc (m6.old h5 np5),tl4.grow λc u hc e=>m6.old (g5 _ _ e) (λz=>?_),?_,?_,?_,rfl⟩
    ·rcases hc with rfl | rfl | rfl | ⟨xs,rfl⟩
     ·exact nra z.symm
     ·exact nrd z.symm
     ·exact nrq z.symm
     ·rw [z,h4r] at e;cases e
    ·rw [<-e1,hq,LO]
     congr 1
     rw [jE c]
     rfl
    ·rw [<-e2,hq,jE c]
     rfl
    ·show(dn++[(h,n)]).length+qu.length<=200
     rw [Lq,LN];lia
 ·intro σ H2 z
  obtain⟨sv,v2,v3,rfl,f3,h2,sd,tl'⟩:=z
  symm
end
theorem bY{α:Type}{xs:List α}{x:α}(h:xs[i]? =some x):xs.take (i+1)=xs.take i++[x]:=by
 obtain⟨h1,h2⟩:=List.getElem?_eq_some_iff.mp h
 rw [<-List.take_append_getElem h1,h2]
theorem Bz{i:Nat}(h:(hk held)[i]? =some (k,x)):∃a n,k=Sum.inl a/\x= .int n/\held[i]? =some (a,n):=by
 unfold hk at h
 rw [LF] at h
 cases e:held[i]? with
 | none=>rw [e] at h;cases h
 | some p=>rw [e] at h;cases h;exact⟨p.1,p.2,rfl,rfl,rfl⟩
def Told(H0 H:Hp)(v:V)(t:TS):Prop:=∃p ph pq:Addr,v= .ref p/\H p=some (.tup [.int t.free,.ref ph,.ref pq])/\H ph=some (.lst [])/\H pq=some (.lst [])/\H0 ph=none/\H0 pq=none
section
variable{P:Np}{w:Nu}{K:MF}{mg:Str->Option Nk}{base:Heap}
def xY(C:Addr):Sp:=λvs H Q _=>∃(a d q:Addr) (t:TS),vs= [.ref a]/\TlO C H a d q t/\t.que= []/\(∀p∈t.held,¬0<p.2)/\∀v H',Same H H'->Told H H' v t->Q v H'
theorem CC(D:DefAt K mg "told_tool" lG ["tool"])(IT:Cls K C)(Ja:NoAttr K C "free")(Jb:NoAttr K C "held")(IZ:NoAttr K C "queue")(Jz:mg "sorted" =none)(Jq:mg "list" =none):OkD P w K mg base 1 "told_tool" ["tool"] (xY C):=by
 refine D.ok rP (λvs H Q E h=>?_) (λf cdv A outer s H vs Q E hr h=>?_)
 ·obtain⟨_,_,_,_,rfl,_⟩:=h;rfl
 obtain⟨a,d,q0,t,rfl,⟨dx,qs,k1,k2,k3,k4,k5,k6',k7⟩,tq,tz,q⟩:=h
 rw [tq] at k4
 cases k4
 have k6:=rY k5 k6'
 have big:100000<=Nm:=by unfold Nm;decide
 have lh:(hk t.held).length=t.held.length:=by unfold hk;rw [Ln]
 refine⟨_,(ae (ax (au (bJ (ai IT Ja (pv 0)) (gc (j8 rfl) Jz (aG (qZ (cQ 2 ["hand","n"] [] (zx (ai IT Jb (pv 0))) (λn _ _ _ _=>(cb 2 rfl (aL (cY 0 n) (aL (cY 1 n) bZ)))) (λ_ _ _ _=>(uf (aO gq (pv 1) ac))) (λ_ _ _ _=>(au (aD (pv 0) (pv 1)))))))) (dA jy Jq (aG (ai IT IZ (pv 0)))))))),?_⟩
 walk_at "rd"
 apply br
 simp only [xy]
 walk_at "rd"
 intro o nf
 refine tE aB (by lia) (λ_ _ ys σ1 _=>ys= []/\∃v0 v1,σ1= [v0,v1]) (λD H' _ _ _=>⟨rfl,_,_,rfl⟩) ?_ ?_
 ·rintro D i k x ys σ1 H1 p H2 hx at1 ⟨rfl,v0,v1,rfl⟩ hp g2 h2
  obtain⟨h,n,rfl,rfl,eh⟩:=Bz hx
  walk_at "rd"
  exact cv (λc=>absurd (by simpa using c) (tz _ (LC eh))) λc=>at1.skip g2 ⟨rfl,_,_,rfl⟩
 ·rintro D ys σ1 H1 hD g1 hy hle ⟨rfl,_⟩
  have nDd:D≠d:=λz=>by rw [z,aB] at hD;cases hD
  have SH:Same H (upd H1 d (.dK (hk t.held))):=λc u hc=>by
   by_cases z:c=d
   ·rw [z,aB];rw [z,k2] at hc;exact hc
   ·rw [aN z]
    exact g1 _ _ (by rw [aN z];exact hc)
  refine⟨d,nf,o,_,g1 _ _ aB,D,rfl,[],by rw [aN nDd];exact hy,λq hq=>absurd hq Lr,2,by decide,λq hq=>absurd hq Lr,.nil,by decide,λDS H2 zs hDS g2 h2 pz sz=>?_⟩
  cases pz.eq_nil
  have S2:=SH.trans g2
  have a2:=S2 _ _ k1
  have q2:=S2 _ _ k3
  walk_at "rd"
  intro l3 H3 hl3 g3 h3 p4 H4 hp4 g4 h4
  exact q (.ref p4) H4 ((S2.trans g3).trans g4) ⟨p4,DS,l3,rfl,h4,g4 _ _ (g3 _ _ h2),g4 _ _ h3,SH.free hDS,S2.free hl3⟩
end
structure Ent where
 name:Str
 a:Addr
 d:Addr
 q:Addr
 c:Int
 t:TS
def kvE(es:List Ent):List (Key×V):=es.map λe=>(Sum.inr e.name,V.ref e.a)
inductive PrN (H:Hp):List V->List (Str×Int)->Prop
 | nil:PrN H [] []
 | cons {p:Addr} {s:Str} {n:Int} {vs:List V} {ps:List (Str×Int)}:H p=some (.tup [.str s,.int n])->PrN H vs ps->PrN H (.ref p::vs) ((s,n)::ps)
theorem PrN.get(t:PrN H vs ps):∀{i:Nat} {v:V},vs[i]? =some v->∃p s n,v= .ref p/\ps[i]? =some (s,n)/\H p=some (.tup [.str s,.int n]):=by
 induction t with
 | nil=>intro i v e;simp at e
 | cons hp _ ih=>
  intro i v e
  cases i with
  | zero=>simp at e;exact⟨_,_,_,e.symm,rfl,hp⟩
  | succ i=>simpa using ih (i:=i) (by simpa using e)
theorem PrN.length:∀{vs:List V} {ps:List (Str×Int)},PrN H vs ps->vs.length=ps.length:=by
 intro x0 x1 zq
 induction zq with
 | nil=>exact rfl
 | cons _ r ih=>rw [Lw,Lw,ih]
inductive PrT (C:Addr) (H:Hp):List V->List Ent->Prop
 | nil:PrT C H [] []
 | cons {p:Addr} {e:Ent} {vs:List V} {es:List Ent}:H p=some (.tup [.str e.name,.ref e.a])->TlO C H e.a e.d e.q e.t->PrT C H vs es->PrT C H (.ref p::vs) (e::es)
theorem TlO.same(g:Same H H')(h:TlO C H a d q t):TlO C H' a d q t:=h.grow λc u _ e=>g _ _ e
theorem PrT.mono(g:Same H H'):∀{vs:List V} {es:List Ent},PrT C H vs es->PrT C H' vs es:=by
 intro x0 x1 zq
 induction zq with
 | nil=>exact .nil
 | cons h t r ih=>exact .cons (g _ _ h) (t.same g) ih
theorem PrT.snoc(hp:H p=some (.tup [.str e.name,.ref e.a]))(ht:TlO C H e.a e.d e.q e.t):∀{vs:List V} {es:List Ent},PrT C H vs es->PrT C H (vs++[.ref p]) (es++[e]):=by
 intro x0 x1 zq
 induction zq with
 | nil=>exact .cons hp ht .nil
 | cons h t r ih=>exact .cons h t ih
theorem PrT.prk:∀{vs:List V} {es:List Ent},PrT C H vs es->PrK H vs (kvE es):=by
 intro x0 x1 zq
 induction zq with
 | nil=>exact .nil
 | cons h _ r ih=>exact .cons h ih
theorem PrT.at(t:PrT C H vs es):∀e∈es,TlO C H e.a e.d e.q e.t:=by
 induction t with
 | nil=>exact λe h=>absurd h Lr
 | cons _ t _ ih=>
  intro e h
  rcases List.mem_cons.mp h with rfl | h
  ·exact t
  ·exact ih e h
theorem kC:∀(ps:List (Key×V)) (c:List (Key×V)),((c++ps).map (·.1)).Nodup->ps.foldl (λc p=>bN c p.1 p.2) c=c++ps
 | [],c,_=>(LQ c).symm
 | p::ps,c,nd=>by
  have no:¬(c.any λkv=>decide (kv.1=p.1))=true:=λz=>by
   obtain⟨x,hx,e⟩:=List.any_eq_true.mp z
   rw [Lx,MJ] at nd
   exact nd.2.2 x.1 (L3 hx) p.1 (by simp) (of_decide_eq_true e)
  have e:bN c p.1 p.2=c++[p]:=by unfold bN;rw [RC no]
  rw [List.foldl_cons,e,kC ps (c++[p]) (by rw [LO];exact nd),LO];rfl
theorem xZ{xs:List Str}(h:xs.Nodup):(xs.map (Sum.inr:Str->Key)).Nodup:=by
 induction xs with
 | nil=>exact .nil
 | cons x r ih=>
  rw [LV] at h
  rw [Ls,LV]
  refine⟨λz=>?_,ih h.2⟩
  obtain⟨y,hy,e⟩:=List.mem_map.mp z
  cases e
  exact h.1 hy
def adE(es:List Ent):List Addr:=es.flatMap λe=>[e.a,e.d,e.q]
theorem oC(h:c∈adE es):∃e∈es,c=e.a\/c=e.d\/c=e.q:=by
 obtain⟨e,he,hc⟩:=List.mem_flatMap.mp h
 simp at hc
 exact⟨e,he,hc⟩
theorem TlO.has(h:TlO C H a d q t):(∃u,H a=some u)/\(∃u,H d=some u)/\∃u,H q=some u:=by
 obtain⟨_,_,k1,k2,k3,_⟩:=h
 exact⟨⟨_,k1⟩,⟨_,k2⟩,⟨_,k3⟩⟩
theorem TlO.nd(h:TlO C H a d q t):[a,d,q].Nodup:=by
 obtain⟨_,_,k1,k2,k3,_⟩:=h
 have n1:a≠d:=λz=>by rw [z,k2] at k1;cases k1
 have n2:a≠q:=λz=>by rw [z,k3] at k1;cases k1
 have n3:d≠q:=λz=>by rw [z,k3] at k2;cases k2
 simp [n1,n2,n3]
theorem fB(h:∀e∈es,TlO C H e.a e.d e.q e.t):∀c∈adE es,∃u,H c=some u:=λc hc=>by
 obtain⟨e,he,z⟩:=oC hc
 obtain⟨h1,h2,h3⟩:=(h e he).has
 rcases z with rfl | rfl | rfl
 ·exact h1
 ·exact h2
 ·exact h3
section
variable{P:Np}{w:Nu}{K:MF}{mg:Str->Option Nk}{base:Heap}
def ToP(C:Addr)(H:Hp)(pr:List (Str×Int))(D:Addr)(i:Nat)(ys:List V)(σ1:St)(H':Hp):Prop:=∃(es:List Ent) (v0 v1:Option V),σ1= [v0,v1]/\PrT C (cB D H') ys es/\es.map (λe=>(e.name,e.c,e.t))=(pr.take i).map (λp=>(p.1,p.2,⟨p.2,[],[]⟩))/\(adE es).Nodup/\∀c∈adE es,H c=none
def pN(C:Addr):Sp:=λvs H Q _=>∃(pp p0:Addr) (x1 x2 x3:V) (ys:List V) (pr:List (Str×Int)),vs= [.ref pp]/\H pp=some (.tup [.ref p0,x1,x2,x3])/\H p0=some (.lst ys)/\PrN H ys pr/\pr.length<=10/\(pr.map (·.1)).Nodup/\
 ∀(d:Addr) (H':Hp) (es:List Ent),H d=none->Same H H'->H' d=some (.dK (kvE es))->(∀e∈es,TlO C H' e.a e.d e.q e.t)->es.map (λe=>(e.name,e.c,e.t))=pr.map (λp=>(p.1,p.2,⟨p.2,[],[]⟩))->(d::adE es).Nodup->(∀c∈adE es,H c=none)->Q (.ref d) H'
theorem wb(D:DefAt K mg "tools_of" nA ["program"])(KH:OkC P w K mg base 1 "Tool" C ["self","count"] (uv C))(JB:mg "dict" =none):OkD P w K mg base 3 "tools_of" ["program"] (pN C):=by
 refine D.ok tJ (λvs H Q E h=>?_) (λf cdv A outer s H vs Q E hr h=>?_)
 ·obtain⟨_,_,_,_,_,_,_,rfl,_⟩:=h;rfl
 obtain⟨pp,p0,x1,x2,x3,ys,pr,rfl,h1,h2,h3,h4,hnd,q⟩:=h
 have big:100000<=Nm:=by unfold Nm;decide
 have ly:=h3.length
 refine⟨_,(ae (ax (dA dM JB (aG (cQ 2 ["name","count"] [] (bp (aq (pv 0) ac)) (λn _ _ _ _=>(cb 2 rfl (aL (cY 0 n) (aL (cY 1 n) bZ)))) (λ_ _ _ _=>cc) (λ_ _ _ _=>(au (aD (pv 0) (jA KH hr rfl (aG (pv 1))))))))))),?_⟩
 walk_at "rd"
 apply br
 simp only [bU]
 walk_at "rd"
 refine⟨⟨_,SqL.of h2⟩,lE h2 (by lia) (ToP C H pr) (λD H' _ _ _=>by unfold ToP;exact⟨[],_,_,rfl,.nil,rfl,.nil,λe he=>absurd he Lr⟩) ?_ ?_⟩
 ·rintro D i x zs σ1 H1 hx at1 pv
  unfold ToP at pv
  obtain⟨es,v0,v1,rfl,pt,em,na,fr⟩:=pv
  obtain⟨p,nm,n,rfl,en,hp⟩:=h3.get hx
  have hp1:=at1.same _ _ hp
  walk_at "rd"
  intro x dx H2 hx0 hdx g2 hx2 hdx2
  refine⟨x,dx,n,rfl,hx2,λd0 q0 H3 hd0 hq0 k3 tl3=>⟨rfl,λp4 H4 hp4 g4 h4=>?_⟩⟩
  have nxD:∀{c u},H1 c=some u->c≠x:=λhc=>aK hc hx0
  have S13:Same H1 H3:=λc u hc=>k3 c u (nxD hc) (g2 _ _ hc)
  have hD1:=at1.lst
  refine at1.put (S13.trans g4) λH5 mu=>?_
  unfold ToP
  have SD:=(bW (S13.trans g4)).trans (gD mu)
  have nD:∀{c},H1 c=none->c≠D:=λhc=>(aK hD1 hc).symm
  have hd1:=g2.free hd0
  have hq1:=g2.free hq0
  have hp1':=S13.free hp4
  refine⟨es++[⟨nm,x,d0,q0,n,⟨n,[],[]⟩⟩],_,_,rfl,(pt.mono SD).snoc (bL (nD hp1') (mu.old h4 (nD hp1'))) (tl3.grow λc u hc e=>?_),by rw [Lx,em,bY en,Lx];rfl,?_,λc hc=>?_⟩
  ·have nc:c≠D:=by
    rcases hc with rfl | rfl | rfl | ⟨xs,rfl⟩
    ·exact nD hx0
    ·exact nD hd1
    ·exact nD hq1
    ·exact λz=>by rw [z,S13 _ _ hD1] at e;cases e
   exact bL nc (mu.old (g4 _ _ e) nc)
  ·have ea:adE (es++[⟨nm,x,d0,q0,n,⟨n,[],[]⟩⟩])=adE es++[x,d0,q0]:=by unfold adE;rw [Mw];rfl
   rw [ea,MJ]
   refine⟨na,tl3.nd,λc hc y hy z=>?_⟩
   obtain⟨u,hu⟩:=fB (pt.mono hide_le).at c hc
   rw [z] at hu
   simp at hy
   rcases hy with rfl | rfl | rfl
   ·rw [hx0] at hu;cases hu
   ·rw [hd1] at hu;cases hu
   ·rw [hq1] at hu;cases hu
  ·have ea:adE (es++[⟨nm,x,d0,q0,n,⟨n,[],[]⟩⟩])=adE es++[x,d0,q0]:=by unfold adE;rw [Mw];rfl
   rw [ea] at hc
   rcases List.mem_append.mp hc with hc | hc
   ·exact fr c hc
   ·simp at hc
    rcases hc with rfl | rfl | rfl
    ·exact at1.same.free hx0
    ·exact at1.same.free hd1
    ·exact at1.same.free hq1
 ·rintro D zs σ1 H1 hD g1 hy hle pv
  unfold ToP at pv
  obtain⟨es,v0,v1,rfl,pt,em,na,fr⟩:=pv
  rw [LH (by lia)] at em
  have le:es.length=pr.length:=by have:=congrArg List.length em;rw [Ln,Ln] at this;exact this
  walk_at "rd"
  refine⟨kvE es,(pt.mono hide_le).prk,by unfold kvE;rw [Ln];lia,λl H2 hl g2 h2'=>?_⟩
  have nn:((kvE es).map (·.1)).Nodup:=by
   have e1:(kvE es).map (·.1)=(pr.map (·.1)).map Sum.inr:=by
    have:=congrArg (List.map (λx:Str×Int×TS=>(Sum.inr x.1:Key))) em
    rw [LW,LW] at this
    unfold kvE
    rw [LW,LW]
    exact this
   rw [e1]
   exact xZ hnd
  have ep:di (kvE es)=kvE es:=kC _ [] nn
  rw [ep] at h2'
  have nl:l∉adE es:=λz=>by
   obtain⟨u,hu⟩:=fB (pt.mono hide_le).at l z
   rw [hl] at hu;cases hu
  exact q l H2 es (g1.free hl) (g1.trans g2) h2' (λe he=>((pt.mono hide_le).mono g2).at e he) em (List.nodup_cons.mpr ⟨nl,na⟩) fr
abbrev SS:=Unit
theorem fC(h:H1 a=some (.lst []))(q:∀D H',H1 D=none->Same H1 H'->H' D=some (.lst [])->Q (.ref D) H'):gw (Itl K a) g tc te cs H1 Q:=
 eX h (by unfold Nm;decide) (λ_ ys _ _=>ys= []) (λ_ _=>rfl) (λD i x ys σ H' hx _ _=>by rw [List.getElem?_nil] at hx;cases hx) λD ys σ H' h1 h2 h3 _ e=>q D H' h1 h2 (e▸h3)
def nJ:Sp:=λvs H Q _=>∃(pp p1:Addr) (x0 x2 x3:V),vs= [.ref pp]/\H pp=some (.tup [x0,.ref p1,x2,x3])/\H p1=some (.lst [])/\∀d H',H d=none->Same H H'->H' d=some (.dK [])->Q (.ref d) H'
theorem tP(D:DefAt K mg "stores_of" lF ["program"])(JB:mg "dict" =none):OkD P w K mg base 3 "stores_of" ["program"] nJ:=by
 refine D.ok rO (λvs H Q E h=>?_) (λf cdv A outer s H vs Q E hr h=>?_)
 ·obtain⟨_,_,_,_,_,rfl,_⟩:=h;rfl
 obtain⟨pp,p1,x0,x2,x3,rfl,h1,h2,q⟩:=h
 refine⟨_,(ae (ax (dA dM JB (aG (cQ 3 ["name","level","most"] [] (bp (aq (pv 0) ac)) (λn _ _ _ _=>(cb 3 rfl (aL (cY 0 n) (aL (cY 1 n) (aL (cY 2 n) bZ))))) (λ_ _ _ _=>cc) (λ_ _ _ _=>mf)))))),?_⟩
 symm
 apply br
 simp only [bU]
 symm
 refine⟨⟨_,SqL.of h2⟩,fC h2 λD H1 n1 g1 e1=>?_⟩
 symm
 exact⟨[],.nil,by simp,λl H2 hl g2 h2'=>q l H2 (g1.free hl) (g1.trans g2) h2'⟩
def cz(t:TS)(h n:Int):Bool×TS:=if t.que≠[]\/t.free<n then (false,⟨t.free,t.held,t.que++[(h,n)]⟩) else (true,bn t h n)
def giv(t:TS)(h n:Int):Int:=if aV t.held h<n then aV t.held h else n
def ci(t:TS)(h n:Int):List (Int×Int)×TS:=srv t.que (bn t h (-(giv t h n)))
def nK(CG CT:Addr):Sp:=λvs H Q _=>∃(g dx dt a d q:Addr) (x:V) (kv:List (Key×V)) (nm:Str) (h n:Int) (t:TS),vs= [.ref g,.int h,.str nm,.int n]/\H g=some (.ins CG dx [("by_tool",.ref dt),("by_store",x)])/\H dt=some (.dK kv)/\aZ kv (Sum.inr nm)=some (.ref a)/\TlO CT H a d q t/\h∈hs/\t.que.length<200/\
 ∀(H':Hp),Fr3 a d q H H'->TlO CT H' a d q (cz t h n).2->Q (.bl (cz t h n).1) H'
theorem CD(D:MethAt K CG "take" "Goods.take" ku ["self","hand","name","n"])(IY:Cls K CG)(IS:NoAttr K CG "by_tool")(IT:Cls K CT)(Ja:NoAttr K CT "free")(IZ:NoAttr K CT "queue")(JA:OkD P w K mg base 1 "hand_out" ["tool","hand","n"] (qC CT)):OkM P w K mg base 2 CG "take" ["self","hand","name","n"] (nK CG CT):=by
 refine D.ok IY jL (λvs H Q E h=>?_) (λf cdv A outer s H vs Q E hr h=>?_)
 ·obtain⟨_,_,_,_,_,_,_,_,_,_,_,_,rfl,_⟩:=h;rfl
 obtain⟨g,dx,dt,a,d,q0,x,kv,nm,h,n,t,rfl,e1,e2,e3,tl,b1,b2,q⟩:=h
 have hu:=cJ hr
 have big:100000<=Nm:=by unfold Nm;decide
 obtain⟨dx',qs,k1,k2,k3,k4,k5,k6,k7⟩:=id tl
 have lq:=k4.length
 refine⟨_,(aa (aQ 4 jL (cL hu (ai IY IS (pv 0)) (pv 2) (λ_ _=>rfl))) (aa (aJ (PW.pt (AZ (d8 (ai IT IZ (pv 4)) (λ_=>rfl)) (wM (aO vf (ai IT Ja (pv 4)) (pv 3))))) (aa (aC (dv (ai IT IZ (pv 4)) (au (aD (pv 1) (pv 3))))) (ae (ax cN))) aA) (aa (aC (aR JA hr rfl (bJ (pv 4) (pv 1) (pv 3)))) (ae (ax cN))))),?_⟩
 walk_at "rd"
 have wait:(t.que≠[]\/t.free<n)->∀(p:Addr) (H1:Hp),H p=none->Same H H1->H1 p=some (.tup [.int h,.int n])->∃ys,H1 q0=some (.lst ys)/\ys.length<Nm/\∀H3,Mu H1 q0 (.lst (ys++[.ref p])) H3->Q (.bl false) H3:=λc p H1 hp g1 h1=>by
  refine⟨qs,g1 _ _ k3,by lia,λH3 m3=>?_⟩
  have et:cz t h n=(false,⟨t.free,t.held,t.que++[(h,n)]⟩):=by unfold cz;rw [RD c]
  rw [et] at q
  have nq:∀c u,c≠q0->H c=some u->H3 c=some u:=λc u nc hc=>m3.old (g1 _ _ hc) nc
  have naq:a≠q0:=λz=>by rw [z,k3] at k1;cases k1
  have ndq:d≠q0:=λz=>by rw [z,k3] at k2;cases k2
  have npq:=(aK k3 hp).symm
  refine q H3 (λc u _ _ n3 hc=>nq c u n3 hc) ⟨dx',qs++[.ref p],nq _ _ naq k1,nq _ _ ndq k2,m3.at_,(k4.mono λc xs hc=>nq c _ (tl.ne c xs hc).2.2 hc).snoc (m3.old h1 npq),k5,⟨k6.1,λp hp=>(List.mem_append.mp hp).elim (k6.2 p) (λz=>by rw [List.mem_singleton.mp z];exact b1)⟩,?_⟩
  rw [Lq,LN];lia
 refine⟨!qs.isEmpty,uw k3,?_⟩
 cases hq:qs with
 | cons v0 qs'=>
  have nq:t.que≠[]:=λz=>by rw [z] at lq;rw [hq] at lq;cases lq
  exact zd (wait (.inl nq))
 | nil=>
  have nq:t.que= []:=by
   rw [hq] at lq
   exact List.eq_nil_of_length_eq_zero lq.symm
  refine Eu (cv (λc=>?_) λc=>?_)
  ·exact wait (.inr c)
  ·have et:cz t h n=(true,bn t h n):=by unfold cz;rw [RC (λz=>z.elim (λz=>z nq) c)]
   rw [et] at q
   exact⟨a,d,q0,t,h,n,rfl,tl,b1,λH1 f1 t1=>q H1 f1 t1⟩
def kD(CG CT:Addr):Sp:=λvs H Q _=>∃(g dx dt a d q:Addr) (x:V) (kv:List (Key×V)) (nm:Str) (h n:Int) (t:TS),vs= [.ref g,.int h,.str nm,.int n]/\H g=some (.ins CG dx [("by_tool",.ref dt),("by_store",x)])/\H dt=some (.dK kv)/\aZ kv (Sum.inr nm)=some (.ref a)/\TlO CT H a d q t/\h∈hs/\
 ∀(H':Hp) (p r:Addr) (sv:List V),Fr3 a d q H H'->H r=none->H' p=some (.tup [.int (giv t h n),.ref r])->H' r=some (.lst sv)->Svd "takes" H' sv (ci t h n).1->TlO CT H' a d q (ci t h n).2->Q (.ref p) H'
theorem CF(D:MethAt K CG "give" "Goods.give" kx ["self","hand","name","n"])(IY:Cls K CG)(IS:NoAttr K CG "by_tool")(IT:Cls K CT)(Jb:NoAttr K CT "held")(Kp:OkD P w K mg base 2 "hand_in" ["tool","hand","n"] (FN CT))(J1:OkD P w K mg base 2 "serve_takers" ["tool"] (uy CT))(KY:mg "min" =none):OkM P w K mg base 3 CG "give" ["self","hand","name","n"] (kD CG CT):=by
 refine D.ok IY gf (λvs H Q E h=>?_) (λf cdv A outer s H vs Q E hr h=>?_)
 ·obtain⟨_,_,_,_,_,_,_,_,_,_,_,_,rfl,_⟩:=h;rfl
 obtain⟨g,dx,dt,a,d,q0,x,kv,nm,h,n,t,rfl,e1,e2,e3,tl,b1,q⟩:=h
 have hu:=cJ hr
 obtain⟨dx',qs,k1,k2,k3,k4,k5,k6,k7⟩:=id tl
 refine⟨_,(aa (aQ 4 gf (cL hu (ai IY IS (pv 0)) (pv 2) (λ_ _=>rfl))) (aa (aQ 5 gf (gc (wR rfl) KY (aD (pv 3) (j7 hu (ai IT Jb (pv 4)) (pv 1) ac ⟨rfl,rfl,rfl,rfl⟩)))) (aa (aC (aR Kp hr rfl (bJ (pv 4) (pv 1) (pv 5)))) (ae (ax (au (aD (pv 5) (aR J1 hr rfl (aG (pv 4)))))))))),?_⟩
 walk_at "rd"
 refine⟨⟨_,rfl⟩,_,nI _,?_⟩
 refine⟨a,d,q0,t,h,giv t h n,rfl,tl,b1,λH1 f1 t1=>?_⟩
 refine⟨a,d,q0,bn t h (-(giv t h n)),rfl,t1,λr H2 sv hr2 f2 h2 sd t2=>?_⟩
 intro p H3 hp g3 h3
 have hr0:H r=none:=by
  cases z:H r with
  | none=>rfl
  | some u=>
   obtain⟨dx1,qs1,j1,j2,j3,_⟩:=t1
   have:=f1 r u (λe=>by rw [e,j1] at hr2;cases hr2) (λe=>by rw [e,j2] at hr2;cases hr2) (λe=>by rw [e,j3] at hr2;cases hr2) z
   rw [this] at hr2;cases hr2
 exact q H3 p r sv ((f1.trans f2).trans λc u _ _ _ hc=>g3 _ _ hc) hr0 h3 (g3 _ _ h2) (sd.mono λc xs hc=>g3 _ _ hc) (t2.same g3)
end
inductive TlL (H0 H:Hp):List V->List TS->Prop
 | nil:TlL H0 H [] []
 | cons {v:V} {t:TS} {vs:List V} {ts:List TS}:Told H0 H v t->TlL H0 H vs ts->TlL H0 H (v::vs) (t::ts)
theorem Told.hid(h:Told H1 H v t)(hD1:H1 D=some (.lst xs))(hD:H D=some (.lst xs))(k:∀c,H1 c=none->H0 c=none):Told H0 (cB D H) v t:=by
 obtain⟨p,ph,pq,e,h1,h2,h4,h6,h7⟩:=h
 exact⟨p,ph,pq,e,bL (λz=>by rw [z,hD] at h1;cases h1) h1,bL (aK hD1 h6).symm h2,bL (aK hD1 h7).symm h4,k _ h6,k _ h7⟩
theorem Told.mono2(g:∀c u,(∃xs,u=HO.tup xs\/u=HO.lst xs)->H c=some u->H' c=some u)(h:Told H0 H v t):Told H0 H' v t:=by
 obtain⟨p,ph,pq,e,h1,h2,h4,h5⟩:=h
 exact⟨p,ph,pq,e,g _ _ ⟨_,.inl rfl⟩ h1,g _ _ ⟨_,.inr rfl⟩ h2,g _ _ ⟨_,.inr rfl⟩ h4,h5⟩
theorem TlL.mono2(g:∀c u,(∃xs,u=HO.tup xs\/u=HO.lst xs)->H c=some u->H' c=some u):∀{vs:List V} {ts:List TS},TlL H0 H vs ts->TlL H0 H' vs ts:=by
 intro x0 x1 zq
 induction zq with
 | nil=>exact .nil
 | cons h r ih=>exact .cons (h.mono2 g) ih
theorem TlL.snoc(h:Told H0 H v t):∀{vs:List V} {ts:List TS},TlL H0 H vs ts->TlL H0 H (vs++[v]) (ts++[t])
 | _,_,.nil=>.cons h .nil
 | _,_,.cons h' r=>.cons h' (r.snoc h)
theorem FO{i:Nat}:(hk held)[i]?≠some (Sum.inr nm,v):=λh=>by
 obtain⟨a,n,e,_⟩:=Bz h
 cases e
theorem FP(hd:H d=some (.dK kv))(g1:Same (upd H d (.frz o (.dK kv))) H1):Same H (upd H1 d (.dK kv)):=λc u hc=>by
 by_cases z:c=d
 ·rw [z,aB];rw [z,hd] at hc;exact hc
 ·rw [aN z]
  exact g1 _ _ (by rw [aN z];exact hc)
section
variable{P:Np}{w:Nu}{K:MF}{mg:Str->Option Nk}{base:Heap}
def GoA(CG CT:Addr)(H:Hp)(g dt ds:Addr)(es:List Ent):Prop:=(∃dx,H g=some (.ins CG dx [("by_tool",.ref dt),("by_store",.ref ds)]))/\H dt=some (.dK (kvE es))/\H ds=some (.dK [])/\(∀e∈es,TlO CT H e.a e.d e.q e.t)/\(g::dt::ds::adE es).Nodup/\(es.map (·.name)).Nodup
def rZ(CG CT:Addr):Sp:=λvs H Q _=>∃(g dx pp p0 p1:Addr) (x2 x3:V) (ys0:List V) (pr0:List (Str×Int)),vs= [.ref g,.ref pp]/\H g=some (.ins CG dx [])/\H pp=some (.tup [.ref p0,.ref p1,x2,x3])/\H p0=some (.lst ys0)/\PrN H ys0 pr0/\(pr0.length<=10/\(pr0.map (·.1)).Nodup)/\H p1=some (.lst [])/\
 ∀(H':Hp) (dt ds:Addr) (es:List Ent),(∀c u,c≠g->H c=some u->H' c=some u)->GoA CG CT H' g dt ds es->
  es.map (λe=>(e.name,e.c,e.t))=pr0.map (λp=>(p.1,p.2,⟨p.2,[],[]⟩))->(∀c∈dt::ds::adE es,H c=none)->Q .non H'
theorem PrN.mono(g:Same H H'):∀{vs:List V} {ps:List (Str×Int)},PrN H vs ps->PrN H' vs ps:=by
 intro x0 x1 zq
 induction zq with
 | nil=>exact .nil
 | cons h r ih=>exact .cons (g _ _ h) ih
theorem zT(D:MakeAt K mg "Goods" CG "Goods.__init__" gR ["self","program"])(IY:Cls K CG)(IS:NoAttr K CG "by_tool")(Jt:NoAttr K CG "by_store")(Kl:OkD P w K mg base 3 "tools_of" ["program"] (pN CT))(Kc:OkD P w K mg base 3 "stores_of" ["program"] nJ):OkC P w K mg base 4 "Goods" CG ["self","program"] (rZ CG CT):=by
 refine D.ok lu (λvs H Q E h=>?_) (λf cdv A outer s H vs Q E hr h=>?_)
 ·obtain⟨_,_,_,_,_,_,_,_,_,rfl,_⟩:=h;rfl
 obtain⟨g,dx,pp,p0,p1,x2,x3,ys0,pr0,rfl,hg,h1,h2,h3,h4,h5,q⟩:=h
 refine⟨_,(aa (aI IY IS (pv 0) (aR Kl hr rfl (aG (pv 1)))) (ae (aI IY Jt (pv 0) (aR Kc hr rfl (aG (pv 1)))))),?_⟩
 walk_at "rd"
 refine⟨pp,p0,_,_,_,ys0,pr0,rfl,h1,h2,h3,h4.1,h4.2,λdt H1 es hdt g1 e1 t1 m1 n1 f1=>?_⟩
 have hg1:=g1 _ _ hg
 have npp:pp≠g:=λz=>by rw [z,hg] at h1;cases h1
 have np1:p1≠g:=λz=>by rw [z,hg] at h5;cases h5
 have hgs:=hg
 walk_at "rd"
 intro H2 mu2
 have hg2:=mu2.at_
 refine⟨pp,p1,_,_,_,rfl,mu2.old (g1 _ _ h1) npp,mu2.old (g1 _ _ h5) np1,λds H3 hds g3 e3=>?_⟩
 have hg3:=g3 _ _ hg2
 walk_at "rd"
 intro H4 mu4
 have ndt:=(aK hgs hdt).symm
 have nds:=(aK mu2.at_ hds).symm
 have k24:∀c u,c≠g->H1 c=some u->H4 c=some u:=λc u nc hc=>mu4.old (g3 _ _ (mu2.old hc nc)) nc
 have ne1:=λc hc=>(aK hgs (f1 c hc)).symm
 have in1:∀c∈dt::adE es,c≠ds:=λc hc z=>by
  have:∃u,H2 c=some u:=by
   rcases List.mem_cons.mp hc with rfl | hc
   ·exact⟨_,mu2.old e1 ndt⟩
   ·obtain⟨u,hu⟩:=fB t1 c hc
    exact⟨u,mu2.old hu (ne1 c hc)⟩
  rw [z,hds] at this
  exact absurd this (by simp)
 rw [LV] at n1
 refine q H4 dt ds es (λc u nc hc=>k24 c u nc (g1 _ _ hc)) ⟨⟨_,mu4.at_⟩,k24 _ _ ndt e1,mu4.old e3 nds,λe he=>(t1 e he).grow λc u hc hu=>k24 c u (λz=>?_) hu,?_,?_⟩ m1 (λc hc=>?_)
 ·rcases hc with rfl | rfl | rfl | ⟨xs,rfl⟩
  ·exact ne1 e.a (List.mem_flatMap.mpr ⟨e,he,by simp⟩) z
  ·exact ne1 e.d (List.mem_flatMap.mpr ⟨e,he,by simp⟩) z
  ·exact ne1 e.q (List.mem_flatMap.mpr ⟨e,he,by simp⟩) z
  ·rw [z,g1 _ _ hgs] at hu;cases hu
 ·refine List.nodup_cons.mpr ⟨λz=>?_,List.nodup_cons.mpr ⟨λz=>?_,List.nodup_cons.mpr ⟨λz=>in1 ds (Lm _ z) rfl,n1.2⟩⟩⟩
  ·simp only [Ms] at z
   rcases z with z | z | z
   ·exact ndt z.symm
   ·exact nds z.symm
   ·exact ne1 _ z rfl
  ·rcases List.mem_cons.mp z with z | z
   ·exact in1 dt Ll z
   ·exact n1.1 z
 ·have e:=congrArg (List.map (λx:Str×Int×TS=>x.1)) m1
  rw [LW,LW] at e
  have e:es.map (·.name)=pr0.map (·.1):=e
  rw [e];exact h4.2
 ·simp only [Ms] at hc
  rcases hc with rfl | rfl | hc
  ·exact hdt
  ·exact g1.free (by rw [<-mu2.else_ _ nds];exact hds)
  ·exact f1 _ hc
def TsP(H:Hp)(es:List Ent)(D:Addr)(i:Nat)(ys:List V)(σ1:St)(H':Hp):Prop:=TlL H (cB D H') ys ((es.take i).map (·.t))/\∃v0,σ1= [v0]
def uz(CG CT:Addr):Sp:=λvs H Q _=>∃(g dx dt:Addr) (x:V) (es:List Ent),vs= [.ref g]/\H g=some (.ins CG dx [("by_tool",.ref dt),("by_store",x)])/\H dt=some (.dK (kvE es))/\(∀e∈es,TlO CT H e.a e.d e.q e.t)/\(∀e∈es,e.t.que= []/\∀p∈e.t.held,¬0<p.2)/\es.length<=200/\
 ∀(r:Addr) (H':Hp) (vs:List V),H r=none->Same H H'->H' r=some (.lst vs)->TlL H (cB r H') vs (es.map (·.t))->Q (.ref r) H'
theorem zU(D:MethAt K CG "tools" "Goods.tools" jN ["self"])(IY:Cls K CG)(IS:NoAttr K CG "by_tool")(Ke:OkD P w K mg base 1 "told_tool" ["tool"] (xY CT)):OkM P w K mg base 2 CG "tools" ["self"] (uz CG CT):=by
 refine D.ok IY oA (λvs H Q E h=>?_) (λf cdv A outer s H vs Q E hr h=>?_)
 ·obtain⟨_,_,_,_,_,rfl,_⟩:=h;rfl
 obtain⟨g,dx,dt,x,es,rfl,e1,e2,e3,ez,b1,q⟩:=h
 have big:100000<=Nm:=by unfold Nm;decide
 have le:(kvE es).length=es.length:=by unfold kvE;rw [Ln]
 refine⟨_,(ae (ax (qZ (cQ 1 ["tool"] [] (ui (ai IY IS (pv 0))) (λn _ _ _ _=>(cY 0 n)) (λ_ _ _ _=>cc) (λ_ _ _ _=>(aR Ke hr rfl (aG (pv 0)))))))),?_⟩
 symm
 apply br
 simp only [vD]
 symm
 intro o nf
 refine mS pE (λH g=>g _ _ aB) (by rw [Ln];lia) (TsP H es) (λD H' _ _ _=>by unfold TsP;exact⟨.nil,_,rfl⟩) ?_ ?_
 ·rintro D i x ys σ1 H1 hx at1 pv
  unfold TsP at pv
  obtain⟨tl,v0,rfl⟩:=pv
  obtain⟨e,he,rfl⟩:∃e,es[i]? =some e/\V.ref e.a=x:=by
   unfold kvE at hx
   rw [LW,LF] at hx
   cases z:es[i]? with
   | none=>rw [z] at hx;cases hx
   | some e=>rw [z] at hx;cases hx;exact⟨e,rfl,rfl⟩
  walk_at "rd"
  have me:=LC he
  have t0:=e3 e me
  have t1:=t0.grow λc u hc hu=>at1.same _ _ (by
   rw [aN (λz=>?_)]
   ·exact hu
   ·obtain⟨dx1,qs1,j1,j2,j3,_⟩:=t0
    rcases hc with rfl | rfl | rfl | ⟨xs,rfl⟩
    ·rw [z,e2] at j1;cases j1
    ·rw [z,e2] at j2
     have j4:=HO.dK.inj (Option.some.inj j2)
     apply FO (held:=e.t.held) (i:=i) (nm:=e.name) (v:=.ref e.a)
     rw [<-j4]
     unfold kvE
     rw [LF,he];rfl
    ·rw [z,e2] at j3;cases j3
    ·rw [z,e2] at hu;cases hu)
  refine⟨e.a,e.d,e.q,e.t,rfl,t1,(ez e me).1,(ez e me).2,λv H2 g2 td=>at1.put g2 λH3 mu=>?_⟩
  unfold TsP
  rw [bY he,Lx]
  have fre:∀c,H1 c=none->H c=none:=λc hc=>by
   have:=at1.same.free hc
   by_cases z:c=dt
   ·rw [z,aB] at this;cases this
   ·rw [aN z] at this;exact this
  exact⟨(tl.mono2 λc u _ h=>((bW g2).trans (gD mu)) c u h).snoc ((td.hid at1.lst (g2 _ _ at1.lst) fre).mono2 λc u _ h=>gD mu c u h),_,rfl⟩
 ·rintro D ys σ1 H1 hD g1 hy hle pv
  obtain⟨tl,_⟩:=pv
  rw [Ln,le,LH (Nat.le_refl _)] at tl
  have d1:=g1 _ _ aB
  have nDd:D≠dt:=λz=>by rw [z,aB] at hD;cases hD
  have hD0:H D=none:=by rw [aN nDd] at hD;exact hD
  refine⟨dt,nf,o,_,d1,?_⟩
  refine q D _ ys hD0 (FP e2 g1) (by rw [aN nDd];exact hy) (tl.mono2 λc u ⟨xs,hx⟩ hc=>?_)
  have nD:=(eA hc).1
  have hc:=hide_le _ _ hc
  apply bL nD
  have nc:c≠dt:=λz=>by
   rw [z,d1] at hc
   rcases hx with rfl | rfl<;>cases hc
  rw [aN nc]
  exact hc
def r6(CG:Addr):Sp:=λvs H Q _=>∃(g dx dt:Addr) (x:V),vs= [.ref g]/\H g=some (.ins CG dx [("by_tool",x),("by_store",.ref dt)])/\H dt=some (.dK [])/\∀r H',H r=none->Same H H'->H' r=some (.lst [])->Q (.ref r) H'
theorem x6(D:MethAt K CG "stores" "Goods.stores" i9 ["self"])(IY:Cls K CG)(Jt:NoAttr K CG "by_store"):OkM P w K mg base 2 CG "stores" ["self"] (r6 CG):=by
 refine D.ok IY nu (λvs H Q E h=>?_) (λf cdv A outer s H vs Q E hr h=>?_)
 ·obtain⟨_,_,_,_,rfl,_⟩:=h;rfl
 obtain⟨g,dx,dt,x,rfl,e1,e2,q⟩:=h
 refine⟨_,(ae (ax (qZ (cQ 1 ["store"] [] (ui (ai IY Jt (pv 0))) (λn _ _ _ _=>(cY 0 n)) (λ_ _ _ _=>cc) (λ_ _ _ _=>mf))))),?_⟩
 symm
 apply br
 simp only [vD]
 symm
 intro o nf
 refine mS pE (λH g=>g _ _ aB) (by unfold Nm;decide) (λ_ _ ys _ _=>ys= []) (λD H' _ _ _=>rfl) (λD i x ys σ1 H1 hx=>by cases hx) ?_
 rintro D ys σ1 H1 hD g1 hy hle rfl
 have nDd:D≠dt:=λz=>by rw [z,aB] at hD;cases hD
 exact⟨dt,nf,o,_,g1 _ _ aB,q D _ (by rw [aN nDd] at hD;exact hD) (FP e2 g1) (by rw [aN nDd];exact hy)⟩
end
theorem FQ{α:Type}{A B C:List α}(nd:(A++(B++C)).Nodup):∀x,x∈A++C->x∉B:=λx hx hb=>by
 rw [MJ] at nd
 obtain⟨_,n2,n3⟩:=nd
 rcases List.mem_append.mp hx with hx | hx
 ·exact n3 x hx x (LD _ hb) rfl
 ·rw [MJ] at n2
  exact n2.2.2 x hb x hx rfl
def FrG(cs:List Addr)(H H':Hp):Prop:=∀c u,c∉cs->H c=some u->H' c=some u
theorem Fr3.g(f:Fr3 a d q H H')(h1:a∈cs)(h2:d∈cs)(h3:q∈cs):FrG cs H H':=λc u n h=>f c u (λz=>n (z▸h1)) (λz=>n (z▸h2)) (λz=>n (z▸h3)) h
theorem GoA.same(k:Same H H')(G:GoA CG CT H g dt ds es):GoA CG CT H' g dt ds es:=by
 obtain⟨⟨dx,h1⟩,h2,h3,h4,h6⟩:=G
 exact⟨⟨dx,k _ _ h1⟩,k _ _ h2,k _ _ h3,λe he=>(h4 e he).same k,h6⟩
theorem eJ:adE (l1++e::l2)=adE l1++([e.a,e.d,e.q]++adE l2):=by
 unfold adE
 rw [Mw,MT]
theorem kE(h:e∈es):e.a∈adE es/\e.d∈adE es/\e.q∈adE es:=⟨List.mem_flatMap.mpr ⟨e,h,by simp⟩,List.mem_flatMap.mpr ⟨e,h,by simp⟩,List.mem_flatMap.mpr ⟨e,h,by simp⟩⟩
theorem GoA.tool(G:GoA CG CT H g dt ds (l1++e::l2))(f:Fr3 e.a e.d e.q H H')(h:TlO CT H' e.a e.d e.q t):GoA CG CT H' g dt ds (l1++{e with t:=t}::l2):=by
 obtain⟨⟨dx,h1⟩,h2,h3,h4,nd,n1⟩:=G
 have tl:=h4 e (Lu _ Ll)
 have nd0:=nd
 rw [eJ] at nd
 have nd':((g::dt::ds::adE l1)++([e.a,e.d,e.q]++adE l2)).Nodup:=nd
 have keep:=λc u hc hu=>by
  have n:=FQ nd' c hc
  exact f c u (λz=>n (by rw [z];simp)) (λz=>n (by rw [z];simp)) (λz=>n (by rw [z];simp)) hu
 have kt:=tl.kt f
 have mE:∀c,c∈adE l1\/c∈adE l2->c∈(g::dt::ds::adE l1)++adE l2:=λc hc=>by
  rcases hc with hc | hc
  ·exact LD _ (Lm _ (Lm _ (Lm _ hc)))
  ·exact Lu _ hc
 have other:∀e':Ent,(∀c,c=e'.a\/c=e'.d\/c=e'.q->c∈(g::dt::ds::adE l1)++adE l2)->TlO CT H e'.a e'.d e'.q e'.t->TlO CT H' e'.a e'.d e'.q e'.t:=λe' hm tl'=>tl'.grow λc u hc hu=>by
  rcases hc with hc | hc | hc | ⟨xs,rfl⟩
  ·exact keep c u (hm c (.inl hc)) hu
  ·exact keep c u (hm c (.inr (.inl hc))) hu
  ·exact keep c u (hm c (.inr (.inr hc))) hu
  ·exact kt c xs hu
 have ek:kvE (l1++{e with t:=t}::l2)=kvE (l1++e::l2):=by unfold kvE;rw [Lx,Lx,Ls,Ls]
 refine⟨⟨dx,keep g _ (by simp) h1⟩,by rw [ek];exact keep dt _ (by simp) h2,keep ds _ (by simp) h3,λe' he'=>?_,?_,?_⟩
 ·rcases List.mem_append.mp he' with hm | hm
  ·have i1:=kE hm
   refine other e' (λc hc=>mE c (.inl ?_)) (h4 e' (LD _ hm))
   rcases hc with rfl | rfl | rfl
   ·exact i1.1
   ·exact i1.2.1
   ·exact i1.2.2
  ·rcases List.mem_cons.mp hm with rfl | hm
   ·exact h
   ·have i1:=kE hm
    refine other e' (λc hc=>mE c (.inr ?_)) (h4 e' (Lu _ (Lm _ hm)))
    rcases hc with rfl | rfl | rfl
    ·exact i1.1
    ·exact i1.2.1
    ·exact i1.2.2
 ·rw [eJ];exact nd
 ·rw [Lx,Ls] at n1⊢;exact n1
theorem kU:∀{l1 l2:List Ent} {e:Ent},((l1++e::l2).map (·.name)).Nodup->aZ (kvE (l1++e::l2)) (Sum.inr e.name)=some (.ref e.a)
 | [],l2,e,_=>bQ rfl
 | x::l1,l2,e,nd=>by
  rw [MP,Ls,LV] at nd
  have ne:x.name≠e.name:=λz=>nd.1 (z▸L3 (Lu _ Ll))
  unfold kvE
  rw [MP,Ls,bR (λz=>ne (Sum.inr.inj z))]
  exact kU nd.2
theorem CI(G:GoA CG CT H g dt ds (l1++e::l2))(hh:h∈hs)(hq:e.t.que.length<200)(k:∀H',FrG (adE (l1++e::l2)) H H'->GoA CG CT H' g dt ds (l1++{e with t:=(cz e.t h n).2}::l2)->Kx (.bl (cz e.t h n).1) H'):nK CG CT [.ref g,.int h,.str e.name,.int n] H Kx E:=by
 obtain⟨⟨dx,h1⟩,h2,h3,h4,nd,n1⟩:=id G
 have me:e∈l1++e::l2:=Lu _ Ll
 have i1:=kE me
 exact⟨g,dx,dt,e.a,e.d,e.q,_,_,e.name,h,n,e.t,rfl,h1,h2,kU n1,h4 e me,hh,hq,λH' f t'=>k H' (f.g i1.1 i1.2.1 i1.2.2) (G.tool f t')⟩
theorem uA(G:GoA CG CT H g dt ds (l1++e::l2))(hh:h∈hs)(k:∀H' p r sv,FrG (adE (l1++e::l2)) H H'->H r=none->H' p=some (.tup [.int (giv e.t h n),.ref r])->H' r=some (.lst sv)->Svd "takes" H' sv (ci e.t h n).1->GoA CG CT H' g dt ds (l1++{e with t:=(ci e.t h n).2}::l2)->Kx (.ref p) H'):kD CG CT [.ref g,.int h,.str e.name,.int n] H Kx E:=by
 obtain⟨⟨dx,h1⟩,h2,h3,h4,nd,n1⟩:=id G
 have me:e∈l1++e::l2:=Lu _ Ll
 have i1:=kE me
 exact⟨g,dx,dt,e.a,e.d,e.q,_,_,e.name,h,n,e.t,rfl,h1,h2,kU n1,h4 e me,hh,λH' p r sv f hr hp hl sd t'=>k H' p r sv (f.g i1.1 i1.2.1 i1.2.2) hr hp hl sd (G.tool f t')⟩
section
variable{P:Np}{w:Nu}{K:MF}{mg:Str->Option Nk}{base:Heap}
end
def lv1(h:Int)(e:Ent):Ent:=if 0<aV e.t.held h then {e with t:=(ci e.t h (aV e.t.held h)).2} else e
def lvI(h:Int)(e:Ent):Option (Str×Int×List (Int×Int)):=if 0<aV e.t.held h then some (e.name,aV e.t.held h,(ci e.t h (aV e.t.held h)).1) else none
theorem zV:(lv1 h e).name=e.name/\(lv1 h e).a=e.a/\(lv1 h e).d=e.d/\(lv1 h e).q=e.q/\(lv1 h e).c=e.c:=by
 unfold lv1
 split<;>exact⟨rfl,rfl,rfl,rfl,rfl⟩
theorem zW:giv t h (aV t.held h)=aV t.held h:=by unfold giv;split<;>rfl
inductive LvL (bad:List Addr) (H0 H:Hp):List V->List (Str×Int×List (Int×Int))->Prop
 | nil:LvL bad H0 H [] []
 | cons {p r:Addr} {nm:Str} {b:Int} {sv vs:List V} {its:List (Int×Int)} {l:List (Str×Int×List (Int×Int))}:H p=some (.tup [.str nm,.int b,.ref r])->H r=some (.lst sv)->r∉bad->H0 r=none->Svd "takes" H sv its->LvL bad H0 H vs l->LvL bad H0 H (.ref p::vs) ((nm,b,its)::l)
theorem LvL.mono(g:∀c xs,H c=some (.tup xs)->H' c=some (.tup xs))(g2:∀c xs,c∉bad->H c=some (.lst xs)->H' c=some (.lst xs))(t:LvL bad H0 H vs l):LvL bad H0 H' vs l:=by
 induction t with
 | nil=>exact .nil
 | cons h1 h2 h3 h0 h4 _ ih=>exact .cons (g _ _ h1) (g2 _ _ h3 h2) h3 h0 (h4.mono g) ih
theorem LvL.snoc(h1:H p=some (.tup [.str nm,.int b,.ref r]))(h2:H r=some (.lst sv))(h3:r∉bad)(h0:H0 r=none)(h4:Svd "takes" H sv its):∀{vs:List V} {l:List (Str×Int×List (Int×Int))},LvL bad H0 H vs l->LvL bad H0 H (vs++[.ref p]) (l++[(nm,b,its)]):=by
 intro x0 x1 zq
 induction zq with
 | nil=>exact .cons h1 h2 h3 h0 h4 .nil
 | cons k1 k2 k3 k0 k4 r ih=>exact .cons k1 k2 k3 k0 k4 ih
theorem LvL.length:∀{vs:List V} {l:List (Str×Int×List (Int×Int))},LvL bad H0 H vs l->vs.length=l.length:=by
 intro x0 x1 zq
 induction zq with
 | nil=>exact rfl
 | cons _ _ _ _ _ r ih=>rw [Lw,Lw,ih]
theorem GoA.kt(G:GoA CG CT H g dt ds es)(f:FrG (adE es) H H'):∀c xs,H c=some (.tup xs)->H' c=some (.tup xs):=λc xs hc=>f c _ (λz=>by
 obtain⟨_,_,_,h4,_⟩:=G
 obtain⟨e,he,z⟩:=oC z
 have:=(h4 e he).ne c xs hc
 rcases z with rfl | rfl | rfl
 ·exact this.1 rfl
 ·exact this.2.1 rfl
 ·exact this.2.2 rfl) hc
theorem GoA.has(G:GoA CG CT H g dt ds es):∀c∈g::dt::ds::adE es,∃u,H c=some u:=λc hc=>by
 obtain⟨⟨dx,h1⟩,h2,h3,h4,_⟩:=G
 rcases List.mem_cons.mp hc with rfl | hc
 ·exact⟨_,h1⟩
 rcases List.mem_cons.mp hc with rfl | hc
 ·exact⟨_,h2⟩
 rcases List.mem_cons.mp hc with rfl | hc
 ·exact⟨_,h3⟩
 exact fB h4 c hc
theorem GoA.grow(G:GoA CG CT H g dt ds es)(k:∀c u,(c∈g::dt::ds::adE es\/∃xs,u=HO.tup xs)->H c=some u->H' c=some u):GoA CG CT H' g dt ds es:=by
 obtain⟨⟨dx,h1⟩,h2,h3,h4,h6⟩:=G
 have mE:∀{c},c∈adE es->c∈g::dt::ds::adE es:=λh=>Lm _ (Lm _ (Lm _ h))
 refine⟨⟨dx,k _ _ (.inl (by simp)) h1⟩,k _ _ (.inl (by simp)) h2,k _ _ (.inl (by simp)) h3,λe he=>(h4 e he).grow λc u hc hu=>k c u ?_ hu,h6⟩
 ·have i1:=kE he
  rcases hc with rfl | rfl | rfl | hc
  ·exact .inl (mE i1.1)
  ·exact .inl (mE i1.2.1)
  ·exact .inl (mE i1.2.2)
  ·exact .inr hc
theorem oE:∀es:List Ent,adE (es.map (lv1 h))=adE es
 | []=>rfl
 | e::es=>by
  obtain⟨_,h1,h2,h3,_⟩:=zV
  have:=oE (h:=h) es
  unfold adE at this⊢
  rw [Ls,MT,MT,this,h1,h2,h3]
theorem uB:adE (l1++l2)=adE l1++adE l2:=by unfold adE;rw [Mw]
section
variable{P:Np}{w:Nu}{K:MF}{mg:Str->Option Nk}{base:Heap}
def LeI(CG CT g dt ds lf:Addr)(h:Int)(es:List Ent)(H:Hp)(i:Nat)(σ:St)(H':Hp):Prop:=∃(vs:List V) (v3 v4 v5 v6:Option V),σ= [some (.ref g),some (.int h),some (.ref lf),v3,v4,v5,v6]/\FrG (adE es) H H'/\GoA CG CT H' g dt ds ((es.take i).map (lv1 h)++es.drop i)/\H' lf=some (.lst vs)/\LvL (lf::adE es) H H' vs ((es.take i).filterMap (lvI h))
def oF(CG CT:Addr):Sp:=λvs H Q _=>∃(g dt ds:Addr) (es:List Ent) (h:Int),vs= [.ref g,.int h]/\GoA CG CT H g dt ds es/\h∈hs/\es.length<=10/\
 ∀(H':Hp) (lf:Addr) (vs:List V),FrG (adE es) H H'->H lf=none->GoA CG CT H' g dt ds (es.map (lv1 h))->H' lf=some (.lst vs)->LvL (lf::adE es) H H' vs (es.filterMap (lvI h))->Q (.ref lf) H'
theorem zX(D:MethAt K CG "leave" "Goods.leave" jM ["self","hand"])(IY:Cls K CG)(IS:NoAttr K CG "by_tool")(IT:Cls K CT)(Jb:NoAttr K CT "held")(JC:OkM P w K mg base 3 CG "give" ["self","hand","name","n"] (kD CG CT))(Jq:mg "list" =none):OkM P w K mg base 4 CG "leave" ["self","hand"] (oF CG CT):=by
 refine D.ok IY cu (λvs H Q E h=>?_) (λf cdv A outer s H vs Q E hr h=>?_)
 ·obtain⟨_,_,_,_,_,rfl,_⟩:=h;rfl
 obtain⟨g,dt,ds,es,h,rfl,G,hh,le,q⟩:=h
 have hu:=cJ hr
 have big:100000<=Nm:=by unfold Nm;decide
 refine⟨_,(aa (aQ 2 cu (aE a0)) (aa (cH NE.never rfl (bp (dA vF Jq (aG (ai IY IS (pv 0))))) (bw 3 cu) (aa (aQ 4 cu (j7 hu (ai IT Jb (cL hu (ai IY IS (pv 0)) (pv 3) (λ_ _=>rfl))) (pv 1) ac ⟨rfl,rfl,rfl,rfl⟩)) (ae (aJ (aO gq (pv 4) ac) (aa (de (aU JC hr (pv 0) (bJ (pv 1) (pv 3) (pv 4))) (cb 2 rfl (aL (bw 5 cu) (aL (bw 6 cu) bZ)))) (ae (aC (dv (pv 2) (au (bJ (pv 3) (pv 5) (pv 6))))))) aA)))) (ae (ax (pv 2))))),?_⟩
 walk_at "rd"
 intro lf H1 hlf g1 h1
 have G1:=G.same g1
 obtain⟨⟨dx,e1⟩,e2,_⟩:=id G1
 apply cE
 simp only [bU]
 walk_at "rd"
 have lk:(kvE es).length=es.length:=by unfold kvE;rw [Ln]
 refine⟨by lia,λl H2 hl g2 h2=>?_⟩
 have ek:(kvE es).map (λkv=>kV kv.1)=es.map (λe=>V.str e.name):=by
  unfold kvE
  rw [LW]
  rfl
 rw [ek] at h2
 clear e1 e2
 refine⟨⟨_,SqL.of h2⟩,?_⟩
 have G2:=G1.same g2
 have nlE:∀{c:Addr},H1 c=none->c∉adE es:=λ{c} hc z=>by
  obtain⟨_,_,_,h4,_⟩:=G1
  obtain⟨u,hu⟩:=fB h4 c z
  rw [hc] at hu;cases hu
 have nlfE:lf∉adE es:=λz=>by
  obtain⟨_,_,_,h4,_⟩:=G
  obtain⟨u,hu⟩:=fB h4 lf z
  rw [hlf] at hu;cases hu
 have nll:=(aK h1 hl).symm
 refine dD (xs:=es.map (λe=>V.str e.name)) (λi σ H'=>LeI CG CT g dt ds lf h es H i σ H'/\H' l=some (.lst (es.map λe=>V.str e.name))) ?_ ?_ ?_ ?_
 ·refine⟨?_,h2⟩
  unfold LeI
  exact⟨[],_,_,_,_,rfl,λc u _ hc=>g2 _ _ (g1 _ _ hc),G2,g2 _ _ h1,.nil⟩
 ·rintro i σ H3 hi ⟨_,h3⟩
  exact SqL.of h3
 ·rintro i x σ H3 hx ⟨z,h3⟩
  unfold LeI at z
  obtain⟨vs,v3,v4,v5,v6,rfl,f3,G3,hv3,lv3⟩:=z
  obtain⟨e,he,rfl⟩:∃e,es[i]? =some e/\V.str e.name=x:=by
   rw [LF] at hx
   cases z:es[i]? with
   | none=>rw [z] at hx;cases hx
   | some e=>rw [z] at hx;cases hx;exact⟨e,rfl,rfl⟩
  have hi:=(List.getElem?_eq_some_iff.mp he).1
  have ed:es.drop i=e::es.drop (i+1):=by
   obtain⟨l,e'⟩:=List.getElem?_eq_some_iff.mp he
   rw [<-e']
   exact List.drop_eq_getElem_cons l
  rw [ed] at G3
  obtain⟨⟨dx,e1⟩,e2,_,e4,_,n1⟩:=id G3
  have me:e∈(es.take i).map (lv1 h)++e::es.drop (i+1):=Lu _ Ll
  have vE:=kU n1
  obtain⟨dx',qs',k1,k2,k3,k4,k5,k6,k7⟩:=id (e4 e me)
  clear h1 h2
  walk_at "rd"
  rw [nI]
  have ea:adE ((es.take i).map (lv1 h)++e::es.drop (i+1))=adE es:=by
   rw [uB,oE,<-ed,<-uB,List.take_append_drop]
  have et:(es.take (i+1)).map (lv1 h)++es.drop (i+1)=(es.take i).map (lv1 h)++lv1 h e::es.drop (i+1):=by
   rw [bY he,Lx,LO];rfl
  have ef:(es.take (i+1)).filterMap (lvI h)=(es.take i).filterMap (lvI h)++(lvI h e).toList:=by
   rw [bY he,List.filterMap_append]
   congr 1
  refine⟨⟨_,rfl⟩,_,rfl,cv (λc=>?_) λc=>?_⟩
  ·refine uA G3 hh λH4 pr r sv f4 hr4 h4 hl4 sd4 G4=>?_
   have kt4:=G3.kt f4
   rw [ea] at f4
   rw [zW] at h4
   have hv4:=f4 lf _ nlfE hv3
   have lv:=lv3.length
   have lf2:=List.length_filterMap_le (lvI h) (es.take i)
   rw [Ma] at lf2
   refine⟨pr,rfl,_,h4,rfl,_,_,rfl,_,_,rfl,rfl,vs,hv4,λp5 H5 hp5 g5 h5=>⟨vs,g5 _ _ hv4,by lia,λH6 mu=>⟨?_,?_⟩⟩⟩
   ·unfold LeI
    have nr:r∉lf::adE es:=λz=>by
     rcases List.mem_cons.mp z with z | z
     ·rw [z,hv3] at hr4;cases hr4
     ·rw [<-ea] at z
      obtain⟨u,hu⟩:=fB e4 r z
      rw [hr4] at hu;cases hu
    have nr0:H r=none:=by
     cases z:H r with
     | none=>rfl
     | some u=>rw [f3 r u (λy=>nr (Lm _ y)) z] at hr4;cases hr4
    have np5:=(aK hv4 hp5).symm
    have S35:=λc xs hc=>g5 _ _ (kt4 c xs hc)
    refine⟨vs++[.ref p5],_,_,_,_,rfl,λc u nc hc=>mu.old (g5 _ _ (f4 c u nc (f3 c u nc hc))) (aK hc hlf),?_,mu.at_,?_⟩
    ·rw [et]
     have e1:lv1 h e={e with t:=(ci e.t h (aV e.t.held h)).2}:=by unfold lv1;rw [RD c]
     rw [e1]
     refine(G4.same g5).grow λc u hc hu=>mu.old hu (λz=>?_)
     rcases hc with hc | ⟨xs,rfl⟩
     ·have ad:adE ((es.take i).map (lv1 h)++{e with t:=(ci e.t h (aV e.t.held h)).2}::es.drop (i+1))=adE es:=by rw [eJ,<-ea,eJ]
      rw [ad] at hc
      obtain⟨u0,hu0⟩:=G.has c hc
      rw [z,hlf] at hu0;cases hu0
     ·rw [z,g5 _ _ hv4] at hu;cases hu
    ·rw [ef]
     have e2:lvI h e=some (e.name,aV e.t.held h,(ci e.t h (aV e.t.held h)).1):=by unfold lvI;rw [RD c]
     rw [e2]
     refine LvL.mono (λc xs hc=>mu.old hc (λz=>by rw [z,g5 _ _ hv4] at hc;cases hc)) (λc xs nc hc=>mu.old hc (λz=>nc (by rw [z];exact Ll))) (LvL.snoc h5 (g5 _ _ hl4) nr nr0 (sd4.mono λc xs hc=>g5 _ _ hc) (lv3.mono S35 λc xs nc hc=>g5 _ _ (f4 c _ (λz=>nc (Lm _ z)) hc)))
   ·exact mu.old (g5 _ _ (f4 l _ (nlE hl) h3)) nll
  ·unfold LeI
   refine⟨vs,_,_,_,_,rfl,f3,?_,hv3,?_⟩
   ·rw [et]
    have e1:lv1 h e=e:=by unfold lv1;rw [RC c]
    rw [e1]
    exact G3
   ·rw [ef]
    have e2:lvI h e=none:=by unfold lvI;rw [RC c]
    rw [e2]
    show LvL _ _ _ _ (_++[])
    rw [LQ]
    exact lv3
 ·rintro σ H3 ⟨z,h3⟩
  obtain⟨vs,v3,v4,v5,v6,rfl,f3,G3,hv3,lv3⟩:=z
  rw [Ln,LH (Nat.le_refl _),List.drop_of_length_le (Nat.le_refl _),LQ] at G3
  rw [Ln,LH (Nat.le_refl _)] at lv3
  walk_at "rd"
end
end K34
namespace K34.Ag
open PySem L2
abbrev It:=Addr×List Int
def kf(ps:List It)(i:Nat):List Int:=(ps.getD i (0,[])).2
def le(a b:List Int):Prop:=HT.aF b a=false
theorem le_refl(a:List Int):le a a:=jB a
theorem r8(h:HT.aF a b=true):HT.aF b a=false:=by
 cases z:HT.aF b a with
 | false=>rfl
 | true=>have:=fQ h z;rw [jB] at this;cases this
theorem le_of_lt(h:HT.aF a b=true):le a b:=r8 h
theorem le_trans(h:le a b)(h':le b c):le a c:=by
 unfold le at *
 cases z:HT.aF c a with
 | false=>rfl
 | true=>
  by_cases e:a=b
  ·rw [e,h'] at z;cases z
  ·rcases io e with y | y
   ·rw [fQ z y] at h';cases h'
   ·rw [h] at y;cases y
theorem zY(h:HT.aF a b=true)(h':le b c):HT.aF a c=true:=by
 by_cases e:b=c
 ·rw [<-e];exact h
 ·rcases io e with y | y
  ·exact fQ h y
  ·unfold le at h';rw [h'] at y;cases y
def sw(ps:List It)(i j:Nat):List It:=(ps.set i (ps.getD j (0,[]))).set j (ps.getD i (0,[]))
theorem jf(ps:List It)(i j:Nat):(sw ps i j).length=ps.length:=by unfold sw;rw [MD,MD]
theorem FR(hi:i<ps.length)(hj:j<ps.length)(x:Nat):(sw ps i j).getD x (0,[])=if x=j then ps.getD i (0,[]) else if x=i then ps.getD j (0,[]) else ps.getD x (0,[]):=by
 unfold sw
 simp only [Lv]
 rw [List.getElem?_set,List.getElem?_set]
 by_cases c:j=x
 ·subst c
  rw [RD rfl,RD (by rw [MD];exact hj),RD rfl];rfl
 ·rw [RC c,RC (Ne.symm c)]
  by_cases c2:i=x
  ·subst c2
   rw [RD rfl,RD hi,RD rfl];rfl
  ·rw [RC c2,RC (Ne.symm c2)]
theorem BA(hi:i<ps.length)(hj:j<ps.length)(x:Nat):kf (sw ps i j) x=if x=j then kf ps i else if x=i then kf ps j else kf ps x:=by
 unfold kf
 rw [FR hi hj]
 split
 ·rfl
 ·split<;>rfl
theorem oG(hi:i<ps.length)(hj:j<ps.length):(sw ps i j).Perm ps:=by
 have:=List.set_set_perm hi hj
 unfold sw
 simpa [Lv,hi,hj] using this
def HP(ps:List It):Prop:=∀i,0<i->i<ps.length->le (kf ps ((i-1)/2)) (kf ps i)
def RI(ps:List It)(k:Nat):Prop:=(∀i,0<i->i<ps.length->i≠k->le (kf ps ((i-1)/2)) (kf ps i))/\(0<k->∀c,0<c->c<ps.length->(c-1)/2=k->le (kf ps ((k-1)/2)) (kf ps c))
theorem RI.step(h:RI ps k)(h0:0<k)(hk:k<ps.length)(hl:HT.aF (kf ps k) (kf ps ((k-1)/2))=true):RI (sw ps k ((k-1)/2)) ((k-1)/2):=by
 have hp:(k-1)/2<ps.length:=by lia
 have g:=BA hk hp
 rw [RI,jf]
 generalize hpp:(k-1)/2=p at *
 refine⟨λi i0 il ip=>?_,λp0 c c0 cl cp=>?_⟩
 ·rw [g,g]
  by_cases ik:i=k
  ·subst ik
   rw [hpp,RD rfl,RC ip,RD rfl]
   exact le_of_lt hl
  ·rw [RC ip,RC ik]
   by_cases c1:(i-1)/2=p
   ·rw [RD c1]
    have:=h.1 i i0 il ik
    rw [c1] at this
    exact le_trans (le_of_lt hl) this
   ·rw [RC c1]
    by_cases c2:(i-1)/2=k
    ·rw [RD c2]
     have:=h.2 h0 i i0 il c2
     rw [hpp] at this
     exact this
    ·rw [RC c2]
     exact h.1 i i0 il ik
 ·rw [g,g]
  have n1:(p-1)/2≠p:=by lia
  have n2:(p-1)/2≠k:=by lia
  rw [RC n1,RC n2]
  have hg:=h.1 p p0 hp (by lia)
  by_cases ck:c=k
  ·rw [RC (by lia),RD ck]
   exact hg
  ·rw [RC (by lia),RC ck]
   have:=h.1 c c0 cl ck
   rw [cp] at this
   exact le_trans hg this
theorem RI.done(h:RI ps k)(hk:k<ps.length)(hl:k=0\/le (kf ps ((k-1)/2)) (kf ps k)):HP ps:=λi i0 il=>by
 by_cases c:i=k
 ·subst c
  rcases hl with z | z
  ·lia
  ·exact z
 ·exact h.1 i i0 il c
theorem RI.snoc(h:HP ps):RI (ps++[q]) ps.length:=by
 have g:∀i,i<ps.length->kf (ps++[q]) i=kf ps i:=λi hi=>by
  unfold kf
  simp only [Lv]
  rw [LY hi]
 refine⟨λi i0 il ik=>?_,λk0 c c0 cl cp=>?_⟩
 ·rw [Lq,LN] at il
  rw [g _ (by lia),g _ (by lia)]
  exact h i i0 (by lia)
 ·rw [Lq,LN] at cl
  lia
def bK(ps:List It)(k:Nat):Nat:=
 let a:=if 2*k+1<ps.length/\HT.aF (kf ps (2*k+1)) (kf ps k)=true then 2*k+1 else k
 if 2*k+2<ps.length/\HT.aF (kf ps (2*k+2)) (kf ps a)=true then 2*k+2 else a
theorem kF(hk:k<ps.length):bK ps k<ps.length/\(bK ps k=k\/((bK ps k=2*k+1\/bK ps k=2*k+2)/\HT.aF (kf ps (bK ps k)) (kf ps k)=true))/\∀c,0<c->c<ps.length->(c-1)/2=k->le (kf ps (bK ps k)) (kf ps c):=by
 have key:∀a,(a=k\/(a=2*k+1/\2*k+1<ps.length/\HT.aF (kf ps (2*k+1)) (kf ps k)=true))->(2*k+1<ps.length->le (kf ps a) (kf ps (2*k+1)))->
  let m:=if 2*k+2<ps.length/\HT.aF (kf ps (2*k+2)) (kf ps a)=true then 2*k+2 else a
  m<ps.length/\(m=k\/((m=2*k+1\/m=2*k+2)/\HT.aF (kf ps m) (kf ps k)=true))/\∀c,0<c->c<ps.length->(c-1)/2=k->le (kf ps m) (kf ps c):=by
  intro a ha h1
  have al:a<ps.length:=by rcases ha with z | z<;>lia
  have ak:le (kf ps a) (kf ps k):=by
   rcases ha with z | ⟨z,_,y⟩
   ·rw [z];exact le_refl _
   ·rw [z];exact le_of_lt y
  by_cases c:2*k+2<ps.length/\HT.aF (kf ps (2*k+2)) (kf ps a)=true
  ·simp only [RD c]
   refine⟨c.1,.inr ⟨by simp,zY c.2 ak⟩,λx x0 xl xk=>?_⟩
   by_cases e:x=2*k+2
   ·rw [e];exact le_refl _
   ·have e:x=2*k+1:=by lia
    rw [e]
    exact le_trans (le_of_lt c.2) (h1 (by lia))
  ·simp only [RC c]
   refine⟨al,?_,λx x0 xl xk=>?_⟩
   ·rcases ha with z | ⟨z,_,y⟩
    ·exact .inl z
    ·exact .inr ⟨.inl z,by rw [z];exact y⟩
   ·by_cases e:x=2*k+2
    ·rw [e]
     unfold le
     cases z:HT.aF (kf ps (2*k+2)) (kf ps a) with
     | false=>rfl
     | true=>exact absurd ⟨by lia,z⟩ c
    ·have e:x=2*k+1:=by lia
     rw [e]
     exact h1 (by lia)
 unfold bK
 by_cases c:2*k+1<ps.length/\HT.aF (kf ps (2*k+1)) (kf ps k)=true
 ·simp only [RD c]
  exact key (2*k+1) (.inr ⟨rfl,c⟩) λ_=>le_refl _
 ·simp only [RC c]
  refine key k (.inl rfl) λhl=>?_
  unfold le
  cases z:HT.aF (kf ps (2*k+1)) (kf ps k) with
  | false=>rfl
  | true=>exact absurd ⟨hl,z⟩ c
def SI(ps:List It)(k:Nat):Prop:=(∀i,0<i->i<ps.length->(i-1)/2≠k->le (kf ps ((i-1)/2)) (kf ps i))/\(0<k->∀c,0<c->c<ps.length->(c-1)/2=k->le (kf ps ((k-1)/2)) (kf ps c))
theorem SI.step(h:SI ps k)(hk:k<ps.length)(hm:bK ps k≠k):SI (sw ps k (bK ps k)) (bK ps k)/\k<bK ps k:=by
 obtain⟨ml,mc,mm⟩:=kF hk
 have mc:=mc.resolve_left hm
 generalize bK ps k=m at *
 have g:=BA hk ml
 have mp:(m-1)/2=k:=by lia
 refine⟨?_,by lia⟩
 rw [SI,jf]
 refine⟨λi i0 il ip=>?_,λm0 c c0 cl cp=>?_⟩
 ·rw [g,g,RC ip]
  by_cases ik:(i-1)/2=k
  ·rw [RD ik]
   by_cases im:i=m
   ·rw [RD im];exact le_of_lt mc.2
   ·rw [RC im,RC (by lia)]
    exact mm i i0 il ik
  ·rw [RC ik,RC (by lia)]
   by_cases e:i=k
   ·rw [RD e,e]
    exact h.2 (by lia) m (by lia) ml mp
   ·rw [RC e]
    exact h.1 i i0 il ik
 ·rw [g,g,mp,RC (by lia),RD rfl,RC (by lia),RC (by lia)]
  have:=h.1 c c0 cl (by lia)
  rw [cp] at this
  exact this
theorem SI.done(h:SI ps k)(hk:k<ps.length)(hm:bK ps k=k):HP ps:=λi i0 il=>by
 by_cases c:(i-1)/2=k
 ·rw [c]
  have:=(kF hk).2.2 i i0 il c
  rw [hm] at this
  exact this
 ·exact h.1 i i0 il c
theorem SI.root(h:HP ps):SI (ps.set 0 q) 0:=by
 refine⟨λi i0 il ip=>?_,λk0=>absurd k0 (by lia)⟩
 rw [MD] at il
 have g:∀x,x≠0->kf (ps.set 0 q) x=kf ps x:=λx hx=>by
  unfold kf
  simp only [Lv]
  rw [List.getElem?_set_ne (Ne.symm hx)]
 rw [g _ ip,g _ (by lia)]
 exact h i i0 il
theorem HP.min(h:HP ps):∀i,i<ps.length->le (kf ps 0) (kf ps i):=by
 intro i
 induction i using Nat.strongRecOn with
 | ind i ih=>
  intro il
  by_cases c:i=0
  ·rw [c];exact le_refl _
  ·exact le_trans (ih ((i-1)/2) (by lia) (by lia)) (h i (by lia) il)
theorem HP.init(h:HP ps):HP ps.dropLast:=by
 intro i i0 il
 rw [List.length_dropLast] at il
 have g:∀x,x<ps.length-1->kf ps.dropLast x=kf ps x:=λx hx=>by
  unfold kf
  simp only [Lv]
  rw [List.getElem?_dropLast,RD hx]
 rw [g _ (by lia),g _ il]
 exact h i i0 (by lia)
def HL(H:Hp)(l:Addr)(ps:List It):Prop:=H l=some (.lst (ps.map λq=>V.ref q.1))/\∀q∈ps,H q.1=some (.tup (q.2.map V.int))
def Onl(l:Addr)(H H':Hp):Prop:=∀c u,c≠l->H c=some u->H' c=some u
theorem Onl.trans(g:Onl l H H')(g':Onl l H' H''):Onl l H H'':=λc u n h=>g' c u n (g c u n h)
theorem Onl.refl:Onl l H H:=λ_ _ _ h=>h
theorem Onl.same(g:Same H H'):Onl l H H':=λc u _ h=>g c u h
theorem HL.same(h:HL H l ps)(g:Same H H'):HL H' l ps:=⟨g _ _ h.1,λq hq=>g _ _ (h.2 q hq)⟩
theorem cF{ps:List It}(hi:i<ps.length):atI (ps.map λq=>V.ref q.1) (i:Int)=some (.ref (ps.getD i (0,[])).1):=by
 apply cC
 rw [LF]
 simp [hi]
theorem ixN_at(h:i<n):ixN n (i:Int)=some i:=by
 unfold ixN
 simp
 lia
theorem my{ps:List It}(hi:i<ps.length):ps.getD i (0,[])∈ps:=by
 rw [Lv,Lo hi]
 exact List.getElem_mem hi
section
variable{P:Np}{w:Nu}{K:MF}{mg:Str->Option Nk}{base:Heap}
def zZ:Sp:=λvs H Q _=>∃(l:Addr) (ps:List It) (i j:Nat),vs= [.ref l,.int i,.int j]/\HL H l ps/\i<ps.length/\j<ps.length/\∀H',Onl l H H'->HL H' l (sw ps i j)->Q .non H'
theorem ok_swap(D:DefAt K mg "swap" xV ["heap","one","other"]):OkD P w K mg base 1 "swap" ["heap","one","other"] zZ:=by
 refine D.ok ut (λvs H Q E h=>?_) (λf cdv A outer s H vs Q E hr h=>?_)
 ·obtain⟨_,_,_,_,rfl,_⟩:=h;rfl
 obtain⟨l,ps,i,j,rfl,⟨h1,h2⟩,hi,hj,q⟩:=h
 have a1:=cF hi
 have a2:=cF hj
 refine⟨_,(aa (aQ 3 ut (aq (pv 0) (pv 1))) (aa (de (aq (pv 0) (pv 2)) (jV (pv 0) (pv 1) fP)) (ae (de (pv 3) (jV (pv 0) (pv 2) fP))))),?_⟩
 walk_at "rz"
 refine⟨i,ixN_at (by rw [Ln];exact hi),λH1 m1=>?_⟩
 have l1:=m1.at_
 walk_at "rz"
 refine⟨j,ixN_at (by rw [MD,Ln];exact hj),λH2 m2=>?_⟩
 refine q H2 (λc u n hc=>m2.old (m1.old hc n) n) ⟨?_,λr hr=>?_⟩
 ·rw [m2.at_]
  unfold sw
  rw [Nh,Nh]
 ·have hr:=(oG hi hj).mem_iff.mp hr
  have n:r.1≠l:=λz=>by have:=h2 r hr;rw [z,h1] at this;cases this
  exact m2.old (m1.old (h2 r hr) n) n
def sp3:Sp:=λvs H Q _=>∃(l:Addr) (ps:List It) (k:Nat),vs= [.ref l,.int k]/\HL H l ps/\k<ps.length/\∀H',Same H H'->Q (.int (bK ps k)) H'
theorem ok_three(D:DefAt K mg "least_of_three" hG ["heap","at"])(IV:mg "len" =none):OkD P w K mg base 1 "least_of_three" ["heap","at"] sp3:=by
 refine D.ok cO (λvs H Q E h=>?_) (λf cdv A outer s H vs Q E hr h=>?_)
 ·obtain⟨_,_,_,rfl,_⟩:=h;rfl
 obtain⟨l,ps,k,rfl,⟨h1,h2⟩,hk,q⟩:=h
 have hu64:=hr.units
 refine⟨_,(aa (aQ 2 cO (pv 1)) (aa (Ca NE.never rfl (au (aD (az bc (az eP ac (pv 1)) ac) (az bc (az eP ac (pv 1)) ac))) (bw 3 cO) (ae (aJ (PW.pt (iO (aO vf (pv 3) (dY eV rfl IV NV (aG (pv 0)))) (gC (aO (wX (L7 (Mx _ 64) hu64)) (aq (pv 0) (pv 3)) (aq (pv 0) (pv 2)))))) (ae (aQ 2 cO (pv 3))) aA))) (ae (ax (pv 2))))),?_⟩
 walk_at "rz"
 intro p H1 hp g1 hp1
 have l1:=g1 _ _ h1
 walk_at "rz"
 refine⟨_,.inl (SqL.of l1),?_⟩
 walk_at "rz"
 have ky:∀i,i<ps.length->SqT K H1 (ps.getD i (0,[])).1 ((kf ps i).map V.int):=λi hi=>SqT.of (g1 _ _ (h2 _ (my hi)))
 have lm:(ps.map λq=>V.ref q.1).length=ps.length:=Ln _
 have e1:(2*(k:Int)+1)=((2*k+1:Nat):Int):=by lia
 have e2:(2*(k:Int)+2)=((2*k+2:Nat):Int):=by lia
 rw [lm]
 refine cv (λc=>?_) λc=>?_
 ·have c1:2*k+1<ps.length:=by lia
  have a1:=cF c1
  have a2:=cF hk
  rw [e1]
  walk_at "rz"
  refine⟨_,ky _ c1,_,ky _ hk,?_⟩
  walk_at "rz"
  refine cv (λz0=>?_) λz0=>?_
  ·have LX:bK ps k=if 2*k+2<ps.length/\HT.aF (kf ps (2*k+2)) (kf ps (2*k+1))=true then 2*k+2 else 2*k+1:=by
    unfold bK
    simp only [RD (show 2*k+1<ps.length/\HT.aF (kf ps (2*k+1)) (kf ps k)=true from ⟨c1,z0⟩)]
   clear a1 a2
   have Ha:=c1
   walk_at "rz"
   refine⟨_,.inl (SqL.of l1),?_⟩
   walk_at "rz"
   refine cv (λd=>?_) λd=>?_
   ·have d1:2*k+2<ps.length:=by lia
    have b1:=cF d1
    have b2:=cF Ha
    try rw [e2]
    walk_at "rz"
    refine⟨_,ky _ d1,_,ky _ Ha,?_⟩
    walk_at "rz"
    refine cv (λz=>?_) λz=>?_
    ·walk_at "rz"
     have:=q H1 g1
     rw [LX,RD ⟨d1,z⟩] at this
     exact this
    ·walk_at "rz"
     have:=q H1 g1
     rw [LX,RC (λy=>z y.2)] at this
     exact this
   ·walk_at "rz"
    have:=q H1 g1
    rw [LX,RC (λy=>d (by have:=y.1;lia))] at this
    exact this
  ·have LX:bK ps k=if 2*k+2<ps.length/\HT.aF (kf ps (2*k+2)) (kf ps k)=true then 2*k+2 else k:=by
    unfold bK
    simp only [RC (show ¬(2*k+1<ps.length/\HT.aF (kf ps (2*k+1)) (kf ps k)=true) from λy=>z0 y.2)]
   have Ha:=hk
   walk_at "rz"
   refine⟨_,.inl (SqL.of l1),?_⟩
   walk_at "rz"
   refine cv (λd=>?_) λd=>?_
   ·have d1:2*k+2<ps.length:=by lia
    have b1:=cF d1
    have b2:=cF Ha
    walk_at "rz"
    refine⟨_,ky _ d1,_,ky _ Ha,?_⟩
    walk_at "rz"
    refine cv (λz=>?_) λz=>?_
    ·walk_at "rz"
     have:=q H1 g1
     rw [LX,RD ⟨d1,z⟩] at this
     exact this
    ·walk_at "rz"
     have:=q H1 g1
     rw [LX,RC (λy=>z y.2)] at this
     exact this
   ·walk_at "rz"
    have:=q H1 g1
    rw [LX,RC (λy=>d (by have:=y.1;lia))] at this
    exact this
 ·have LX:bK ps k=if 2*k+2<ps.length/\HT.aF (kf ps (2*k+2)) (kf ps k)=true then 2*k+2 else k:=by
   unfold bK
   simp only [RC (show ¬(2*k+1<ps.length/\HT.aF (kf ps (2*k+1)) (kf ps k)=true) from λy=>c (by have:=y.1;lia))]
  have Ha:=hk
  walk_at "rz"
  refine⟨_,.inl (SqL.of l1),?_⟩
  walk_at "rz"
  refine cv (λd=>?_) λd=>?_
  ·have d1:2*k+2<ps.length:=by lia
   have b1:=cF d1
   have b2:=cF Ha
   walk_at "rz"
   refine⟨_,ky _ d1,_,ky _ Ha,?_⟩
   walk_at "rz"
   refine cv (λz=>?_) λz=>?_
   ·walk_at "rz"
    have:=q H1 g1
    rw [LX,RD ⟨d1,z⟩] at this
    exact this
   ·walk_at "rz"
    have:=q H1 g1
    rw [LX,RC (λy=>z y.2)] at this
    exact this
  ·walk_at "rz"
   have:=q H1 g1
   rw [LX,RC (λy=>d (by have:=y.1;lia))] at this
   exact this
def RsI(l:Addr)(ps:List It)(H:Hp)(m:Nat)(σ:St)(H':Hp):Prop:=∃(k:Nat) (ps':List It),σ= [some (.ref l),some (.int k)]/\Onl l H H'/\HL H' l ps'/\ps'.Perm ps/\k<ps'.length/\RI ps' k/\m=k
def RsZ(l:Addr)(ps:List It)(H:Hp)(σ:St)(H':Hp):Prop:=∃(v:Option V) (ps':List It),σ= [some (.ref l),v]/\Onl l H H'/\HL H' l ps'/\ps'.Perm ps/\HP ps'
def x8:Sp:=λvs H Q _=>∃(l:Addr) (ps:List It),vs= [.ref l]/\HL H l ps/\0<ps.length/\RI ps (ps.length-1)/\∀H' ps',Onl l H H'->HL H' l ps'->ps'.Perm ps->HP ps'->Q .non H'
theorem ok_rise(D:DefAt K mg "rise" xT ["heap"])(Kj:OkD P w K mg base 1 "swap" ["heap","one","other"] zZ)(IV:mg "len" =none):OkD P w K mg base 2 "rise" ["heap"] x8:=by
 refine D.ok oB (λvs H Q E h=>?_) (λf cdv A outer s H vs Q E hr h=>?_)
 ·obtain⟨_,_,rfl,_⟩:=h;rfl
 obtain⟨l,ps,rfl,hl,h0,ri,q⟩:=h
 have hu64:=hr.units
 have lm:(ps.map λq=>V.ref q.1).length=ps.length:=Ln _
 refine⟨_,(aa (aQ 1 oB (az eN (dY eV rfl IV NV (aG (pv 0))) ac)) (ae (gu (d7 NE.never (PW.pt (iO (aO gq (pv 1) ac) (gC (aO (wX (L7 (Mx _ 64) hu64)) (aq (pv 0) (pv 1)) (aq (pv 0) (az iS (az eN (pv 1) ac) ac)))))) (aa (aC (aR Kj hr rfl (bJ (pv 0) (pv 1) (az iS (az eN (pv 1) ac) ac)))) (ae (aQ 1 oB (az iS (az eN (pv 1) ac) ac)))))))),?_⟩
 walk_at "rz"
 refine⟨_,.inl (SqL.of hl.1),?_⟩
 walk_at "rz"
 refine⟨RsZ l ps H,?_,?_⟩
 ·refine⟨RsI l ps H,⟨ps.length-1,?_⟩,?_⟩
  ·unfold RsI
   exact⟨ps.length-1,ps,by rw [show((ps.length:Int)-1)=((ps.length-1:Nat):Int) by lia],Onl.refl,hl,List.Perm.refl _,by lia,ri,rfl⟩
  ·intro m σ H1 z
   obtain⟨k,ps',rfl,o1,hl1,pm,hk,ri1,rfl⟩:=z
   clear lm
   have l1:=hl1.1
   walk_at "rz"
   refine cv (λc=>?_) λc=>?_
   ·have p0:((m:Int)-1)/2=(((m-1)/2:Nat):Int):=by lia
    have hp:(m-1)/2<ps'.length:=by lia
    have a1:=cF hk
    have a2:=cF hp
    walk_at "rz"
    refine⟨_,SqT.of (hl1.2 _ (my hk)),_,SqT.of (hl1.2 _ (my hp)),?_⟩
    walk_at "rz"
    refine cv (λz=>?_) λz=>?_
    ·refine⟨λσ' H'=>∃m',m'<m/\RsI l ps H m' σ' H',λ_ _ y=>y,?_⟩
     walk_at "rz"
     refine⟨l,ps',m,(m-1)/2,rfl,hl1,hk,hp,λH2 o2 hl2=>?_⟩
     refine⟨(m-1)/2,by lia,?_⟩
     exact⟨(m-1)/2,sw ps' m ((m-1)/2),(by show [some (V.ref l),some (V.int (((m:Int)-1)/2))]=_;rw [p0]),o1.trans o2,hl2,(oG hk hp).trans pm,by rw [jf];exact hp,ri1.step (by lia) hk z,rfl⟩
    ·unfold RsZ
     exact⟨_,ps',rfl,o1,hl1,pm,ri1.done hk (.inr (by unfold le;exact Bool.eq_false_iff.mpr z))⟩
   ·unfold RsZ
    exact⟨_,ps',rfl,o1,hl1,pm,ri1.done hk (.inl (by lia))⟩
 ·intro σ H1 z
  obtain⟨v,ps',rfl,o1,hl1,pm,hp⟩:=z
  exact q H1 ps' o1 hl1 pm hp
def SkI(l:Addr)(ps:List It)(H:Hp)(m:Nat)(σ:St)(H':Hp):Prop:=∃(k:Nat) (ps':List It),σ= [some (.ref l),some (.int k),some (.int (bK ps' k))]/\Onl l H H'/\HL H' l ps'/\ps'.Perm ps/\k<ps'.length/\SI ps' k/\m=ps'.length-k
def x9:Sp:=λvs H Q _=>∃(l:Addr) (ps:List It),vs= [.ref l]/\HL H l ps/\0<ps.length/\SI ps 0/\∀H' ps',Onl l H H'->HL H' l ps'->ps'.Perm ps->HP ps'->Q .non H'
theorem ok_sink(D:DefAt K mg "sink" xU ["heap"])(Kj:OkD P w K mg base 1 "swap" ["heap","one","other"] zZ)(JF:OkD P w K mg base 1 "least_of_three" ["heap","at"] sp3):OkD P w K mg base 2 "sink" ["heap"] x9:=by
 refine D.ok jb (λvs H Q E h=>?_) (λf cdv A outer s H vs Q E hr h=>?_)
 ·obtain⟨_,_,rfl,_⟩:=h;rfl
 obtain⟨l,ps,rfl,hl,h0,si,q⟩:=h
 refine⟨_,(aa (aQ 1 jb ac) (aa (aQ 2 jb (aR JF hr rfl (aD (pv 0) (pv 1)))) (ae (d7 NE.never (aO GL (pv 2) (pv 1)) (aa (aC (aR Kj hr rfl (bJ (pv 0) (pv 1) (pv 2)))) (aa (aQ 1 jb (pv 2)) (ae (aQ 2 jb (aR JF hr rfl (aD (pv 0) (pv 1))))))))))),?_⟩
 walk_at "rz"
 refine⟨l,ps,0,rfl,hl,h0,λH1 g1=>?_⟩
 refine⟨SkI l ps H,⟨ps.length-0,?_⟩,?_⟩
 ·unfold SkI
  exact⟨0,ps,rfl,Onl.same g1,hl.same g1,List.Perm.refl _,h0,si,rfl⟩
 ·intro m σ H2 z
  obtain⟨k,ps',rfl,o1,hl1,pm,hk,si1,rfl⟩:=z
  walk_at "rz"
  have hm:=kF hk
  refine cv (λc=>?_) λc=>?_
  ·have c:bK ps' k≠k:=λz=>by rw [z] at c;simp at c
   have st:=si1.step hk c
   refine⟨λσ' H'=>∃m',m'<ps'.length-k/\SkI l ps H m' σ' H',λ_ _ y=>y,?_⟩
   walk_at "rz"
   refine⟨l,ps',k,bK ps' k,rfl,hl1,hk,hm.1,λH3 o3 hl3=>?_⟩
   refine⟨l,_,bK ps' k,rfl,hl3,by rw [jf];exact hm.1,λH4 g4=>?_⟩
   refine⟨ps'.length-bK ps' k,by have:=st.2;lia,?_⟩
   exact⟨bK ps' k,sw ps' k (bK ps' k),rfl,(o1.trans o3).trans (Onl.same g4),hl3.same g4,(oG hk hm.1).trans pm,by rw [jf];exact hm.1,st.1,by rw [jf]⟩
  ·have c:bK ps' k=k:=by
    have:((bK ps' k:Int))=k:=by simpa using c
    lia
   exact q H2 ps' o1 hl1 pm (si1.done hk c)
end
structure Kt where
 m:Int
 t:Int
 x:Int
def cM(e:Kt):List Int:=[e.m,e.t,e.x]
def key2(e:Kt):List Int:=[e.m,e.x]
def bef(a b:Kt):Prop:=a.m<b.m\/(a.m=b.m/\a.t<b.t)
def Inc(kt:List Kt):Prop:=kt.Pairwise λa b=>a.t<b.t
def Srt(kt ok:List Kt):Prop:=ok.Perm kt/\ok.Pairwise bef
def IsMi(kt:List Kt)(i:Nat)(e:Kt):Prop:=kt[i]? =some e/\(∀(j:Nat) e',kt[j]? =some e'->e.m<=e'.m)/\(∀(j:Nat) e',j<i->kt[j]? =some e'->e.m<e'.m)
theorem yc(h:bef a b):¬bef b a:=λh'=>by
 rcases h with h | ⟨h,h2⟩<;>rcases h' with g | ⟨g,g2⟩<;>lia
theorem sf(h:bef a b):HT.aF (cM a) (cM b)=true:=by
 unfold cM
 rcases h with h | ⟨h,h2⟩
 ·rw [HT.bC,RC (by lia)];exact decide_eq_true h
 ·rw [HT.bC,RD h,HT.bC,RC (by lia)];exact decide_eq_true h2
theorem z9(h:cM a=cM b):a=b:=by
 cases a
 unfold cM at h
 simp at h
 obtain⟨rfl,rfl,rfl⟩:=h
 rfl
theorem Inc.at(h:Inc kt){j:Nat}(hi:kt[i]? =some a)(hj:kt[j]? =some b)(hij:i<j):a.t<b.t:=by
 obtain⟨i1,e1⟩:=List.getElem?_eq_some_iff.mp hi
 obtain⟨j1,e2⟩:=List.getElem?_eq_some_iff.mp hj
 have:=List.pairwise_iff_getElem.mp h i j i1 j1 hij
 rw [e1,e2] at this
 exact this
theorem IsMi.min(h:IsMi kt i e)(ic:Inc kt)(he:e'∈kt):e=e'\/bef e e':=by
 obtain⟨j,hj⟩:=List.mem_iff_getElem?.mp he
 rcases Nat.lt_trichotomy j i with c | c | c
 ·exact .inr (.inl (h.2.2 j e' c hj))
 ·subst c
  rw [h.1] at hj
  exact .inl (Option.some.inj hj)
 ·have a:=h.2.1 j e' hj
  have b:=ic.at h.1 hj c
  right
  unfold bef
  lia
theorem uC:∀{l:List Kt} {i:Nat} (h:i<l.length),(l[i]::l.eraseIdx i).Perm l
 | a::l,0,_=>List.Perm.refl _
 | a::l,i+1,h=>by
  have:=uC (i:=i) (by simpa using h)
  exact(List.Perm.swap _ _ _).trans (this.cons a)
theorem IsMi.perm(h:IsMi kt i e):(e::kt.eraseIdx i).Perm kt:=by
 obtain⟨i1,e1⟩:=List.getElem?_eq_some_iff.mp h.1
 rw [<-e1]
 exact uC i1
theorem Srt.take(s:Srt kt ok)(ic:Inc kt)(h:IsMi kt i e):∃r,ok=e::r/\Srt (kt.eraseIdx i) r:=by
 have hm:=LC h.1
 cases ok with
 | nil=>have:=s.1.mem_iff.mpr hm;cases this
 | cons o r=>
  have ho:=s.1.mem_iff.mp Ll
  have pw:=List.pairwise_cons.mp s.2
  have eo:e=o:=by
   rcases h.min ic ho with z | z
   ·exact z
   ·rcases List.mem_cons.mp (s.1.mem_iff.mpr hm) with y | y
    ·exact y
    ·exact absurd (pw.1 e y) (yc z)
  subst eo
  exact⟨r,rfl,(s.1.trans h.perm.symm).cons_inv,pw.2⟩
theorem uD:∀{l m:List (List Int)},l.Perm m->l.Pairwise (λa b=>HT.aF a b=true)->m.Pairwise (λa b=>HT.aF a b=true)->l=m
 | [],m,p,_,_=>(List.nil_perm.mp p).symm
 | a::l,[],p,_,_=>by have:=p.length_eq;simp at this
 | a::l,b::m,p,h,h'=>by
  have h:=List.pairwise_cons.mp h
  have h':=List.pairwise_cons.mp h'
  have e:a=b:=by
   rcases List.mem_cons.mp (p.mem_iff.mp Ll) with z | z
   ·exact z
   ·rcases List.mem_cons.mp (p.mem_iff.mpr (Ll)) with y | y
    ·exact y.symm
    ·have g1:=h'.1 a z
     have g2:=h.1 b y
     have:=r8 g1
     rw [g2] at this;cases this
  subst e
  rw [uD p.cons_inv h.2 h'.2]
theorem Srt.keys(s:Srt kt ok):(ok.map cM).Pairwise λa b=>HT.aF a b=true:=by
 rw [MR]
 exact s.2.imp λh=>sf h
theorem uE:∀{l m:List Kt},l.map cM=m.map cM->l=m
 | [],[],_=>rfl
 | [],_::_,h=>by cases h
 | _::_,[],h=>by cases h
 | a::l,b::m,h=>by
  injection h with h1 h2
  rw [z9 h1,uE h2]
theorem Srt.uniq(s:Srt kt ok)(s':Srt kt ok'):ok=ok':=
 uE (uD ((s.1.trans s'.1.symm).map cM) s.keys s'.keys)
theorem Srt.put(s:Srt kt ok)(ht:∀a∈kt,a.t<e.t)(hk:k<=ok.length)(h1:∀(j:Nat) a,j<k->ok[j]? =some a->a.m<=e.m)(h2:∀(j:Nat) a,k<=j->ok[j]? =some a->e.m<a.m):Srt (kt++[e]) (ok.take k++[e]++ok.drop k):=by
 refine⟨?_,?_⟩
 ·have:(ok.take k++[e]++ok.drop k).Perm (ok.take k++ok.drop k++[e]):=by
   rw [LO,LO]
   exact List.Perm.append_left _ List.perm_append_comm
  rw [List.take_append_drop] at this
  exact this.trans (s.1.append_right _)
 ·have b1:∀a∈ok.take k,bef a e:=λa ha=>by
   obtain⟨j,hj⟩:=List.mem_iff_getElem?.mp ha
   have jl:j<k:=by
    have:=(List.getElem?_eq_some_iff.mp hj).1
    rw [Ma] at this;lia
   rw [List.getElem?_take_of_lt jl] at hj
   have a1:=h1 j a jl hj
   have a2:=ht a (s.1.mem_iff.mp (LC hj))
   unfold bef;lia
  have b2:∀a∈ok.drop k,bef e a:=λa ha=>by
   obtain⟨j,hj⟩:=List.mem_iff_getElem?.mp ha
   rw [Mo] at hj
   exact .inl (h2 _ a (by lia) hj)
  have b0:=s.2
  rw [<-List.take_append_drop k ok,Ml] at b0
  rw [LO,Ml]
  refine⟨b0.1,List.pairwise_cons.mpr ⟨λa ha=>b2 a ha,b0.2.1⟩,λa ha b hb=>?_⟩
  rcases List.mem_cons.mp hb with z | z
  ·rw [z];exact b1 a ha
  ·exact b0.2.2 a ha b z
theorem Inc.snoc(h:Inc kt)(ht:∀a∈kt,a.t<e.t):Inc (kt++[e]):=by
 unfold Inc
 rw [Ml]
 exact⟨h,LU _ _,λa ha b hb=>by rw [List.mem_singleton.mp hb];exact ht a ha⟩
theorem Srt.mono(s:Srt kt ok){j:Nat}(hi:ok[i]? =some a)(hj:ok[j]? =some b)(hij:i<=j):a.m<=b.m:=by
 by_cases c:i=j
 ·subst c;rw [hi] at hj;cases hj;exact Int.le_refl _
 ·obtain⟨i1,e1⟩:=List.getElem?_eq_some_iff.mp hi
  obtain⟨j1,e2⟩:=List.getElem?_eq_some_iff.mp hj
  have:=List.pairwise_iff_getElem.mp s.2 i j i1 j1 (by lia)
  rw [e1,e2] at this
  unfold bef at this;lia
theorem root(hp:HP ps)(pm:(ps.map (·.2)).Perm (kt.map cM))(ic:Inc kt)(h:IsMi kt i e):∃q r,ps=q::r/\q.2=cM e/\(r.map (·.2)).Perm ((kt.eraseIdx i).map cM):=by
 have hm:=LC h.1
 cases ps with
 | nil=>have:=pm.length_eq;have:=List.length_pos_of_mem hm;simp at *;lia
 | cons q r=>
  obtain⟨e0,h0,k0⟩:=List.mem_map.mp (pm.mem_iff.mp (L3 Ll))
  have e1:e=e0:=by
   rcases h.min ic h0 with z | z
   ·exact z
   ·obtain⟨q1,hq1,kq1⟩:=List.mem_map.mp (pm.mem_iff.mpr (L3 hm))
    obtain⟨j,hj⟩:=List.mem_iff_getElem?.mp hq1
    have:=hp.min j (List.getElem?_eq_some_iff.mp hj).1
    have kj:kf (q::r) j=cM e:=by unfold kf;rw [Lv,hj];exact kq1
    have k00:kf (q::r) 0=cM e0:=by rw [k0];rfl
    rw [kj,k00] at this
    unfold le at this
    rw [sf z] at this;cases this
  subst e1
  refine⟨q,r,rfl,k0.symm,?_⟩
  have:=pm.trans (h.perm.map cM).symm
  rw [Ls,<-k0] at this
  exact this.cons_inv
def LA(CL:Addr)(H:Hp)(a l:Addr)(kt:List Kt):Prop:=∃dx ps ok,H a=some (.ins CL dx [("things",.ref l)])/\HL H l ps/\Srt kt ok/\ps.map (·.2)=ok.map key2
def FrA(a l:Addr)(H H':Hp):Prop:=∀c u,c≠a->c≠l->H c=some u->H' c=some u
theorem oH:Srt [] []:=⟨List.Perm.refl _,.nil⟩
theorem LA.fr(h:LA CL H a l kt)(g:∀c u,(c=a\/c=l\/∃xs,u=HO.tup xs)->H c=some u->H' c=some u):LA CL H' a l kt:=by
 obtain⟨dx,ps,ok,h1,⟨h2,h3⟩,h4⟩:=h
 exact⟨dx,ps,ok,g _ _ (.inl rfl) h1,⟨g _ _ (.inr (.inl rfl)) h2,λq hq=>g _ _ (.inr (.inr ⟨_,rfl⟩)) (h3 q hq)⟩,h4⟩
theorem BB{α:Type}{f:α->List Int}{ok:List α}(hl:HL H l ps)(ek:ps.map (·.2)=ok.map f){i:Nat}{e:α}(he:ok[i]? =some e):∃p,atI (ps.map λq=>V.ref q.1) (i:Int)=some (.ref p)/\H p=some (.tup ((f e).map V.int))/\ps[i]? =some (p,f e):=by
 have h:=congrArg (λl=>l[i]?) ek
 simp only [LF,he,MK] at h
 cases z:ps[i]? with
 | none=>rw [z] at h;cases h
 | some q=>
  rw [z] at h
  obtain⟨p,k⟩:=q
  cases h
  refine⟨p,cC (by rw [LF,z];rfl),hl.2 _ (LC z),rfl⟩
section
variable{P:Np}{w:Nu}{K:MF}{mg:Str->Option Nk}{base:Heap}
def spLI(CL:Addr):Sp:=λvs H Q _=>∃(a dx:Addr),vs= [.ref a]/\H a=some (.ins CL dx [])/\∀(l:Addr) (H':Hp),H l=none->(∀c u,c≠a->H c=some u->H' c=some u)->LA CL H' a l []->Q .non H'
theorem ok_LI(D:MakeAt K mg "ListAgenda" CL "ListAgenda.__init__" eE ["self"])(IN:Cls K CL)(IJ:NoAttr K CL "things"):OkC P w K mg base 1 "ListAgenda" CL ["self"] (spLI CL):=by
 refine D.ok iH (λvs H Q E h=>?_) (λf cdv A outer s H vs Q E hr h=>?_)
 ·obtain⟨_,_,rfl,_⟩:=h;rfl
 obtain⟨a,dx,rfl,ha,q⟩:=h
 refine⟨_,(ae (aI IN IJ (pv 0) (aE a0))),?_⟩
 walk_at "rz"
 intro l H1 hl g1 h1
 have a1:=g1 _ _ ha
 walk_at "rz"
 intro H2 m2
 have nl:=(aK ha hl).symm
 exact q l H2 hl (λc u nc hc=>m2.old (g1 _ _ hc) nc) ⟨dx,[],[],m2.at_,⟨m2.old h1 nl,λq hq=>absurd hq Lr⟩,oH,rfl⟩
def LpI(a l:Addr)(m x:Int)(ok:List Kt)(H:Hp)(n:Nat)(σ:St)(H':Hp):Prop:=∃k:Nat,σ= [some (.ref a),some (.int m),some (.int x),some (.int k)]/\H'=H/\k<=ok.length/\(∀(j:Nat) e,k<=j->ok[j]? =some e->m<e.m)/\n=k
def LpZ(a l:Addr)(m x:Int)(ok:List Kt)(H:Hp)(σ:St)(H':Hp):Prop:=∃k:Nat,σ= [some (.ref a),some (.int m),some (.int x),some (.int k)]/\H'=H/\k<=ok.length/\(∀(j:Nat) e,k<=j->ok[j]? =some e->m<e.m)/\(∀(j:Nat) e,j<k->ok[j]? =some e->e.m<=m)
def spLPut(CL:Addr):Sp:=λvs H Q _=>∃(a l:Addr) (m x t:Int) (kt:List Kt),vs= [.ref a,.int m,.int x]/\LA CL H a l kt/\(∀e∈kt,e.t<t)/\kt.length<=900/\∀H',FrA a l H H'->LA CL H' a l (kt++[⟨m,t,x⟩])->Q .non H'
theorem ok_LPut(D:MethAt K CL "put" "ListAgenda.put" gY ["self","moment","thing"])(IN:Cls K CL)(IJ:NoAttr K CL "things")(IV:mg "len" =none):OkM P w K mg base 1 CL "put" ["self","moment","thing"] (spLPut CL):=by
 refine D.ok IN dQ (λvs H Q E h=>?_) (λf cdv A outer s H vs Q E hr h=>?_)
 ·obtain⟨_,_,_,_,_,_,rfl,_⟩:=h;rfl
 obtain⟨a,l,m,x,t,kt,rfl,⟨dx,ps,ok,h1,hl,so,ek⟩,ht,hn,q⟩:=h
 have big:100000<=Nm:=by unfold Nm;decide
 have lp:ps.length=ok.length:=by have:=congrArg List.length ek;rw [Ln,Ln] at this;exact this
 have lm:(ps.map λq=>V.ref q.1).length=ok.length:=by rw [Ln];exact lp
 have l1:=hl.1
 refine⟨_,(aa (aQ 3 dQ (dY eV rfl IV NV (aG (ai IN IJ (pv 0))))) (aa (gu (d7 NE.never (PW.pt (iO (aO gq (pv 3) ac) (gC (aO gq (aq (aq (ai IN IJ (pv 0)) (az eN (pv 3) ac)) ac) (pv 1))))) (ae (aQ 3 dQ (az eN (pv 3) ac))))) (ae (aC (vy NR PySem.F.slot_list_insert PySem.F.type_list_insert Ci (ai IN IJ (pv 0)) (aD (pv 3) (au (aD (pv 1) (pv 2))))))))),?_⟩
 walk_at "rz"
 refine⟨_,.inl (SqL.of l1),?_⟩
 walk_at "rz"
 refine⟨LpZ a l m x ok H,?_,?_⟩
 ·refine⟨LpI a l m x ok H,⟨ok.length,?_⟩,?_⟩
  ·unfold LpI
   exact⟨ok.length,rfl,rfl,Nat.le_refl _,λj e hj he=>absurd (List.getElem?_eq_some_iff.mp he).1 (by lia),rfl⟩
  ·intro n σ H1 z
   obtain⟨k,rfl,rfl,hk,af,rfl⟩:=z
   walk_at "rz"
   refine cv (λc=>?_) λc=>?_
   ·have p0:((n:Int)-1)=((n-1:Nat):Int):=by lia
    obtain⟨e,he⟩:∃e,ok[n-1]? =some e:=⟨_,Lo (by lia)⟩
    obtain⟨p,a1,a2',_⟩:=BB hl ek he
    have a2:H1 p=some (.tup [.int e.m,.int e.x]):=a2'
    clear ek a2'
    walk_at "rz"
    refine cv (λz=>?_) λz=>?_
    ·refine⟨λσ' H'=>∃m',m'<n/\LpI a l m x ok H1 m' σ' H',λ_ _ y=>y,?_⟩
     walk_at "rz"
     refine⟨n-1,by lia,?_⟩
     refine⟨n-1,(by show [some (V.ref a),some (V.int m),some (V.int x),some (V.int ((n:Int)-1))]=_;rw [p0]),rfl,by lia,λj e' hj he'=>?_,rfl⟩
     by_cases cj:j=n-1
     ·subst cj;rw [he] at he';cases he';exact z
     ·exact af j e' (by lia) he'
    ·unfold LpZ
     refine⟨n,rfl,rfl,hk,af,λj e' hj he'=>?_⟩
     have:=so.mono he' he (by lia)
     lia
   ·unfold LpZ
    exact⟨n,rfl,rfl,hk,af,λj e' hj he'=>absurd hj (by lia)⟩
 ·intro σ H1 z
  obtain⟨k,rfl,rfl,hk,af,be⟩:=z
  walk_at "rz"
  refine⟨⟨_,SqL.of l1⟩,?_⟩
  walk_at "rz"
  intro p H2 hp g2 h2
  have l2:=g2 _ _ l1
  walk_at "rz"
  have lo:=so.1.length_eq
  refine⟨by lia,by rw [lm];lia,by rw [lm];lia,λH3 m3=>?_⟩
  have nal:a≠l:=λz=>by rw [z,l1] at h1;cases h1
  have npl:=(aK l1 hp).symm
  have tk:∀c xs,H1 c=some (.tup xs)->H3 c=some (.tup xs):=λc xs hc=>m3.old (g2 _ _ hc) (λz=>by rw [z,l1] at hc;cases hc)
  refine q H3 (λc u n1 n2 hc=>m3.old (g2 _ _ hc) n2) ⟨dx,ps.take k++[(p,[m,x])]++ps.drop k,ok.take k++[⟨m,t,x⟩]++ok.drop k,m3.old (g2 _ _ h1) nal,⟨?_,λr hr=>?_⟩,so.put ht hk be af,?_⟩
  ·rw [m3.at_]
   unfold zp
   simp [M5,M6]
  ·rcases List.mem_append.mp hr with hr | hr
   ·rcases List.mem_append.mp hr with hr | hr
    ·exact tk _ _ (hl.2 r (List.mem_of_mem_take hr))
    ·rw [List.mem_singleton.mp hr]
     exact m3.old h2 npl
   ·exact tk _ _ (hl.2 r (List.mem_of_mem_drop hr))
  ·rw [Lx,Lx,Lx,Lx,M5,M6,ek,<-M5,<-M6]
   rfl
def fst1(ok:List Kt):V:=match ok with | []=>.non | e::_=>.int e.m
def spLFst(CL:Addr):Sp:=λvs H Q _=>∃(a l:Addr) (kt:List Kt),vs= [.ref a]/\LA CL H a l kt/\∀ok,Srt kt ok->Q (fst1 ok) H
theorem ok_LFst(D:MethAt K CL "first" "ListAgenda.first" fT ["self"])(IN:Cls K CL)(IJ:NoAttr K CL "things"):OkM P w K mg base 1 CL "first" ["self"] (spLFst CL):=by
 refine D.ok IN jQ (λvs H Q E h=>?_) (λf cdv A outer s H vs Q E hr h=>?_)
 ·obtain⟨_,_,_,rfl,_⟩:=h;rfl
 obtain⟨a,l,kt,rfl,⟨dx,ps,ok,h1,hl,so,ek⟩,q⟩:=h
 have q:=q ok so
 have l1:=hl.1
 refine⟨_,(aa (aJ (jT (d8 (ai IN IJ (pv 0)) (λ_=>rfl))) (ae (ax bV)) aA) (ae (ax (aq (aq (ai IN IJ (pv 0)) ac) ac)))),?_⟩
 walk_at "rz"
 refine⟨_,.inl ⟨_,SqL.of l1,rfl⟩,?_⟩
 cases ok with
 | nil=>
  cases ps with
  | cons _ _=>cases ek
  | nil=>
   exact q
 | cons e r=>
  obtain⟨p,a1,a2',_⟩:=BB hl ek (i:=0) rfl
  have a2:H p=some (.tup [.int e.m,.int e.x]):=a2'
  have a1:atI (ps.map λq=>V.ref q.1) 0=some (.ref p):=a1
  have ne:(!(!(ps.map λq=>V.ref q.1).isEmpty))=false:=by
   cases ps with
   | nil=>cases ek
   | cons _ _=>rfl
  clear ek a2'
  walk_at "rz"
  exact q
def spLTake(CL:Addr):Sp:=λvs H Q _=>∃(a l:Addr) (kt:List Kt) (i:Nat) (e:Kt),vs= [.ref a]/\LA CL H a l kt/\Inc kt/\IsMi kt i e/\kt.length<=900/\∀H' p,FrA a l H H'->LA CL H' a l (kt.eraseIdx i)->H' p=some (.tup [.int e.m,.int e.x])->Q (.ref p) H'
theorem ok_LTake(D:MethAt K CL "take" "ListAgenda.take" gk ["self"])(IN:Cls K CL)(IJ:NoAttr K CL "things"):OkM P w K mg base 1 CL "take" ["self"] (spLTake CL):=by
 refine D.ok IN kB (λvs H Q E h=>?_) (λf cdv A outer s H vs Q E hr h=>?_)
 ·obtain⟨_,_,_,_,_,rfl,_⟩:=h;rfl
 obtain⟨a,l,kt,i,e,rfl,⟨dx,ps,ok,h1,hl,so,ek⟩,ic,im,hn,q⟩:=h
 have lo:=so.1.length_eq
 have lp:ps.length=ok.length:=by have:=congrArg List.length ek;rw [Ln,Ln] at this;exact this
 obtain⟨r,rfl,sr⟩:=so.take ic im
 have l1:=hl.1
 refine⟨_,(ae (ax (vy NR Om On pB (ai IN IJ (pv 0)) (aG ac)))),?_⟩
 cases ps with
 | nil=>cases ek
 | cons q0 qs=>
  have ek:q0.2::qs.map (·.2)=key2 e::r.map key2:=ek
  injection ek with e1 e2
  simp only [Lw] at lp lo
  walk_at "rz"
  refine⟨⟨_,SqL.of l1⟩,?_⟩
  walk_at "rz"
  have nal:a≠l:=λz=>by rw [z,l1] at h1;cases h1
  have tk:∀{H1:Hp} {xs:List V} {o:HO},Mu H l o H1->∀c,H c=some (.tup xs)->H1 c=some (.tup xs):=λm1 c hc=>m1.old hc (λz=>by rw [z,l1] at hc;cases hc)
  refine⟨by lia,_,by rw [Lw,Ln];lia,rfl,λH1 m1=>?_⟩
  exact q H1 q0.1 (λc u n1 n2 hc=>m1.old hc n2) ⟨dx,qs,r,m1.old h1 nal,⟨m1.at_,λp hp=>tk m1 _ (hl.2 p (Lm _ hp))⟩,sr,e2⟩ (tk m1 _ (by have:=hl.2 q0 Ll;rw [e1] at this;exact this))
def spLOrd(CL:Addr):Sp:=λvs H Q _=>∃(a l:Addr) (kt:List Kt),vs= [.ref a]/\LA CL H a l kt/\∀r H' ps' ok,Srt kt ok->H r=none->Same H H'->HL H' r ps'->ps'.map (·.2)=ok.map key2->Q (.ref r) H'
theorem ok_LOrd(D:MethAt K CL "in_order" "ListAgenda.in_order" eF ["self"])(IN:Cls K CL)(IJ:NoAttr K CL "things")(Jq:mg "list" =none):OkM P w K mg base 1 CL "in_order" ["self"] (spLOrd CL):=by
 refine D.ok IN iI (λvs H Q E h=>?_) (λf cdv A outer s H vs Q E hr h=>?_)
 ·obtain⟨_,_,_,rfl,_⟩:=h;rfl
 obtain⟨a,l,kt,rfl,⟨dx,ps,ok,h1,hl,so,ek⟩,q⟩:=h
 have l1:=hl.1
 refine⟨_,(ae (ax (dA jy Jq (aG (ai IN IJ (pv 0)))))),?_⟩
 walk_at "rz"
 intro r H1 hr1 g1 h2
 exact q r H1 ps ok so hr1 g1 ⟨h2,λp hp=>g1 _ _ (hl.2 p hp)⟩ ek
end
def HA(CH:Addr)(H:Hp)(b l:Addr)(tn:Int)(kt:List Kt):Prop:=∃dx ps,H b=some (.ins CH dx [("heap",.ref l),("turn",.int tn)])/\HL H l ps/\(ps.map (·.2)).Perm (kt.map cM)/\HP ps/\∀e∈kt,e.t<=tn
theorem HA.fr(h:HA CH H b l tn kt)(g:∀c u,(c=b\/c=l\/∃xs,u=HO.tup xs)->H c=some u->H' c=some u):HA CH H' b l tn kt:=by
 obtain⟨dx,ps,h1,⟨h2,h3⟩,h4⟩:=h
 exact⟨dx,ps,g _ _ (.inl rfl) h1,⟨g _ _ (.inr (.inl rfl)) h2,λq hq=>g _ _ (.inr (.inr ⟨_,rfl⟩)) (h3 q hq)⟩,h4⟩
theorem HP.nil:HP []:=λi _ h=>absurd h (by simp)
theorem Hm(hp:HP ps)(pm:(ps.map (·.2)).Perm (kt.map cM))(so:Srt kt ok)(h:ok=e::r):∃q r,ps=q::r/\q.2=cM e:=by
 subst h
 have hm:=so.1.mem_iff.mp Ll
 cases ps with
 | nil=>have:=pm.length_eq;have:=List.length_pos_of_mem hm;simp at *;lia
 | cons q r'=>
  obtain⟨e0,h0,k0⟩:=List.mem_map.mp (pm.mem_iff.mp (L3 Ll))
  refine⟨q,r',rfl,?_⟩
  rcases List.mem_cons.mp (so.1.mem_iff.mpr h0) with z | z
  ·rw [<-z];exact k0.symm
  ·have bf:=(List.pairwise_cons.mp so.2).1 e0 z
   obtain⟨q1,hq1,kq1⟩:=List.mem_map.mp (pm.mem_iff.mpr (L3 hm))
   obtain⟨j,hj⟩:=List.mem_iff_getElem?.mp hq1
   have:=hp.min j (List.getElem?_eq_some_iff.mp hj).1
   have kj:kf (q::r') j=cM e:=by unfold kf;rw [Lv,hj];exact kq1
   have k00:kf (q::r') 0=cM e0:=by rw [k0];rfl
   rw [kj,k00] at this
   unfold le at this
   rw [sf bf] at this;cases this
section
variable{P:Np}{w:Nu}{K:MF}{mg:Str->Option Nk}{base:Heap}
def spHI(CH:Addr):Sp:=λvs H Q _=>∃(b dx:Addr),vs= [.ref b]/\H b=some (.ins CH dx [])/\∀(l:Addr) (H':Hp),H l=none->(∀c u,c≠b->H c=some u->H' c=some u)->HA CH H' b l 0 []->Q .non H'
theorem ok_HI(D:MakeAt K mg "HeapAgenda" CH "HeapAgenda.__init__" eG ["self"])(IG:Cls K CH)(II:NoAttr K CH "heap")(Jh:NoAttr K CH "turn"):OkC P w K mg base 1 "HeapAgenda" CH ["self"] (spHI CH):=by
 refine D.ok iJ (λvs H Q E h=>?_) (λf cdv A outer s H vs Q E hr h=>?_)
 ·obtain⟨_,_,rfl,_⟩:=h;rfl
 obtain⟨a,dx,rfl,ha,q⟩:=h
 refine⟨_,(aa (aI IG II (pv 0) (aE a0)) (ae (aI IG Jh (pv 0) ac))),?_⟩
 walk_at "rz"
 intro l H1 hl g1 h1
 have a1:=g1 _ _ ha
 walk_at "rz"
 intro H2 m2
 have nl:=(aK ha hl).symm
 have a2:=m2.at_
 walk_at "rz"
 intro H3 m3
 exact q l H3 hl (λc u nc hc=>m3.old (m2.old (g1 _ _ hc) nc) nc) ⟨dx,[],m3.at_,⟨m3.old (m2.old h1 nl) nl,λq hq=>absurd hq Lr⟩,List.Perm.refl _,HP.nil,λe he=>absurd he Lr⟩
def spHPut(CH:Addr):Sp:=λvs H Q _=>∃(b l:Addr) (m x tn:Int) (kt:List Kt),vs= [.ref b,.int m,.int x]/\HA CH H b l tn kt/\kt.length<=900/\∀H',FrA b l H H'->HA CH H' b l (tn+1) (kt++[⟨m,tn+1,x⟩])->Q .non H'
theorem ok_HPut(D:MethAt K CH "put" "HeapAgenda.put" gZ ["self","moment","thing"])(IG:Cls K CH)(II:NoAttr K CH "heap")(Jh:NoAttr K CH "turn")(KI:OkD P w K mg base 2 "rise" ["heap"] x8):OkM P w K mg base 3 CH "put" ["self","moment","thing"] (spHPut CH):=by
 refine D.ok IG lx (λvs H Q E h=>?_) (λf cdv A outer s H vs Q E hr h=>?_)
 ·obtain⟨_,_,_,_,_,_,rfl,_⟩:=h;rfl
 obtain⟨b,l,m,x,tn,kt,rfl,⟨dx,ps,h1,hl,pm,hp,ht⟩,hn,q⟩:=h
 have big:100000<=Nm:=by unfold Nm;decide
 have lp:ps.length=kt.length:=by have:=pm.length_eq;rw [Ln,Ln] at this;exact this
 have l1:=hl.1
 have nlb:l≠b:=λz=>by rw [z,h1] at l1;cases l1
 have tb:∀c xs,H c=some (.tup xs)->c≠b/\c≠l:=λc xs hc=>⟨λz=>(by rw [z,h1] at hc;cases hc),λz=>(by rw [z,l1] at hc;cases hc)⟩
 refine⟨_,(aa (aI IG Jh (pv 0) (az bc (ai IG Jh (pv 0)) ac)) (aa (aC (dv (ai IG II (pv 0)) (au (bJ (pv 1) (ai IG Jh (pv 0)) (pv 2))))) (ae (aC (aR KI hr rfl (aG (ai IG II (pv 0)))))))),?_⟩
 walk_at "rz"
 intro H1 m1
 have b1:=m1.at_
 have l2:=m1.old l1 nlb
 walk_at "rz"
 intro p H2 hp2 g2 h2
 have l3:=g2 _ _ l2
 have b2:=g2 _ _ b1
 walk_at "rz"
 refine⟨by rw [Ln];lia,λH3 m3=>?_⟩
 have npl:p≠l:=λz=>by rw [z,m1.old hl.1 nlb] at hp2;cases hp2
 have b3:=m3.old b2 (Ne.symm nlb)
 walk_at "rz"
 have tk:=λc xs hc=>m3.old (g2 _ _ (m1.old hc (tb c xs hc).1)) (tb c xs hc).2
 have hl3:HL H3 l (ps++[(p,[m,tn+1,x])]):=by
  refine⟨by rw [m3.at_,Lx];rfl,λr hr=>?_⟩
  rcases List.mem_append.mp hr with hr | hr
  ·exact tk _ _ (hl.2 r hr)
  ·rw [List.mem_singleton.mp hr]
   exact m3.old h2 npl
 refine⟨l,ps++[(p,[m,tn+1,x])],rfl,hl3,by simp,?_,λH4 ps' o4 hl4 pm4 hp4=>?_⟩
 ·have:=RI.snoc (q:=(p,[m,tn+1,x])) hp
  rw [show(ps++[(p,[m,tn+1,x])]).length-1=ps.length by simp]
  exact this
 ·walk_at "rz"
  refine q H4 (λc u n1 n2 hc=>o4 c u n2 (m3.old (g2 _ _ (m1.old hc n1)) n2)) ⟨dx,ps',o4 _ _ (Ne.symm nlb) b3,hl4,?_,hp4,λe he=>?_⟩
  ·have:=pm4.map (λx:It=>x.2)
   rw [Lx] at this
   apply this.trans
   rw [Lx]
   exact pm.append_right _
  ·rcases List.mem_append.mp he with he | he
   ·have:=ht e he;lia
   ·rw [List.mem_singleton.mp he];exact Int.le_refl _
def spHFst(CH:Addr):Sp:=λvs H Q _=>∃(b l:Addr) (tn:Int) (kt ok:List Kt),vs= [.ref b]/\HA CH H b l tn kt/\Srt kt ok/\Q (fst1 ok) H
theorem ok_HFst(D:MethAt K CH "first" "HeapAgenda.first" fU ["self"])(IG:Cls K CH)(II:NoAttr K CH "heap"):OkM P w K mg base 1 CH "first" ["self"] (spHFst CH):=by
 refine D.ok IG jR (λvs H Q E h=>?_) (λf cdv A outer s H vs Q E hr h=>?_)
 ·obtain⟨_,_,_,_,_,rfl,_⟩:=h;rfl
 obtain⟨b,l,tn,kt,ok,rfl,⟨dx,ps,h1,hl,pm,hp,ht⟩,so,q⟩:=h
 have l1:=hl.1
 refine⟨_,(aa (aJ (jT (d8 (ai IG II (pv 0)) (λ_=>rfl))) (ae (ax bV)) aA) (ae (ax (aq (aq (ai IG II (pv 0)) ac) ac)))),?_⟩
 walk_at "rz"
 refine⟨_,.inl ⟨_,SqL.of l1,rfl⟩,?_⟩
 cases ok with
 | nil=>
  have e0:=List.nil_perm.mp so.1
  subst e0
  cases ps with
  | cons _ _=>have:=pm.length_eq;cases this
  | nil=>
   exact q
 | cons e r=>
  obtain⟨q0,r0,rfl,hq0⟩:=Hm hp pm so rfl
  have a2:H q0.1=some (.tup [.int e.m,.int e.t,.int e.x]):=by have:=hl.2 q0 Ll;rw [hq0] at this;exact this
  rw [RC (by simp)]
  walk_at "rz"
  exact q
def spHTake(CH:Addr):Sp:=λvs H Q _=>∃(b l:Addr) (tn:Int) (kt:List Kt) (i:Nat) (e:Kt),vs= [.ref b]/\HA CH H b l tn kt/\Inc kt/\IsMi kt i e/\kt.length<=900/\∀H' p,FrA b l H H'->HA CH H' b l tn (kt.eraseIdx i)->H' p=some (.tup [.int e.m,.int e.x])->Q (.ref p) H'
theorem ok_HTake(D:MethAt K CH "take" "HeapAgenda.take" gm ["self"])(IG:Cls K CH)(II:NoAttr K CH "heap")(KJ:OkD P w K mg base 2 "sink" ["heap"] x9):OkM P w K mg base 3 CH "take" ["self"] (spHTake CH):=by
 refine D.ok IG bX (λvs H Q E h=>?_) (λf cdv A outer s H vs Q E hr h=>?_)
 ·obtain⟨_,_,_,_,_,_,rfl,_⟩:=h;rfl
 obtain⟨b,l,tn,kt,i,e,rfl,⟨dx,ps,h1,hl,pm,hp,ht⟩,ic,im,hn,q⟩:=h
 have big:100000<=Nm:=by unfold Nm;decide
 have lp:ps.length=kt.length:=by have:=pm.length_eq;rw [Ln,Ln] at this;exact this
 obtain⟨q0,r0,e0,hq0,pr⟩:=root hp pm ic im
 have a2:H q0.1=some (.tup [.int e.m,.int e.t,.int e.x]):=by have:=hl.2 q0 (by rw [e0];exact Ll);rw [hq0] at this;exact this
 have nb:b≠l:=λz=>by have:=hl.1;rw [<-z,h1] at this;cases this
 have tl:∀c xs,H c=some (.tup xs)->c≠l:=λc xs hc z=>by have:=hl.1;rw [<-z,hc] at this;cases this
 obtain⟨ini,z,ez⟩:∃ini z,ps=ini++[z]:=by
  refine⟨ps.dropLast,ps.getLast (by rw [e0];simp),(List.dropLast_concat_getLast _).symm⟩
 have l1:H l=some (.lst ((ini.map λq=>V.ref q.1)++[.ref z.1])):=by rw [hl.1,ez,Lx];rfl
 have at0:atI ((ini.map λq=>V.ref q.1)++[V.ref z.1]) 0=some (.ref q0.1):=by
  have:(ini.map λq=>V.ref q.1)++[V.ref z.1]=(q0::r0).map λq=>V.ref q.1:=by rw [<-e0,ez,Lx];rfl
  rw [this];exact Ba
 have era:∀e'∈kt.eraseIdx i,e'.t<=tn:=λe' he'=>ht e' (List.mem_of_mem_eraseIdx he')
 refine⟨_,(aa (de (aq (ai IG II (pv 0)) ac) (cb 3 rfl (aL (bw 1 bX) (aL (bw 2 bX) (aL (bw 3 bX) bZ))))) (aa (aQ 4 bX (w9 NR Om On ug (ai IG II (pv 0)))) (aa (aJ (d8 (ai IG II (pv 0)) (λ_=>rfl)) (aa (de (pv 4) (jV (ai IG II (pv 0)) ac fP)) (ae (aC (aR KJ hr rfl (aG (ai IG II (pv 0))))))) aA) (ae (ax (au (aD (pv 1) (pv 3)))))))),?_⟩
 walk_at "rz"
 refine⟨⟨_,SqL.of l1⟩,?_⟩
 walk_at "rz"
 refine⟨_,_,rfl,λH1 m1=>?_⟩
 have b1:=m1.old h1 nb
 have l2:=m1.at_
 have tk1:=λc xs hc=>m1.old hc (tl c xs hc)
 clear l1 at0 a2
 walk_at "rz"
 refine⟨_,.inl ⟨_,SqL.of l2,rfl⟩,?_⟩
 cases ini with
 | nil=>
  rw [RC (by simp)]
  walk_at "rz"
  intro p H2 hp2 g2 h2
  have er:r0= []:=by
   rw [ez] at e0
   injection e0 with x1 x2
   exact x2.symm
  subst er
  exact q H2 p (λc u n1 n2 hc=>g2 _ _ (m1.old hc n2)) ⟨dx,[],g2 _ _ b1,⟨g2 _ _ l2,λq hq=>absurd hq Lr⟩,pr,HP.nil,era⟩ h2
 | cons y ini'=>
  have ey:q0=y/\r0=ini'++[z]:=by
   rw [ez] at e0
   injection e0 with x1 x2
   exact⟨x1.symm,x2.symm⟩
  obtain⟨rfl,rfl⟩:=ey
  rw [RD (by simp)]
  walk_at "rz"
  refine⟨0,ixN_at (i:=0) (Nat.succ_pos _),λH2 m2=>?_⟩
  have b2:=m2.old b1 nb
  have l3:=m2.at_
  have tk2:=λc xs hc=>m2.old (tk1 c xs hc) (tl c xs hc)
  walk_at "rz"
  have hpi:HP (q0::ini'):=by
   have:=hp.init
   rw [ez,List.dropLast_concat] at this
   exact this
  have hm:∀r∈z::ini',r∈ps:=λr hr=>by
   rw [ez]
   rcases List.mem_cons.mp hr with y | y
   ·rw [y];simp
   ·simp [y]
  refine⟨l,z::ini',rfl,⟨l3,λr hr=>tk2 _ _ (hl.2 r (hm r hr))⟩,by simp,SI.root hpi,λH3 ps' o3 hl3 pm3 hp3=>?_⟩
  intro p H4 hp4 g4 h4
  refine q H4 p (λc u n1 n2 hc=>g4 _ _ (o3 c u n2 (m2.old (m1.old hc n2) n2))) ⟨dx,ps',g4 _ _ (o3 _ _ nb b2),hl3.same g4,?_,hp3,era⟩ h4
  refine((pm3.map (λx:It=>x.2)).trans ?_).trans pr
  rw [Ls,Lx]
  exact List.perm_append_comm (l₁:=[z.2])
def spHOrd(CH:Addr):Sp:=λvs H Q _=>∃(b l:Addr) (tn:Int),vs= [.ref b]/\HA CH H b l tn []/\∀r H',H r=none->Same H H'->H' r=some (.lst [])->Q (.ref r) H'
theorem ok_HOrd(D:MethAt K CH "in_order" "HeapAgenda.in_order" eI ["self"])(IG:Cls K CH)(II:NoAttr K CH "heap")(Jz:mg "sorted" =none):OkM P w K mg base 1 CH "in_order" ["self"] (spHOrd CH):=by
 refine D.ok IG iK (λvs H Q E h=>?_) (λf cdv A outer s H vs Q E hr h=>?_)
 ·obtain⟨_,_,_,rfl,_⟩:=h;rfl
 obtain⟨b,l,tn,rfl,⟨dx,ps,h1,hl,pm,hp,ht⟩,q⟩:=h
 cases List.map_eq_nil_iff.mp pm.eq_nil
 have l1:=hl.1
 refine⟨_,(ae (ax (cQ 3 ["moment","turn","thing"] [] (bp (gc (j8 rfl) Jz (aG (ai IG II (pv 0))))) (λn _ _ _ _=>(cb 3 rfl (aL (cY 0 n) (aL (cY 1 n) (aL (cY 2 n) bZ))))) (λ_ _ _ _=>cc) (λ_ _ _ _=>(au (aD (pv 0) (pv 2))))))),?_⟩
 apply br
 simp only [bU]
 walk_at "rz"
 refine⟨[],rfl,3,λq hq=>absurd hq Lr,by decide,λq hq=>absurd hq Lr,.nil,by decide,λS H1 qs hS g1 hS1 pq po=>?_⟩
 cases pq.eq_nil
 walk_at "rz"
 exact⟨⟨_,SqL.of hS1⟩,fC hS1 λD H' n g2 e=>q D H' (g1.free n) (g1.trans g2) e⟩
end
end K34.Ag
namespace K34
open PySem L2
end K34
namespace K34.Ag
open PySem L2
theorem FrA.g{a l:Addr}{H H':Hp}(f:FrA a l H H'):FrG [a,l] H H':=λc u n hc=>f c u (λz=>n (by rw [z];simp)) (λz=>n (by rw [z];simp)) hc
def prO(e:Kt):Int×Int:=(e.m,e.x)
def AO(CL CH:Addr)(H:Hp)(c:Bool)(a l:Addr)(O:List (Int×Int)):Prop:=∃kt ok,((c=true/\LA CL H a l kt)\/(c=false/\∃tn,HA CH H a l tn kt))/\Inc kt/\Srt kt ok/\ok.map prO=O
def SO(O:List (Int×Int)):Prop:=O.Pairwise λp q=>p.1<=q.1
def insO(O:List (Int×Int))(m x:Int):List (Int×Int):=O.takeWhile (λp=>decide (p.1<=m))++(m,x)::O.dropWhile (λp=>decide (p.1<=m))
theorem insO_len(O:List (Int×Int))(m x:Int):(insO O m x).length=O.length+1:=by
 unfold insO
 have:=congrArg List.length (LM (p:=λp:Int×Int=>decide (p.1<=m)) (l:=O))
 rw [Lq] at this
 rw [Lq,Lw]
 lia
theorem AO.ins(h:AO CL CH H c a l O):(∃dx fs,H a=some (.ins (if c then CL else CH) dx fs))/\∃xs,H l=some (.lst xs):=by
 obtain⟨kt,ok,⟨rfl,dx,ps,ok2,h1,h3,_⟩ | ⟨rfl,tn,dx,ps,h1,h3,_⟩,h2⟩:=h
 ·exact⟨⟨dx,_,h1⟩,_,h3.1⟩
 ·exact⟨⟨dx,_,h1⟩,_,h3.1⟩
theorem AO.put(h:(c=true/\LA CL H a l (kt++[⟨m,t,x⟩]))\/(c=false/\∃tn,HA CH H a l tn (kt++[⟨m,t,x⟩])))(ic:Inc kt)(so:Srt kt ok)(ht:∀e∈kt,e.t<t):AO CL CH H c a l (insO (ok.map prO) m x):=by
 have e0:=LM (p:=λe:Kt=>decide (e.m<=m)) (l:=ok)
 have e1:ok.take (ok.takeWhile λe=>decide (e.m<=m)).length=ok.takeWhile λe=>decide (e.m<=m):=by
  conv=>lhs;rw [<-e0]
  rw [e0]
  have:=List.take_left (l₁:=ok.takeWhile λe=>decide (e.m<=m)) (l₂:=ok.dropWhile λe=>decide (e.m<=m))
  rwa [e0] at this
 have e2:ok.drop (ok.takeWhile λe=>decide (e.m<=m)).length=ok.dropWhile λe=>decide (e.m<=m):=by
  have:=List.drop_left (l₁:=ok.takeWhile λe=>decide (e.m<=m)) (l₂:=ok.dropWhile λe=>decide (e.m<=m))
  rwa [e0] at this
 have kl:(ok.takeWhile λe=>decide (e.m<=m)).length<=ok.length:=by
  have:=congrArg List.length e0
  rw [Lq] at this;lia
 have so':=so.put (e:=⟨m,t,x⟩) (k:=(ok.takeWhile λe=>decide (e.m<=m)).length) ht kl (λj e hj he=>?_) (λj e hj he=>?_)
 ·refine⟨_,_,h,ic.snoc ht,so',?_⟩
  rw [e1,e2]
  unfold insO
  rw [List.takeWhile_map,List.dropWhile_map,Lx,Lx,LO]
  rfl
 ·have hm:e∈ok.takeWhile λe=>decide (e.m<=m):=by
   rw [<-e1]
   exact LC (i:=j) (by rw [List.getElem?_take_of_lt hj];exact he)
  have:=List.all_takeWhile (p:=λe:Kt=>decide (e.m<=m)) (l:=ok)
  rw [List.all_eq_true] at this
  exact of_decide_eq_true (this e hm)
 ·have hlt:=(List.getElem?_eq_some_iff.mp he).1
  have k1:(ok.takeWhile λe=>decide (e.m<=m)).length<ok.length:=by lia
  obtain⟨e',he'⟩:∃e',ok[(ok.takeWhile λe=>decide (e.m<=m)).length]? =some e':=⟨_,Lo k1⟩
  have h1:=so.mono he' he hj
  have h2:¬e'.m<=m:=λz=>by
   have hd:(ok.dropWhile λe=>decide (e.m<=m))[0]? =some e':=by rw [<-e2,Mo];exact he'
   cases w:ok.dropWhile λe=>decide (e.m<=m) with
   | nil=>rw [w] at hd;cases hd
   | cons f r=>
    rw [w] at hd
    cases hd
    have:=List.head?_dropWhile_not (λe:Kt=>decide (e.m<=m)) ok
    rw [w] at this
    simp at this
    lia
  show m<e.m
  lia
theorem LA.ao(h:LA CL H a l []):AO CL CH H true a l []:=⟨[],[],.inl ⟨rfl,h⟩,.nil,oH,rfl⟩
theorem HA.ao(h:HA CH H a l tn []):AO CL CH H false a l []:=⟨[],[],.inr ⟨rfl,tn,h⟩,.nil,oH,rfl⟩
theorem srt_mi(ic:Inc kt)(s:Srt kt (e::r)):∃i,IsMi kt i e:=by
 have hm:=s.1.mem_iff.mp Ll
 obtain⟨i,hi⟩:=List.mem_iff_getElem?.mp hm
 have pw:=List.pairwise_cons.mp s.2
 have all:∀e'∈kt,e'=e\/bef e e':=λe' he'=>by
  rcases List.mem_cons.mp (s.1.mem_iff.mpr he') with z | z
  ·exact .inl z
  ·exact .inr (pw.1 e' z)
 refine⟨i,hi,λj e' hj=>?_,λj e' hji hj=>?_⟩
 ·rcases all e' (LC hj) with z | z
  ·rw [z];exact Int.le_refl _
  ·unfold bef at z;lia
 ·have t:=ic.at hj hi hji
  rcases all e' (LC hj) with z | z
  ·rw [z] at t;lia
  ·unfold bef at z;lia
end K34.Ag
namespace K34.Wo
open PySem L2
inductive Tr | name (x:Str) | num (n:Int) | now
def Tr.toD:Tr->Nq
 | .name x=>.tuple [.str "name",.str x]
 | .num n=>.tuple [.str "number",.int n]
 | .now=>.tuple [.str "now"]
def ev(kvs:List (Key×V))(now:Int):Tr->Option Int
 | .name x=>match aZ kvs (.inr x) with
  | some (.int n)=>some n
  | _=>none
 | .num n=>some n
 | .now=>some now
section
variable{P:Np}{w:Nu}{K:MF}{mg:Str->Option Nk}{base:Heap}
def yd:Sp:=λvs H Q _=>∃(x:Str) (d:Addr) (kvs:List (Key×V)) (n:Int),vs= [.str x,.ref d]/\H d=some (.dK kvs)/\aZ kvs (.inr x)=some (.int n)/\∀r H',Same H H'->H' r=some (.tup [.int n,.non])->Q (.ref r) H'
theorem ok_name(D:DefAt K mg "worth_of_name" iB ["name","values"]):OkD P w K mg base 1 "worth_of_name" ["name","values"] yd:=by
 refine D.ok mx (λvs H Q E h=>?_) (λf cdv A outer s H vs Q E hr h=>?_)
 ·obtain⟨x,d,kvs,n,rfl,_⟩:=h;rfl
 obtain⟨x,d,kvs,n,rfl,hd,e,q⟩:=h
 have hu:=cJ hr
 refine⟨_,(aa (aJ (wL (BY hu (pv 0) (pv 1)) (by with_unfolding_all rfl)) (ae (ax (au (aD (cL hu (pv 1) (pv 0) (λ_ _=>rfl)) bV)))) aA) a6),?_⟩
 walk_at "rd"
 exact zd λp H1 hp g1 h1=>q _ _ g1 h1
def spW(K:MF):Sp:=λvs H Q _=>∃(v:V) (d:Addr) (kvs:List (Key×V)) (now own n:Int) (t:Tr),vs= [v,.ref d,.int now,.int own]/\Rp K H v t.toD/\H d=some (.dK kvs)/\ev kvs now t=some n/\∀r H',Same H H'->H' r=some (.tup [.int n,.non])->Q (.ref r) H'
theorem ok_worth(D:DefAt K mg "worth" uu ["e","values","now","own"])(JY:OkD P w K mg base 1 "worth_of_name" ["name","values"] yd):OkD P w K mg base 2 "worth" ["e","values","now","own"] (spW K):=by
 refine D.ok rX (λvs H Q E h=>?_) (λf cdv A outer s H vs Q E hr h=>?_)
 ·obtain⟨_,_,_,_,_,_,_,rfl,_⟩:=h;rfl
 obtain⟨v,d,kvs,now,own,n,t,rfl,hv,hd,e,q⟩:=h
 refine⟨_,(aa (aQ 4 rX (aq (pv 0) ac)) (aa (aJ (aO bz (pv 4) av) (ae (ax (au (aD (aq (pv 0) ac) bV)))) aA) (aa (aJ (aO bz (pv 4) av) (ae (ax (aR JY hr rfl (aD (aq (pv 0) ac) (pv 1))))) aA) (aa (aJ (aO bz (pv 4) av) (ae (ax (au (aD (pv 2) bV)))) aA) a6)))),?_⟩
 cases t with
 | num m=>
  cases e
  obtain⟨a,x,y,rfl,ha,hx,hy⟩:=Rp.tup2 hv
  cases hx.str_inv
  cases hy.int_inv
  walk_at "rd"
  exact λp H1 hp g1 h1=>q _ _ g1 h1
 | name z=>
  obtain⟨a,x,y,rfl,ha,hx,hy⟩:=Rp.tup2 hv
  cases hx.str_inv
  cases hy.str_inv
  walk_at "rd"
  refine⟨z,d,kvs,n,rfl,hd,?_,q⟩
  change (match aZ kvs (.inr z) with | some (.int n)=>some n | _=>none)=some n at e
  split at e
  ·rename_i n' e1;cases e;exact e1
  ·cases e
 | now=>
  cases e
  obtain⟨a,x,rfl,ha,hx⟩:=Rp.tup1 hv
  cases hx.str_inv
  walk_at "rd"
  exact λp H1 hp g1 h1=>q _ _ g1 h1
end
end K34.Wo
namespace K34
open PySem L2
abbrev Tr:=Wo.Tr
inductive Sm where
 | pl (w:Str) (k:Int) (ns:List Str) (es:List Tr)
def trD(t:Tr):Nq:=Wo.Tr.toD t
def smD:Sm->Nq
 | .pl w k ns es=>.tuple (.str w::.int k::(ns.map .str++es.map trD))
def bdD:List Sm->List Nq
 | []=>[]
 | s::r=>smD s::bdD r
def Sm.k:Sm->Int
 | .pl _ k _ _=>k
def Sm.w:Sm->Str
 | .pl w _ _ _=>w
def Sm.es:Sm->List Tr
 | .pl _ _ _ es=>es
def Sm.ns:Sm->List Str
 | .pl _ _ ns _=>ns
inductive Ot where
 | start (m:Int) (nm:Str) (xs:List Int)
def Ot.m:Ot->Int
 | .start m _ _=>m
def Ot.D:Ot->Nq
 | .start m nm xs=>.tuple [.int m,.str "start",.str nm,.tuple (xs.map .int)]
structure Pr where
 nms:List (Str×List Str)
 drw:List (Str×List Int)
 bds:List (Str×List Sm)
 out:List Ot
structure Hd where
 nm:Str
 row:Int
 kn:List (Str×Int)
structure YS where
 done:Nat
 beg:Nat
 now:Int
 hap:Int
 stm:Int
 pl:List (Str×Int)
 ag:List (Int×Int)
 ts:List (Str×TS)
 ss:List (Str×SS)
 hd:List (Int×Hd)
 lg:List Nq
 st:Option (List Nq)
def YS.sDone(s:YS)(n:Nat):YS:={s with done:=n}
def YS.sBeg(s:YS)(n:Nat):YS:={s with beg:=n}
def YS.sNow(s:YS)(n:Int):YS:={s with now:=n}
def YS.sHap(s:YS)(n:Int):YS:={s with hap:=n}
def YS.sStm(s:YS)(n:Int):YS:={s with stm:=n}
def YS.sAg(s:YS)(l:List (Int×Int)):YS:={s with ag:=l}
def YS.sTs(s:YS)(l:List (Str×TS)):YS:={s with ts:=l}
def YS.sHd(s:YS)(l:List (Int×Hd)):YS:={s with hd:=l}
def YS.sLg(s:YS)(l:List Nq):YS:={s with lg:=l}
def YS.sSt(s:YS)(o:Option (List Nq)):YS:={s with st:=o}
def Hd.sRow(d:Hd)(r:Int):Hd:={d with row:=r}
def bB{α:Type}(nm:Str):List (Str×α)->Option α
 | []=>none
 | p::r=>if p.1=nm then some p.2 else bB nm r
def hV{α:Type}(nm:Str)(x:α):List (Str×α)->List (Str×α)
 | []=>[]
 | p::r=>if p.1=nm then (p.1,x)::r else p::hV nm x r
def setH(n:Int)(x:Hd):List (Int×Hd)->List (Int×Hd)
 | []=>[]
 | p::r=>if p.1=n then (p.1,x)::r else p::setH n x r
def aT(n:Int):List (Int×Hd)->Option Hd
 | []=>none
 | p::r=>if p.1=n then some p.2 else aT n r
def YS.lay(s:YS)(n:Int)(ws:List Nq):YS:=s.sLg (s.lg++[.tuple (.int s.now::.int n::ws)])
def YS.put(s:YS)(m x:Int):YS:=s.sAg (Ag.insO s.ag m x)
abbrev Sv:=Int×Str×Int
def YS.wk(nm:Str)(s:YS)(i:Sv):YS:=(s.lay i.1 [.str i.2.1,.str nm,.int i.2.2]).put s.now i.1
def YS.wake(s:YS)(nm:Str)(its:List Sv):YS:=its.foldl (YS.wk nm) s
def YS.begin(P:Pr)(s:YS)(nm:Str)(xs:List Int):YS:=
 if s.beg=60 then s.sSt (some [.str "many"])
 else (((s.sBeg (s.beg+1)).sHd (s.hd++[((s.beg:Int)+1,Hd.mk nm 0 (((bB nm P.nms).getD []).zip xs))])).lay ((s.beg:Int)+1) [.str "begins",.str nm]).put s.now ((s.beg:Int)+1)
def YS.given(s:YS)(h:Int)(nm:Str)(n:Int)(sv:List Sv):YS:=(if 0<n then s.lay h [.str "gives",.str nm,.int n] else s).wake nm sv
def svT(its:List (Int×Int)):List Sv:=its.map λp=>(p.1,"takes",p.2)
def cS(h:Int)(t:TS):TS:=if 0<aV t.held h then (ci t h (aV t.held h)).2 else t
def dj(h:Int)(ts:List (Str×TS)):List (Str×Int×List Sv):=ts.filterMap λp=>if 0<aV p.2.held h then some (p.1,aV p.2.held h,svT (ci p.2 h (aV p.2.held h)).1) else none
def YS.gone(s:YS)(h:Int)(l:List (Str×Int×List Sv)):YS:=l.foldl (λs i=>s.given h i.1 i.2.1 i.2.2) s
def YS.endH(s:YS)(h:Int):YS:=(((s.sHd (s.hd.filter λp=>decide (p.1≠h))).lay h [.str "ends"]).sTs (s.ts.map λp=>(p.1,cS h p.2))).gone h (dj h s.ts)
def YS.had(s:YS)(h:Int)(_ nm:Str)(n:Int):Bool×List Sv×YS:=match bB nm s.ts with
 | none=>(false,[],s)
 | some t=>((cz t h n).1,[],s.sTs (hV nm (cz t h n).2 s.ts))
def sg(w:Str):Str:=if w= "take" then "takes" else if w= "put" then "puts" else "gets"
def YS.ask(s:YS)(h:Int)(w nm:Str)(n:Int):Bool×YS:=
 let r:=s.had h w nm n
 if r.1=true then (true,(r.2.2.lay h [.str (sg w),.str nm,.int n]).wake nm r.2.1) else (false,r.2.2.lay h [.str "queues",.str w,.str nm,.int n])
def YS.give(s:YS)(h:Int)(nm:Str)(n:Int):YS:=if 0<n then (match bB nm s.ts with
 | none=>s
 | some t=>(s.sTs (hV nm (ci t h n).2 s.ts)).given h nm (giv t h n) (svT (ci t h n).1)) else s
def YS.wait(s:YS)(h n:Int):YS:=(s.lay h [.str "waits",.int n]).put (s.now+n) h
def YS.deed(s:YS)(h:Int)(w:Str)(ns:List Str)(xs:List Int):Bool×YS:=
 let n:=xs.getD 0 0
 let a:=ns.getD 0 ""
 if w= "wait" then (false,s.wait h (if 0<n then n else 0))
 else if w= "take" then (if n<1 then (true,s) else s.ask h w a n)
 else
  let s':=if w= "give" then s.give h a n else s.lay h [.str "says",.str a,.int n]
  (s'.st.isNone,s')
abbrev cf:=List (List Sm×Nat)
def fL(bd:List Sm)(row:Int):Nat->List Sm->cf
 | _,[]=>[]
 | i,s::r=>if s.k=row then [(bd,i+1)] else fL bd row (i+1) r
def dC(bd:List Sm)(row:Int):cf:=if row=0 then [(bd,0)] else fL bd row 0 bd
def cy(p:cf):cf:=(p.reverse.dropWhile λx=>decide (x.2=x.1.length)).reverse
def dc(p:cf):Option Sm:=match (cy p).getLast? with
 | none=>none
 | some (b,i)=>b[i]?
def kW(p:cf):cf:=match p.getLast? with
 | none=>p
 | some (b,i)=>p.dropLast++[(b,i+1)]
def kvH(kn:List (Str×Int)):List (Key×V):=kn.map λp=>(Sum.inr p.1,V.int p.2)
def cA(kn:List (Str×Int))(now:Int):List Tr->List Int->Option (List Int)
 | [],a=>some a
 | e::r,a=>match Wo.ev (kvH kn) now e with
  | some n=>cA kn now r (a++[n])
  | none=>none
def YS.doS(s:YS)(h:Int)(d:Hd)(p:cf):Sm->Bool×YS×cf
 | .pl w _ ns es=>match cA d.kn s.now es [] with
  | none=>(false,s,p)
  | some xs=>let r:=s.deed h w ns xs;(r.1,r.2,kW p)
def YS.goOn(h:Int):Nat->YS->cf->YS
 | 0,s,_=>s
 | f+1,s,p=>match dc p,aT h s.hd with
  | none,_=>s.endH h
  | _,none=>s
  | some m,some d=>if s.stm=100 then s.sSt (some [.str "endless",.int h]) else
   let s1:=(s.sStm (s.stm+1)).sHd (setH h (d.sRow m.k) s.hd)
   let r:=s1.doS h (d.sRow m.k) (cy p) m
   if r.1=true then YS.goOn h f r.2.1 r.2.2 else r.2.1
def YS.first(s:YS):Option Int:=s.ag.head?.map (·.1)
def YS.outNext(P:Pr)(s:YS):Bool:=match P.out[s.done]? with
 | none=>false
 | some o=>match s.first with
  | none=>true
  | some m=>decide (o.m<=m)
def YS.next(P:Pr)(s:YS):Option Int:=if s.st.isSome=true then none else if s.outNext P=true then (P.out[s.done]?).map Ot.m else s.first
def YS.doOut(P:Pr)(s:YS):YS:=match P.out[s.done]? with
 | none=>s
 | some (.start _ nm xs)=>(s.sDone (s.done+1)).begin P nm xs
def YS.goF(P:Pr)(s:YS)(h:Int):YS:=match aT h s.hd with
 | none=>s
 | some d=>s.goOn h 102 (dC ((bB d.nm P.bds).getD []) d.row)
def YS.step(P:Pr)(s:YS):YS:=match s.next P with
 | none=>s
 | some m=>
  let s:=if s.now<m then (s.sNow m).sHap 0 else s
  if s.hap=500 then s.sSt (some [.str "long"]) else
  let s:=s.sHap (s.hap+1)
  if s.outNext P=true then s.doOut P else
  match s.ag with
  | []=>s
  | (_,h)::r=>((s.sAg r).sStm 0).goF P h
def tp(H:Hp):Hp:=λa=>match H a with
 | some (.tup xs)=>some (.tup xs)
 | _=>none
theorem fh(h:H a=some (.tup xs)):tp H a=some (.tup xs):=by unfold tp;rw [h]
theorem nL(h:tp H a=some o):∃xs,o= .tup xs/\H a=some (.tup xs):=by
 unfold tp at h
 split at h
 ·rename_i xs e;cases h;exact⟨xs,rfl,e⟩
 ·cases h
def Kt(H H':Hp):Prop:=∀c xs,H c=some (.tup xs)->H' c=some (.tup xs)
theorem Kt.tp(k:Kt H H'):Same (tp H) (tp H'):=λa o h=>by
 obtain⟨xs,rfl,e⟩:=nL h
 exact fh (k _ _ e)
theorem tp_same:Same (tp H) H:=λa o h=>by
 obtain⟨xs,rfl,e⟩:=nL h
 exact e
theorem Kt.trans(k:Kt H H')(k':Kt H' H''):Kt H H'':=λc xs h=>k' c xs (k c xs h)
theorem Kt.of(g:Same H H'):Kt H H':=λ_ _ h=>g _ _ h
section
variable{K:MF}
abbrev Fz(K:MF)(H:Hp)(v:V)(d:Nq):Prop:=Rp K (tp H) v d
abbrev FzL(K:MF)(H:Hp)(vs:List V)(ds:List Nq):Prop:=RpL K (tp H) vs ds
theorem bj(k:Kt H H')(h:Fz K H v d):Fz K H' v d:=Rp.mono k.tp h
theorem bi(k:Kt H H')(h:FzL K H vs ds):FzL K H' vs ds:=RpL.mono k.tp h
theorem dO:∀{vs ws:List V} {ds es:List Nq},RpL K H vs ds->RpL K H ws es->RpL K H (vs++ws) (ds++es):=by
 intro vs
 induction vs with
 | nil=>intro ws ds es h1 h2;cases h1;exact h2
 | cons v vs ih=>intro ws ds es h1 h2;cases h1 with | cons a b=>exact .cons a (ih b h2)
structure CA where
 l:Addr
 h:Addr
 g:Addr
 t:Addr
 s:Addr
 y:Addr
 d:Addr
structure Ce where
 y:Addr
 dx:Addr
 dn:Addr
 dd:Addr
 dp:Addr
 db:Addr
 to:Addr
 kd:Bool
 ag:Addr
 al:Addr
 g:Addr
 dt:Addr
 ds:Addr
 es:List Ent
 dh:Addr
 ll:Addr
 hs:List (Int×Addr×Addr)
 sv:V
def Ce.sSv(c:Ce)(v:V):Ce:={c with sv:=v}
def Ce.sHs(c:Ce)(l:List (Int×Addr×Addr)):Ce:={c with hs:=l}
def Ce.sG(c:Ce)(es:List Ent):Ce:={c with es:=es}
def aM(c:Ce)(s:YS):List (Str×V):=[("names",.ref c.dn),("drawn",.ref c.dd),("places",.ref c.dp),("outer",.ref c.to),("outer_done",.int s.done),("agenda",.ref c.ag),("goods",.ref c.g),("hands",.ref c.dh),("begun",.int s.beg),("now",.int s.now),("happenings",.int s.hap),("statements",.int s.stm),("laid",.ref c.ll),("stopped",c.sv),("bodies",.ref c.db)]
def stD:Option (List Nq)->Nq
 | none=>.none
 | some ds=>.tuple ds
def hdF(n:Int)(d:Hd)(kd:Addr):List (Str×V):=[("number",.int n),("name",.str d.nm),("row",.int d.row),("known",.ref kd)]
def HdO(C:CA)(H:Hp)(n:Int)(ho kd:Addr)(d:Hd):Prop:=(∃dx,H ho=some (.ins C.d dx (hdF n d kd)))/\H kd=some (.dK (kvH d.kn))
inductive HdL (C:CA) (H:Hp):List (Int×Addr×Addr)->List (Int×Hd)->Prop
 | nil:HdL C H [] []
 | cons {n:Int} {ho kd:Addr} {d:Hd} {hs:List (Int×Addr×Addr)} {ds:List (Int×Hd)}:HdO C H n ho kd d->HdL C H hs ds->HdL C H ((n,ho,kd)::hs) ((n,d)::ds)
inductive TbL {α:Type} (K:MF) (H:Hp) (F:α->List Nq):List (Key×V)->List (Str×α)->Prop
 | nil:TbL K H F [] []
 | cons {x:Str} {a:α} {v:V} {kv:List (Key×V)} {l:List (Str×α)}:Fz K H v (.tuple (F a))->TbL K H F kv l->TbL K H F ((Sum.inr x,v)::kv) ((x,a)::l)
theorem TbL.kt{F:α->List Nq}{l:List (Str×α)}(k:Kt H H')(h:TbL K H F kv l):TbL K H' F kv l:=by
 induction h with
 | nil=>exact .nil
 | cons a _ ih=>exact .cons (bj k a) ih
def hoT(n:Int):Nat:=8+2*n.toNat
def kdT(n:Int):Nat:=9+2*n.toNat
def nt:HO->Prop
 | .tup _=>False
 | _=>True
def gcs(c:Ce):List Addr:=c.g::c.dt::c.ds::adE c.es
structure Tg(H:Hp)(c:Ce)(tg:Addr->Nat):Prop where
 y:tg c.y=1
 st:tg c.dn=2/\tg c.dd=2/\tg c.db=2
 p:tg c.dp=3
 l:tg c.ll=4
 a:tg c.ag=5/\tg c.al=5
 g:∀a∈gcs c,tg a=6
 dh:tg c.dh=7
 hd:∀h∈c.hs,tg h.2.1=hoT h.1/\tg h.2.2=kdT h.1
 own:∀a,tg a≠0->∃o,H a=some o/\nt o
structure Yd(C:CA)(K:MF)(P:Pr)(H:Hp)(c:Ce)(s:YS)(tg:Addr->Nat):Prop where
 obj:H c.y=some (.ins C.y c.dx (aM c s))
 nm:∃kv,H c.dn=some (.dK kv)/\TbL K H (λl:List Str=>l.map .str) kv P.nms
 dr:∃kv,H c.dd=some (.dK kv)/\TbL K H (λl:List Int=>l.map .int) kv P.drw
 bd:∃kv,H c.db=some (.dK kv)/\TbL K H bdD kv P.bds
 to:∃vs,H c.to=some (.tup vs)/\FzL K H vs (P.out.map Ot.D)
 pl:H c.dp=some (.dK (s.pl.map λp=>(Sum.inr p.1,.int p.2)))
 ag:Ag.AO C.l C.h H c.kd c.ag c.al s.ag
 go:GoA C.g C.t H c.g c.dt c.ds c.es
 ts:c.es.map (λe=>(e.name,e.t))=s.ts
 dh:H c.dh=some (.dK (c.hs.map λh=>(Sum.inl h.1,.ref h.2.1)))
 hd:HdL C H c.hs s.hd
 lg:∃vs,H c.ll=some (.lst vs)/\FzL K H vs s.lg
 sv:Fz K H c.sv (stD s.st)
 tg:Tg H c tg
def Gr(H:Hp)(tg:Addr->Nat)(H':Hp)(tg':Addr->Nat):Prop:=(∀a o,tg a=0->H a=some o->H' a=some o)/\∀a,tg' a≠0->tg a≠0\/H a=none
theorem Gr.refl:Gr H tg H tg:=⟨λ_ _ _ h=>h,λ_ h=>.inl h⟩
theorem Gr.trans(g:Gr H tg H' tg')(g':Gr H' tg' H'' tg''):Gr H tg H'' tg'':=by
 refine⟨λa o h e=>g'.1 a o ?_ (g.1 a o h e),λa h=>?_⟩
 ·rcases LR (tg' a) with z | z
  ·exact z
  ·rcases g.2 a (L5 z) with q | q
   ·exact absurd h q
   ·rw [e] at q;cases q
 ·rcases g'.2 a h with q | q
  ·exact g.2 a q
  ·rcases LR (tg a) with z | z
   ·cases e:H a with
    | none=>exact .inr rfl
    | some o=>rw [g.1 a o z e] at q;cases q
   ·exact .inl (L5 z)
theorem Gr.same(g:Gr H tg H' tg')(k:Same H' H''):Gr H tg H'' tg':=⟨λa o h e=>k _ _ (g.1 a o h e),g.2⟩
def FrT(T:Nat->Prop)(tg:Addr->Nat)(H H':Hp):Prop:=∀a o,¬T (tg a)->H a=some o->H' a=some o
variable{C:CA}{P:Pr}{H H':Hp}{c:Ce}{s:YS}{tg:Addr->Nat}{T:Nat->Prop}
theorem Tg.tup(g:Tg H c tg){a:Addr}(h:H a=some (.tup xs)):tg a=0:=by
 rcases LR (tg a) with z | z
 ·exact z
 ·obtain⟨o,e,n⟩:=g.own a (L5 z)
  rw [h] at e;cases e;exact n.elim
theorem Tg.off(g:Tg H c tg){a:Addr}(h:H a=none):tg a=0:=by
 rcases LR (tg a) with z | z
 ·exact z
 ·obtain⟨o,e,n⟩:=g.own a (L5 z)
  rw [h] at e;cases e
theorem FrT.kt(f:FrT T tg H H')(g:Tg H c tg)(z:¬T 0):Kt H H':=λa xs h=>f a _ (by rw [g.tup h];exact z) h
theorem FrT.gr(f:FrT T tg H H')(z:¬T 0):Gr H tg H' tg:=⟨λa o h e=>f a o (by rw [h];exact z) e,λa h=>.inl h⟩
theorem FrT.same(k:Same H H'):FrT T tg H H':=λ_ _ _ e=>k _ _ e
theorem HdO.fr(h:HdO C H n ho kd d)(k:∀o,H ho=some o->H' ho=some o)(k':∀o,H kd=some o->H' kd=some o):HdO C H' n ho kd d:=by
 obtain⟨⟨dx,h1⟩,h2⟩:=h
 exact⟨⟨dx,k _ h1⟩,k' _ h2⟩
theorem HdL.fr{hs:List (Int×Addr×Addr)}(h:HdL C H hs ds)(k:∀x∈hs,∀a,a=x.2.1\/a=x.2.2->∀o,H a=some o->H' a=some o):HdL C H' hs ds:=by
 induction h with
 | nil=>exact .nil
 | cons a _ ih=>exact .cons (a.fr (k _ (Ll ..) _ (.inl rfl)) (k _ (Ll ..) _ (.inr rfl))) (ih λx hx=>k x (Lm _ hx))
theorem qD(h:Ag.AO CL CH H b a l O)(g:∀c u,(c=a\/c=l\/∃xs,u=HO.tup xs)->H c=some u->H' c=some u):Ag.AO CL CH H' b a l O:=by
 obtain⟨kt,ok,h1,h2⟩:=h
 exact⟨kt,ok,h1.imp (λh=>⟨h.1,h.2.fr g⟩) (λz=>by obtain⟨e,tn,h⟩:=z;exact⟨e,tn,h.fr g⟩),h2⟩
theorem Yd.objF(Y:Yd C K P H c s tg)(f:FrT T tg H H')(z:¬T 1):H' c.y=some (.ins C.y c.dx (aM c s)):=f _ _ (by rw [Y.tg.y];exact z) Y.obj
theorem Yd.plF(Y:Yd C K P H c s tg)(f:FrT T tg H H')(z:¬T 3):H' c.dp=some (.dK (s.pl.map λp=>(Sum.inr p.1,.int p.2))):=f _ _ (by rw [Y.tg.p];exact z) Y.pl
theorem Yd.lgF(Y:Yd C K P H c s tg)(f:FrT T tg H H')(z0:¬T 0)(z:¬T 4):∃vs,H' c.ll=some (.lst vs)/\FzL K H' vs s.lg:=by
 obtain⟨vs,h,r⟩:=Y.lg
 exact⟨vs,f _ _ (by rw [Y.tg.l];exact z) h,bi (f.kt Y.tg z0) r⟩
theorem Yd.agF(Y:Yd C K P H c s tg)(f:FrT T tg H H')(z0:¬T 0)(z:¬T 5):Ag.AO C.l C.h H' c.kd c.ag c.al s.ag:=qD Y.ag λa u h e=>by
 rcases h with rfl | rfl | ⟨xs,rfl⟩
 ·exact f _ _ (by rw [Y.tg.a.1];exact z) e
 ·exact f _ _ (by rw [Y.tg.a.2];exact z) e
 ·exact f.kt Y.tg z0 _ _ e
theorem Yd.goF(Y:Yd C K P H c s tg)(f:FrT T tg H H')(z0:¬T 0)(z:¬T 6):GoA C.g C.t H' c.g c.dt c.ds c.es:=Y.go.grow λa u h e=>by
 rcases h with h | ⟨xs,rfl⟩
 ·exact f _ _ (by rw [Y.tg.g a h];exact z) e
 ·exact f.kt Y.tg z0 _ _ e
theorem Yd.dhF(Y:Yd C K P H c s tg)(f:FrT T tg H H')(z:¬T 7):H' c.dh=some (.dK (c.hs.map λh=>(Sum.inl h.1,.ref h.2.1))):=f _ _ (by rw [Y.tg.dh];exact z) Y.dh
theorem Yd.hdF(Y:Yd C K P H c s tg)(f:FrT T tg H H')(z:∀n,8<=n->¬T n):HdL C H' c.hs s.hd:=Y.hd.fr λx hx a ha o e=>by
 obtain⟨h1,h2⟩:=Y.tg.hd x hx
 rcases ha with rfl | rfl
 ·exact f _ _ (by rw [h1];exact z _ (by unfold hoT;lia)) e
 ·exact f _ _ (by rw [h2];exact z _ (by unfold kdT;lia)) e
structure Sta(K:MF)(P:Pr)(H:Hp)(c:Ce):Prop where
 nm:∃kv,H c.dn=some (.dK kv)/\TbL K H (λl:List Str=>l.map .str) kv P.nms
 dr:∃kv,H c.dd=some (.dK kv)/\TbL K H (λl:List Int=>l.map .int) kv P.drw
 bd:∃kv,H c.db=some (.dK kv)/\TbL K H bdD kv P.bds
 to:∃vs,H c.to=some (.tup vs)/\FzL K H vs (P.out.map Ot.D)
theorem Yd.staF(Y:Yd C K P H c s tg)(f:FrT T tg H H')(z0:¬T 0)(z:¬T 2):Sta K P H' c:=by
 have k:=f.kt Y.tg z0
 obtain⟨t1,t2,t3⟩:=Y.tg.st
 obtain⟨k1,h1,r1⟩:=Y.nm
 obtain⟨k2,h2,r2⟩:=Y.dr
 obtain⟨k3,h3,r3⟩:=Y.bd
 obtain⟨vs,h4,r4⟩:=Y.to
 exact⟨⟨k1,f _ _ (by rw [t1];exact z) h1,r1.kt k⟩,⟨k2,f _ _ (by rw [t2];exact z) h2,r2.kt k⟩,⟨k3,f _ _ (by rw [t3];exact z) h3,r3.kt k⟩,⟨vs,k _ _ h4,bi k r4⟩⟩
theorem Tg.fr(g:Tg H c tg)(f:FrT T tg H H')(o:∀a,T (tg a)->tg a≠0->∃o,H' a=some o/\nt o):Tg H' c tg:=⟨g.y,g.st,g.p,g.l,g.a,g.g,g.dh,g.hd,λa h=>by
 by_cases z:T (tg a)
 ·exact o a z h
 ·obtain⟨u,e,n⟩:=g.own a h
  exact⟨u,f _ _ z e,n⟩⟩
end
end K34
namespace L2
open PySem
def spG{A:Type}(args:A->List V)(pre:A->Hp->Prop)(post:A->Hp->V->Hp->Prop):Sp:=λvs H Q _=>∃a,vs=args a/\pre a H/\∀v H',post a H v H'->Q v H'
section
variable{P:Np}{w:Nu}{K:MF}{mg:Str->Option Nk}{base:Heap}{A:Type}{args:A->List V}{pre:A->Hp->Prop}{post:A->Hp->V->Hp->Prop}{N ps:List Str}{k:Nat}{st:Stmt}
theorem MethAt.okG(D:MethAt K C m q st ps)(cl:Cls K C)(sc:am N ps (aj st))(hl:∀a,(args a).length=ps.length)
 (body:∀(a:A) (f:Addr) (cdv:Nk) (A':Nw) (outer:List Env) (s:Nn) (H:Hp) (Q:VK) (E:XK),Room k (A'.deeper (N0 q (aj st) s.heap.objs.size f cdv))->pre a H->(∀v H',post a H v H'->Q v H')->∃t,PSs (eU CX0 P w K mg base N q (aj st) f cdv A' outer s H E).nox (bS st) t/\t {nx:=λ_ H'=>Q V.non H',rt:=Q} (start N (args a)) H):
 OkM P w K mg base (k+1) C m ps (spG args pre post):=by
 refine D.ok cl sc (λvs H Q E h=>?_) (λf cdv A' outer s H vs Q E hr h=>?_)
 ·obtain⟨a,rfl,_⟩:=h;exact hl a
 ·obtain⟨a,rfl,p,q⟩:=h;exact body a f cdv A' outer s H Q E hr p q
theorem DefAt.okG(D:DefAt K mg x st ps)(sc:am N ps (aj st))(hl:∀a,(args a).length=ps.length)
 (body:∀(a:A) (f:Addr) (cdv:Nk) (A':Nw) (outer:List Env) (s:Nn) (H:Hp) (Q:VK) (E:XK),Room k (A'.deeper (N0 x (aj st) s.heap.objs.size f cdv))->pre a H->(∀v H',post a H v H'->Q v H')->∃t,PSs (eU CX0 P w K mg base N x (aj st) f cdv A' outer s H E).nox (bS st) t/\t {nx:=λ_ H'=>Q V.non H',rt:=Q} (start N (args a)) H):
 OkD P w K mg base (k+1) x ps (spG args pre post):=by
 refine D.ok sc (λvs H Q E h=>?_) (λf cdv A' outer s H vs Q E hr h=>?_)
 ·obtain⟨a,rfl,_⟩:=h;exact hl a
 ·obtain⟨a,rfl,p,q⟩:=h;exact body a f cdv A' outer s H Q E hr p q
end
end L2
namespace K34
open PySem L2
section
variable{K:MF}{C:CA}{P:Pr}{H H':Hp}{c:Ce}{s:YS}{tg:Addr->Nat}{T:Nat->Prop}
theorem Aa:List.lookup (α:=Str) (β:=V) "names" (aM c s)=some (.ref c.dn):=rfl
theorem Ab:List.lookup (α:=Str) (β:=V) "drawn" (aM c s)=some (.ref c.dd):=rfl
theorem ye:List.lookup (α:=Str) (β:=V) "places" (aM c s)=some (.ref c.dp):=rfl
theorem Ac:List.lookup (α:=Str) (β:=V) "outer" (aM c s)=some (.ref c.to):=rfl
theorem qi:List.lookup (α:=Str) (β:=V) "outer_done" (aM c s)=some (.int s.done):=rfl
theorem yf:List.lookup (α:=Str) (β:=V) "agenda" (aM c s)=some (.ref c.ag):=rfl
theorem Ad:List.lookup (α:=Str) (β:=V) "goods" (aM c s)=some (.ref c.g):=rfl
theorem Ae:List.lookup (α:=Str) (β:=V) "hands" (aM c s)=some (.ref c.dh):=rfl
theorem Af:List.lookup (α:=Str) (β:=V) "begun" (aM c s)=some (.int s.beg):=rfl
theorem FS:List.lookup (α:=Str) (β:=V) "now" (aM c s)=some (.int s.now):=rfl
theorem qj:List.lookup (α:=Str) (β:=V) "happenings" (aM c s)=some (.int s.hap):=rfl
theorem qk:List.lookup (α:=Str) (β:=V) "statements" (aM c s)=some (.int s.stm):=rfl
theorem CJ:List.lookup (α:=Str) (β:=V) "laid" (aM c s)=some (.ref c.ll):=rfl
theorem wc:List.lookup (α:=Str) (β:=V) "stopped" (aM c s)=some (c.sv):=rfl
theorem yg:List.lookup (α:=Str) (β:=V) "bodies" (aM c s)=some (.ref c.db):=rfl
theorem qm{n:Nat}:bM "outer_done" (.int ((n:Nat):Int)) (aM c s)=aM c (s.sDone n):=rfl
theorem Ah{n:Nat}:bM "begun" (.int ((n:Nat):Int)) (aM c s)=aM c (s.sBeg n):=rfl
theorem FT{n:Int}:bM "now" (.int n) (aM c s)=aM c (s.sNow n):=rfl
theorem qo{n:Int}:bM "happenings" (.int n) (aM c s)=aM c (s.sHap n):=rfl
theorem qp{n:Int}:bM "statements" (.int n) (aM c s)=aM c (s.sStm n):=rfl
theorem we{n:V}:bM "stopped" (n) (aM c s)=aM (c.sSv n) s:=rfl
theorem FU:(aM c s).length<1000:=by show 15<1000;decide
theorem oI:List.lookup (α:=Str) (β:=V) "next_moment" (aM c s)=none:=rfl
theorem mz:List.lookup (α:=Str) (β:=V) "outer_is_next" (aM c s)=none:=rfl
theorem CK:List.lookup (α:=Str) (β:=V) "step" (aM c s)=none:=rfl
theorem tQ:List.lookup (α:=Str) (β:=V) "do_outer" (aM c s)=none:=rfl
theorem Ai:List.lookup (α:=Str) (β:=V) "go_on" (aM c s)=none:=rfl
theorem yh:List.lookup (α:=Str) (β:=V) "moment" (aM c s)=none:=rfl
theorem FV:List.lookup (α:=Str) (β:=V) "log" (aM c s)=none:=rfl
theorem yi:List.lookup (α:=Str) (β:=V) "logged" (aM c s)=none:=rfl
theorem FW:List.lookup (α:=Str) (β:=V) "end" (aM c s)=none:=rfl
theorem CM:List.lookup (α:=Str) (β:=V) "view" (aM c s)=none:=rfl
theorem CN:List.lookup (α:=Str) (β:=V) "kept" (aM c s)=none:=rfl
theorem Aj:List.lookup (α:=Str) (β:=V) "stand" (aM c s)=none:=rfl
theorem FX:List.lookup (α:=Str) (β:=V) "lay" (aM c s)=none:=rfl
theorem CO:List.lookup (α:=Str) (β:=V) "wake" (aM c s)=none:=rfl
theorem Ak:List.lookup (α:=Str) (β:=V) "begin" (aM c s)=none:=rfl
theorem tR:List.lookup (α:=Str) (β:=V) "end_hand" (aM c s)=none:=rfl
theorem sj:List.lookup (α:=Str) (β:=V) "lay_given" (aM c s)=none:=rfl
theorem kG:List.lookup (α:=Str) (β:=V) "enter_statement" (aM c s)=none:=rfl
theorem wf:List.lookup (α:=Str) (β:=V) "stop_by" (aM c s)=none:=rfl
theorem CP:List.lookup (α:=Str) (β:=V) "deed" (aM c s)=none:=rfl
theorem CQ:List.lookup (α:=Str) (β:=V) "wait" (aM c s)=none:=rfl
theorem FY:List.lookup (α:=Str) (β:=V) "ask" (aM c s)=none:=rfl
theorem CS:List.lookup (α:=Str) (β:=V) "give" (aM c s)=none:=rfl
theorem CU:List.lookup (α:=Str) (β:=V) "draw" (aM c s)=none:=rfl
theorem Hn:List.lookup (α:=Str) (β:=V) "do" (aM c s)=none:=rfl
theorem yj:List.lookup (α:=Str) (β:=V) "reckon" (aM c s)=none:=rfl
theorem Al:bM "outer_done" (.int ((s.done:Int)+1)) (aM c s)=aM c (s.sDone (s.done+1)):=rfl
theorem CV:bM "begun" (.int ((s.beg:Int)+1)) (aM c s)=aM c (s.sBeg (s.beg+1)):=rfl
theorem FZ:(hdF n d kd).length<1000:=by show 4<1000;decide
theorem yk{n:Int}{d:Hd}{kd:Addr}:List.lookup (α:=Str) (β:=V) "number" (hdF n d kd)=some (.int n):=rfl
theorem CY{n:Int}{d:Hd}{kd:Addr}:List.lookup (α:=Str) (β:=V) "name" (hdF n d kd)=some (.str d.nm):=rfl
theorem F0{n:Int}{d:Hd}{kd:Addr}:List.lookup (α:=Str) (β:=V) "row" (hdF n d kd)=some (.int d.row):=rfl
theorem Am{n:Int}{d:Hd}{kd:Addr}:List.lookup (α:=Str) (β:=V) "known" (hdF n d kd)=some (.ref kd):=rfl
theorem F1{n r:Int}{d:Hd}{kd:Addr}:bM "row" (.int r) (hdF n d kd)=hdF n (d.sRow r) kd:=rfl
theorem Tg.frG(g:Tg H c tg)(f:FrG cs H H')(n:∀a∈cs,∃o,H' a=some o/\nt o):Tg H' c tg:=⟨g.y,g.st,g.p,g.l,g.a,g.g,g.dh,g.hd,λa h=>by
 by_cases z:a∈cs
 ·exact n a z
 ·obtain⟨u,e,q⟩:=g.own a h
  exact⟨u,f _ _ z e,q⟩⟩
theorem FrG.t(f:FrG cs H H')(h:∀a∈cs,T (tg a)):FrT T tg H H':=λa o n e=>f a o (λz=>n (h a z)) e
theorem oJ(m:Mu H a o H'):FrG [a] H H':=λb u n e=>m.old e λz=>n (by rw [z];exact LL _)
theorem nM(m:Mu H a o H')(h:nt o):∀b∈[a],∃o,H' b=some o/\nt o:=λb hb=>by rw [List.mem_singleton.mp hb];exact⟨o,m.at_,h⟩
theorem sk(m:Mu H a o H')(h:tg a=t):FrT (· =t) tg H H':=(oJ m).t λb hb=>by rw [List.mem_singleton.mp hb];exact h
theorem Yd.same(Y:Yd C K P H c s tg)(k:Same H H'):Yd C K P H' c s tg:=by
 have f:FrT (λ_=>False) tg H H':=.same k
 have z:∀n,¬(λ_:Nat=>False) n:=λ_ h=>h
 have S:=Y.staF f (z 0) (z 2)
 exact⟨Y.objF f (z 1),S.nm,S.dr,S.bd,S.to,Y.plF f (z 3),Y.agF f (z 0) (z 5),Y.goF f (z 0) (z 6),Y.ts,Y.dhF f (z 7),Y.hdF f (λn _=>z n),Y.lgF f (z 0) (z 4),bj (Kt.of k) Y.sv,Y.tg.fr f λ_ h=>h.elim⟩
theorem cG(k:Same H H'):Gr H tg H' tg:=Gr.refl.same k
theorem Yd.setY(Y:Yd C K P H c s tg)(m:Mu H c.y (.ins C.y c.dx (aM c s')) H')(e:s'.pl=s.pl/\s'.ag=s.ag/\s'.ts=s.ts/\s'.ss=s.ss/\s'.hd=s.hd/\s'.lg=s.lg/\s'.st=s.st):Yd C K P H' c s' tg/\Gr H tg H' tg:=by
 have f:=sk m Y.tg.y
 have z:¬(0=1):=by decide
 have S:=Y.staF f z (by decide)
 obtain⟨e1,e2,e3,e4,e5,e6,e7⟩:=e
 refine⟨⟨m.at_,S.nm,S.dr,S.bd,S.to,?_,?_,Y.goF f z (by decide),Y.ts.trans e3.symm,Y.dhF f (by decide),?_,?_,?_,Y.tg.frG (oJ m) (nM m trivial)⟩,f.gr z⟩
 ·rw [e1];exact Y.plF f (by decide)
 ·rw [e2];exact Y.agF f z (by decide)
 ·rw [e5];exact Y.hdF f λn h=>by lia
 ·rw [e6];exact Y.lgF f z (by decide)
 ·rw [e7];exact bj (f.kt Y.tg z) Y.sv
theorem Yd.setS(Y:Yd C K P H c s tg)(m:Mu H c.y (.ins C.y c.dx (aM (c.sSv v) s)) H')(fz:Fz K H v (stD o)):Yd C K P H' (c.sSv v) (s.sSt o) tg/\Gr H tg H' tg:=by
 have f:=sk m Y.tg.y
 have z:¬(0=1):=by decide
 have S:=Y.staF f z (by decide)
 have g:=Y.tg.frG (oJ m) (nM m trivial)
 exact⟨⟨m.at_,S.nm,S.dr,S.bd,S.to,Y.plF f (by decide),Y.agF f z (by decide),Y.goF f z (by decide),Y.ts,Y.dhF f (by decide),Y.hdF f (λn h=>by lia),Y.lgF f z (by decide),bj (f.kt Y.tg z) fz,⟨g.y,g.st,g.p,g.l,g.a,g.g,g.dh,g.hd,g.own⟩⟩,f.gr z⟩
theorem Yd.setL(Y:Yd C K P H c s tg)(m:Mu H c.ll (.lst vs) H')(r:FzL K H vs l):Yd C K P H' c (s.sLg l) tg/\Gr H tg H' tg:=by
 have f:=sk m Y.tg.l
 have z:¬(0=4):=by decide
 have S:=Y.staF f z (by decide)
 exact⟨⟨Y.objF f (by decide),S.nm,S.dr,S.bd,S.to,Y.plF f (by decide),Y.agF f z (by decide),Y.goF f z (by decide),Y.ts,Y.dhF f (by decide),Y.hdF f (λn h=>by lia),⟨vs,m.at_,bi (f.kt Y.tg z) r⟩,bj (f.kt Y.tg z) Y.sv,Y.tg.frG (oJ m) (nM m trivial)⟩,f.gr z⟩
theorem wg(h:Ag.AO CL CH H b a l O):∀x∈[a,l],∃o,H x=some o/\nt o:=λx hx=>by
 obtain⟨⟨dx,fs,h1⟩,xs,h2⟩:=h.ins
 simp only [Ms,Lr,or_false] at hx
 rcases hx with rfl | rfl
 ·exact⟨_,h1,trivial⟩
 ·exact⟨_,h2,trivial⟩
theorem Yd.setA(Y:Yd C K P H c s tg)(f0:FrG [c.ag,c.al] H H')(a:Ag.AO C.l C.h H' c.kd c.ag c.al O):Yd C K P H' c (s.sAg O) tg/\Gr H tg H' tg:=by
 have f:FrT (· =5) tg H H':=f0.t λb hb=>by
  simp only [Ms,Lr,or_false] at hb
  rcases hb with rfl | rfl
  ·exact Y.tg.a.1
  ·exact Y.tg.a.2
 have z:¬(0=5):=by decide
 have S:=Y.staF f z (by decide)
 exact⟨⟨Y.objF f (by decide),S.nm,S.dr,S.bd,S.to,Y.plF f (by decide),a,Y.goF f z (by decide),Y.ts,Y.dhF f (by decide),Y.hdF f (λn h=>by lia),Y.lgF f z (by decide),bj (f.kt Y.tg z) Y.sv,Y.tg.frG f0 (wg a)⟩,f.gr z⟩
theorem BC(G:GoA CG CT H g dt ds es):∀x∈g::dt::ds::adE es,∃o,H x=some o/\nt o:=λx hx=>by
 obtain⟨⟨dx,h1⟩,h2,h3,h4,_⟩:=G
 simp only [Ms] at hx
 rcases hx with rfl | rfl | rfl | hx
 ·exact⟨_,h1,trivial⟩
 ·exact⟨_,h2,trivial⟩
 ·exact⟨_,h3,trivial⟩
 ·obtain⟨e,he,q⟩:=oC hx
  obtain⟨dx,qs,t1,t2,t3,_⟩:=h4 e he
  rcases q with rfl | rfl | rfl
  ·exact⟨_,t1,trivial⟩
  ·exact⟨_,t2,trivial⟩
  ·exact⟨_,t3,trivial⟩
theorem Yd.setG(Y:Yd C K P H c s tg)(f0:FrG (adE c.es) H H')(G:GoA C.g C.t H' c.g c.dt c.ds es)(h1:adE es=adE c.es):Yd C K P H' (c.sG es) (s.sTs (es.map λe=>(e.name,e.t))) tg/\Gr H tg H' tg:=by
 have f:FrT (· =6) tg H H':=f0.t λb hb=>Y.tg.g b (Lm _ (Lm _ (Lm _ hb)))
 have z:¬(0=6):=by decide
 have S:=Y.staF f z (by decide)
 have g:=Y.tg.frG f0 λx hx=>BC G x (Lm _ (Lm _ (Lm _ (by rw [h1];exact hx))))
 refine⟨⟨Y.objF f (by decide),S.nm,S.dr,S.bd,S.to,Y.plF f (by decide),Y.agF f z (by decide),G,rfl,Y.dhF f (by decide),Y.hdF f (λn h=>by lia),Y.lgF f z (by decide),bj (f.kt Y.tg z) Y.sv,⟨g.y,g.st,g.p,g.l,g.a,λa ha=>g.g a ?_,g.dh,g.hd,g.own⟩⟩,f.gr z⟩
 unfold gcs at ha⊢
 rw [<-h1]
 exact ha
theorem HdL.nums{hs:List (Int×Addr×Addr)}(h:HdL C H hs ds):hs.map (·.1)=ds.map (·.1):=by
 induction h with
 | nil=>rfl
 | cons _ _ ih=>rw [Ls,Ls,ih]
theorem HdL.get{hs:List (Int×Addr×Addr)}(h:HdL C H hs ds)(e:aT n ds=some d):∃ho kd,(n,ho,kd)∈hs/\HdO C H n ho kd d:=by
 induction h with
 | nil=>cases e
 | @cons m ho kd d' hs ds a r ih=>
  unfold aT at e
  by_cases z:m=n
  ·rw [RD z] at e;cases e;subst z
   exact⟨ho,kd,Ll ..,a⟩
  ·rw [RC z] at e
   obtain⟨o,k,h1,h2⟩:=ih e
   exact⟨o,k,Lm _ h1,h2⟩
theorem bt:∀{ds:List (Int×Hd)},aT n ds=some d->(n,d)∈ds:=by
 intro ds
 induction ds with
 | nil=>intro e;cases e
 | cons p r ih=>
  intro e
  unfold aT at e
  by_cases z:p.1=n
  ·rw [RD z] at e;cases e;rw [<-z];exact Ll ..
  ·rw [RC z] at e;exact Lm _ (ih e)
theorem uF:∀{hs:List (Int×Addr×Addr)},(hs.map (·.1)).Nodup->(n,ho,kd)∈hs->aZ (hs.map λh=>((Sum.inl h.1:Key),V.ref h.2.1)) (Sum.inl n)=some (.ref ho):=by
 intro hs
 induction hs with
 | nil=>intro _ h;cases h
 | cons p r ih=>
  intro nd h
  rw [Ls] at nd
  obtain⟨n1,n2⟩:=List.nodup_cons.mp nd
  unfold aZ
  rw [Ls]
  by_cases z:p.1=n
  ·rw [List.find?_cons_of_pos (by simpa using z)]
   rcases List.mem_cons.mp h with e | e
   ·rw [<-e];rfl
   ·exact absurd (List.mem_map.mpr ⟨_,e,rfl⟩) (z▸n1)
  ·rw [List.find?_cons_of_neg (by simpa using z)]
   rcases List.mem_cons.mp h with e | e
   ·rw [<-e] at z;exact absurd rfl z
   ·exact ih n2 e
structure HN(ds:List (Int×Hd)):Prop where
 nd:(ds.map (·.1)).Nodup
 ps:∀p∈ds,1<=p.1/\p.1<=60
theorem yl(h1:1<=m)(h2:1<=n)(ne:m≠n):hoT m≠hoT n/\kdT m≠kdT n:=by unfold hoT kdT;lia
theorem qE:hoT m≠kdT n/\kdT m≠hoT n:=by unfold hoT kdT;lia
theorem HdL.set{hs:List (Int×Addr×Addr)}(h:HdL C H hs ds)(nd:(hs.map (·.1)).Nodup)(hm:(n,ho,kd)∈hs)(k:∀x∈hs,x.1≠n->∀a,a=x.2.1\/a=x.2.2->∀o,H a=some o->H' a=some o)(q:HdO C H' n ho kd d'):HdL C H' hs (setH n d' ds):=by
 induction h with
 | nil=>cases hm
 | @cons m o' k' d hs ds a r ih=>
  obtain⟨n1,n2⟩:=List.nodup_cons.mp nd
  unfold setH
  by_cases z:m=n
  ·rw [RD z]
   subst z
   rcases List.mem_cons.mp hm with e | e
   ·cases e
    exact .cons q (r.fr λx hx=>k x (Lm _ hx) λz=>n1 (z▸List.mem_map.mpr ⟨x,hx,rfl⟩))
   ·exact absurd (List.mem_map.mpr ⟨_,e,rfl⟩) n1
  ·rw [RC z]
   rcases List.mem_cons.mp hm with e | e
   ·cases e;exact absurd rfl z
   ·exact .cons (a.fr (k _ (Ll ..) z _ (.inl rfl)) (k _ (Ll ..) z _ (.inr rfl))) (ih n2 e λx hx=>k x (Lm _ hx))
theorem HdL.drop{hs:List (Int×Addr×Addr)}(n:Int)(h:HdL C H hs ds)(k:∀x∈hs,∀a,a=x.2.1\/a=x.2.2->∀o,H a=some o->H' a=some o):HdL C H' (hs.filter λx=>decide (x.1≠n)) (ds.filter λp=>decide (p.1≠n)):=by
 induction h with
 | nil=>exact .nil
 | @cons m o' k' d hs ds a r ih=>
  have ih:=ih λx hx=>k x (Lm _ hx)
  by_cases z:m=n
  ·rw [LJ (by simpa using z),LJ (by simpa using z)];exact ih
  ·rw [LP (by simpa using z),LP (by simpa using z)]
   exact .cons (a.fr (k _ (Ll ..) _ (.inl rfl)) (k _ (Ll ..) _ (.inr rfl))) ih
theorem HdL.snoc{hs:List (Int×Addr×Addr)}(h:HdL C H hs ds)(q:HdO C H n ho kd d):HdL C H (hs++[(n,ho,kd)]) (ds++[(n,d)]):=by
 induction h with
 | nil=>exact .cons q .nil
 | cons a _ ih=>exact .cons a ih
theorem Yd.num(Y:Yd C K P H c s tg)(N:HN s.hd)(h:x∈c.hs):1<=x.1/\x.1<=60:=by
 have:x.1∈c.hs.map (·.1):=List.mem_map.mpr ⟨x,h,rfl⟩
 rw [Y.hd.nums] at this
 obtain⟨p,hp,e⟩:=List.mem_map.mp this
 rw [<-e];exact N.ps p hp
theorem Yd.nd(Y:Yd C K P H c s tg)(N:HN s.hd):(c.hs.map (·.1)).Nodup:=by rw [Y.hd.nums];exact N.nd
theorem Yd.setH(Y:Yd C K P H c s tg)(N:HN s.hd)(hm:(n,ho,kd)∈c.hs)(f0:FrG [ho,kd] H H')(q:HdO C H' n ho kd d'):Yd C K P H' c (s.sHd (K34.setH n d' s.hd)) tg/\Gr H tg H' tg:=by
 have t:=Y.tg.hd _ hm
 have f:FrT (λt=>t=hoT n\/t=kdT n) tg H H':=f0.t λb hb=>by
  simp only [Ms,Lr,or_false] at hb
  rcases hb with rfl | rfl
  ·exact .inl t.1
  ·exact .inr t.2
 have z:∀m,m<8->¬(m=hoT n\/m=kdT n):=λm h=>by unfold hoT kdT;lia
 have S:=Y.staF f (z 0 (by decide)) (z 2 (by decide))
 obtain⟨⟨dx,q1⟩,q2⟩:=id q
 refine⟨⟨Y.objF f (z 1 (by decide)),S.nm,S.dr,S.bd,S.to,Y.plF f (z 3 (by decide)),Y.agF f (z 0 (by decide)) (z 5 (by decide)),Y.goF f (z 0 (by decide)) (z 6 (by decide)),Y.ts,Y.dhF f (z 7 (by decide)),Y.hd.set (Y.nd N) hm (λx hx ne a ha o e=>?_) q,Y.lgF f (z 0 (by decide)) (z 4 (by decide)),bj (f.kt Y.tg (z 0 (by decide))) Y.sv,Y.tg.frG f0 λa ha=>?_⟩,f.gr (z 0 (by decide))⟩
 ·have t':=Y.tg.hd x hx
  have h1:=yl (Y.num N hx).1 (Y.num N hm).1 ne
  refine f a o ?_ e
  rcases ha with rfl | rfl
  ·rw [t'.1];exact λh=>h.elim h1.1 qE.1
  ·rw [t'.2];exact λh=>h.elim qE.2 h1.2
 ·simp only [Ms,Lr,or_false] at ha
  rcases ha with rfl | rfl
  ·exact⟨_,q1,trivial⟩
  ·exact⟨_,q2,trivial⟩
theorem Yd.addH(Y:Yd C K P H c s tg)(k:Same H H1)(q:HdO C H1 n ho kd d)(n1:H ho=none)(n2:H kd=none)(m:Mu H1 c.dh (.dK (c.hs.map (λh=>(Sum.inl h.1,V.ref h.2.1))++[(Sum.inl n,.ref ho)])) H'):
 Yd C K P H' (c.sHs (c.hs++[(n,ho,kd)])) (s.sHd (s.hd++[(n,d)])) (λa=>if a=ho then hoT n else if a=kd then kdT n else tg a)/\Gr H tg H' (λa=>if a=ho then hoT n else if a=kd then kdT n else tg a):=by
 have Y1:=Y.same k
 obtain⟨⟨dx,q1⟩,q2⟩:=id q
 have ne:ho≠kd:=λz=>by rw [z,q2] at q1;cases q1
 have f:=sk m Y1.tg.dh
 have z:¬(0=7):=by decide
 have S:=Y1.staF f z (by decide)
 have g:=Y1.tg.frG (oJ m) (nM m trivial)
 have o:∀a,tg a≠0->a≠ho/\a≠kd:=λa h=>by
  obtain⟨u,e,_⟩:=Y.tg.own a h
  exact⟨λz=>(by rw [z,n1] at e;cases e),λz=>(by rw [z,n2] at e;cases e)⟩
 have t:∀a v,tg a=v->v≠0->(if a=ho then hoT n else if a=kd then kdT n else tg a)=v:=λa v h hv=>by
  have:=o a (by rw [h];exact hv)
  rw [RC this.1,RC this.2];exact h
 have dho:ho≠c.dh:=λz=>by rw [z,Y.dh] at n1;cases n1
 have dkd:kd≠c.dh:=λz=>by rw [z,Y.dh] at n2;cases n2
 have q':HdO C H' n ho kd d:=⟨⟨dx,m.old q1 dho⟩,m.old q2 dkd⟩
 refine⟨⟨Y1.objF f (by decide),S.nm,S.dr,S.bd,S.to,Y1.plF f (by decide),Y1.agF f z (by decide),Y1.goF f z (by decide),Y1.ts,?_,(Y1.hdF f (λn h=>by lia)).snoc q',Y1.lgF f z (by decide),bj (f.kt Y1.tg z) Y1.sv,⟨t _ _ g.y (by decide),⟨t _ _ g.st.1 (by decide),t _ _ g.st.2.1 (by decide),t _ _ g.st.2.2 (by decide)⟩,t _ _ g.p (by decide),t _ _ g.l (by decide),⟨t _ _ g.a.1 (by decide),t _ _ g.a.2 (by decide)⟩,λa ha=>t _ _ (g.g a ha) (by decide),t _ _ g.dh (by decide),λx hx=>?_,λa ha=>?_⟩⟩,⟨λa u h e=>m.old (k _ _ e) λz=>(by rw [z,Y.tg.dh] at h;cases h),λa ha=>?_⟩⟩
 ·show H' c.dh=some (.dK ((c.hs++[(n,ho,kd)]).map λh=>(Sum.inl h.1,V.ref h.2.1)))
  rw [Lx];exact m.at_
 ·rcases List.mem_append.mp hx with hx | hx
  ·obtain⟨h1,h2⟩:=g.hd x hx
   exact⟨t _ _ h1 (by unfold hoT;lia),t _ _ h2 (by unfold kdT;lia)⟩
  ·rw [List.mem_singleton.mp hx]
   exact⟨RD rfl,by rw [RC ne.symm,RD rfl]⟩
 ·by_cases z1:a=ho
  ·rw [z1];exact⟨_,m.old q1 dho,trivial⟩
  ·by_cases z2:a=kd
   ·rw [z2];exact⟨_,m.old q2 dkd,trivial⟩
   ·rw [RC z1,RC z2] at ha;exact g.own a ha
 ·by_cases z1:a=ho
  ·exact .inr (z1▸n1)
  ·by_cases z2:a=kd
   ·exact .inr (z2▸n2)
   ·have ha:(if a=ho then hoT n else if a=kd then kdT n else tg a)≠0:=ha
    rw [RC z1,RC z2] at ha;exact .inl ha
theorem Yd.delH(Y:Yd C K P H c s tg)(N:HN s.hd)(hn:1<=n)(m:Mu H c.dh (.dK ((c.hs.filter λx=>decide (x.1≠n)).map λh=>(Sum.inl h.1,V.ref h.2.1))) H'):
 Yd C K P H' (c.sHs (c.hs.filter λx=>decide (x.1≠n))) (s.sHd (s.hd.filter λp=>decide (p.1≠n))) (λa=>if tg a=hoT n\/tg a=kdT n then 0 else tg a)/\Gr H tg H' (λa=>if tg a=hoT n\/tg a=kdT n then 0 else tg a):=by
 have f:=sk m Y.tg.dh
 have z:¬(0=7):=by decide
 have S:=Y.staF f z (by decide)
 have g:=Y.tg.frG (oJ m) (nM m trivial)
 have t:∀a v,tg a=v->v≠hoT n->v≠kdT n->(if tg a=hoT n\/tg a=kdT n then 0 else tg a)=v:=λa v h h1 h2=>by
  rw [RC (λq=>q.elim (λe=>h1 (h.symm.trans e)) λe=>h2 (h.symm.trans e))];exact h
 have lo:∀v,v<8->v≠hoT n/\v≠kdT n:=λv h=>by unfold hoT kdT;lia
 have t':=λa v h h1=>t a v h (lo v h1).1 (lo v h1).2
 refine⟨⟨Y.objF f (by decide),S.nm,S.dr,S.bd,S.to,Y.plF f (by decide),Y.agF f z (by decide),Y.goF f z (by decide),Y.ts,m.at_,Y.hd.drop n λx hx a ha o e=>?_,Y.lgF f z (by decide),bj (f.kt Y.tg z) Y.sv,⟨t' _ _ g.y (by decide),⟨t' _ _ g.st.1 (by decide),t' _ _ g.st.2.1 (by decide),t' _ _ g.st.2.2 (by decide)⟩,t' _ _ g.p (by decide),t' _ _ g.l (by decide),⟨t' _ _ g.a.1 (by decide),t' _ _ g.a.2 (by decide)⟩,λa ha=>t' _ _ (g.g a ha) (by decide),t' _ _ g.dh (by decide),λx hx=>?_,λa ha=>g.own a λe=>ha ?_⟩⟩,⟨λa u h e=>f a u (by rw [h];decide) e,λa ha=>.inl λe=>ha ?_⟩⟩
 ·obtain⟨h1,h2⟩:=Y.tg.hd x hx
  rcases ha with rfl | rfl
  ·exact f _ _ (by rw [h1];unfold hoT;lia) e
  ·exact f _ _ (by rw [h2];unfold kdT;lia) e
 ·obtain⟨hx,ne⟩:=List.mem_filter.mp hx
  have ne:x.1≠n:=by simpa using ne
  obtain⟨h1,h2⟩:=g.hd x hx
  have q:=yl (Y.num N hx).1 hn ne
  exact⟨t _ _ h1 q.1 qE.1,t _ _ h2 qE.2 q.2⟩
 ·show(if tg a=hoT n\/tg a=kdT n then 0 else tg a)=0
  rw [e];split<;>rfl
 ·show(if tg a=hoT n\/tg a=kdT n then 0 else tg a)=0
  rw [e];split<;>rfl
end
end K34
def L2.rdX : String := "L2.vP L2.xK L2.xj L2.Bv L2.Bw L2.HO.dT.injEq L2.DY L2.rE L2.xM L2.xL L2.xN K34.Aa K34.Ab K34.ye K34.Ac K34.qi K34.yf K34.Ad K34.Ae K34.Af K34.FS K34.qj K34.qk K34.CJ K34.wc K34.yg K34.qm K34.Ah K34.FT K34.qo K34.qp K34.we K34.FU K34.oI K34.mz K34.CK K34.tQ K34.Ai K34.yh K34.FV K34.yi K34.FW K34.CM K34.CN K34.Aj K34.FX K34.CO K34.Ak K34.tR K34.sj K34.kG K34.wf K34.CP K34.CQ K34.FY K34.CS K34.CU K34.Hn K34.yj K34.Al K34.CV K34.FZ K34.yk K34.CY K34.F0 K34.Am K34.F1"
def L2.rdB : Lean.MacroM (Lean.TSyntaxArray ``Lean.Parser.Tactic.simpLemma) := (L2.rdX.splitOn " ").toArray.mapM fun n => `(Lean.Parser.Tactic.simpLemma| $(Lean.mkIdent n.toName):ident)
local macro_rules
  | `(tactic| walk_at "rl") => do
    let a ← L2.rdArgs L2.lzPre
    let b ← L2.rdB
    `(tactic| simp (config := { maxSteps := 3000000 }) only [$a,*, $b,*, *])
  | `(tactic| walk_at "ro") => do
    let a ← L2.rdArgs (L2.rdPre)
    let b ← L2.rdB
    `(tactic| simp (config := { maxSteps := 3000000 }) only [and_assoc, $a,*, $b,*, *])
  | `(tactic| walk_at "rz") => do
    let a ← L2.rdArgs (L2.lzPre ++ " lazyAll")
    let b ← L2.rdB
    `(tactic| simp (config := { maxSteps := 3000000 }) only [$a,*, $b,*, *])
  | `(tactic| walk_at "rd") => `(tactic| first | (walk_at "rl"; try walk_at "ro") | walk_at "ro")
  | `(tactic| walk_at "ry") => do
    let a ← L2.rdArgs (L2.lzPre2 ++ " lazyAll")
    let b ← L2.rdB
    `(tactic| simp (config := { maxSteps := 3000000, zeta := false, zetaDelta := false }) only [$a,*, $b,*, *])
  | `(tactic| walk_at "rh") => `(tactic| with_reducible first | (refine L2.hideL ?_; intro T) | refine L2.hRet ?_ | refine L2.hIf ?_ | refine L2.hFor ?_ | refine L2.hDrop ?_ | refine L2.hAsg ?_ | refine L2.hWhile ?_ | refine L2.hFld ?_ | refine L2.hForU ?_ | refine L2.hForK ?_ | refine L2.hPut ?_ | refine L2.hRetN ?_)
  | `(tactic| walk_at "r2") => `(tactic| ((try walk_at "rh"); (try walk_at "ry"); repeat (walk_at "rh"; walk_at "ry")))
namespace K34
open PySem L2
structure Gy where
 P:Pr
 c:Ce
 s:YS
 tg:Addr->Nat
def Yp(C:CA)(K:MF)(g:Gy)(H H':Hp)(s':YS):Prop:=∃c' tg',c'.y=g.c.y/\Yd C K g.P H' c' s' tg'/\Gr H g.tg H' tg'/\∀x∈g.c.hs,(∃d,(x.1,d)∈s'.hd)->x∈c'.hs
def spY(C:CA)(K:MF){B:Type}(args:B->List V)(pre:B->Gy->Hp->Prop)(r:B->Gy->V)(f:B->Gy->YS):Sp:=spG (A:=B×Gy) (λa=>.ref a.2.c.y::args a.1) (λa H=>Yd C K a.2.P H a.2.c a.2.s a.2.tg/\pre a.1 a.2 H) (λa H v H'=>v=r a.1 a.2/\Yp C K a.2 H H' (f a.1 a.2))
section
variable{C:CA}{K:MF}{P:Np}{w:Nu}{mg:Str->Option Nk}{base:Heap}
theorem Yp.one(k:Same H H1)(h:Yd C K g.P H' c' s' g.tg/\Gr H1 g.tg H' g.tg)(e:c'.y=g.c.y)(e2:c'.hs=g.c.hs):Yp C K g H H' s':=⟨c',g.tg,e,h.1,(cG k).trans h.2,λx hx _=>by rw [e2];exact hx⟩
theorem Yp.nil(Y:Yd C K g.P H g.c g.s g.tg)(k:Same H H'):Yp C K g H H' g.s:=⟨g.c,g.tg,rfl,Y.same k,cG k,λx hx _=>hx⟩
theorem aW(k:Same H H1)(k':Same H1 H'):Same H H':=λa o h=>k' _ _ (k _ _ h)
theorem BD:16000020<=Nm:=by unfold Nm;decide
theorem bT(h:RpL K H vs ds):vs.length=ds.length:=by
 induction vs generalizing ds with
 | nil=>cases h;rfl
 | cons v vs ih=>cases h with | cons a b=>rw [Lw,Lw,ih b]
theorem ce(h:p)(x:X): @ite Prop p d X Y:=by rw [RD h];exact x
theorem bH(h:¬p)(y:Y): @ite Prop p d X Y:=by rw [RC h];exact y
def iD(C:CA)(K:MF):Sp:=spY C K (B:=Int×Addr×List V×List Nq) (λb=>[.int b.1,.ref b.2.1]) (λb g H=>H b.2.1=some (.tup b.2.2.1)/\FzL K H b.2.2.1 b.2.2.2/\(b.2.2.1≠[]/\b.2.2.1.length<=20)/\g.s.lg.length<16000000) (λ_ _=>.non) (λb g=>g.s.lay b.1 b.2.2.2)
theorem F3(D:MethAt K C.y "lay" "Yard.lay" nG ["self","number","words"])(IC:Cls K C.y)(IH:NoAttr K C.y "now")(Je:NoAttr K C.y "laid"):OkM P w K mg base 1 C.y "lay" ["self","number","words"] (iD C K):=by
 refine D.okG IC tO (λ_=>rfl) λa f cdv A outer s0 H Q E hr p q=>?_
 obtain⟨⟨n,wa,ws,ds⟩,g⟩:=a
 dsimp only at p q⊢
 obtain⟨Y,h1,h2,⟨hne,h3⟩,h4⟩:=p
 obtain⟨vs,l1,l2⟩:=Y.lg
 have lv:=bT l2
 have h0:=Y.obj
 refine⟨_,(ae (aC (dv (ai IC Je (pvM 0)) (az BW (au (aD (ai IC IH (pvM 0)) (pvM 1))) (pvM 2))))),?_⟩
 symm
 intro p1 H1 n1 k1 e1
 have h1':=k1 _ _ h1
 have l1':=k1 _ _ l1
 symm
 refine⟨p1,wa,_,_,rfl,rfl,SqT.of e1,SqT.of h1',by simp,Nat.le_trans (Nat.add_le_add_left h3 2) (by unfold Nm;decide),λz=>absurd z hne,λ_ p2 n2=>?_⟩
 have k2:=bh n2 (.tup ([.int g.s.now,.int n]++ws))
 have b:=BD
 refine⟨vs,k2 _ _ l1',by lia,λH3 m=>q _ _ ⟨rfl,Yp.one (aW k1 k2) ((Y.same (aW k1 k2)).setL m (dO (bi (Kt.of (aW k1 k2)) l2) (.cons (.tup (fh aB) (.cons (.int _) (.cons (.int _) (bi (Kt.of (aW k1 k2)) h2)))) .nil))) rfl rfl⟩⟩
theorem qF(A:Ag.AO CL CH H b a l O)(h1:∀v:V,List.lookup (α:=Str) m [("things",v)]=none)(h2:∀v u:V,List.lookup m [("heap",v),("turn",u)]=none)(x:b=true->X)(y:b=false->Y):(∃dx fs,H a=some (.ins CL dx fs)/\fs.lookup m=none/\X)\/∃dx fs,H a=some (.ins CH dx fs)/\fs.lookup m=none/\Y:=by
 obtain⟨kt,ok,⟨e,dx,ps,ok2,g1,_⟩ | ⟨e,tn,dx,ps,g1,_⟩,_⟩:=A
 ·exact .inl ⟨dx,_,g1,h1 _,x e⟩
 ·exact .inr ⟨dx,_,g1,h2 _ _,y e⟩
section
variable{CL CH:Addr}{H:Hp}{b:Bool}{a l:Addr}{O:List (Int×Int)}{Q:VK}{E:XK}{m x:Int}
theorem F4(kt:List Ag.Kt):∃t,∀e∈kt,e.t<t:=by
 induction kt with
 | nil=>exact⟨0,λe h=>by cases h⟩
 | cons k r ih=>
  obtain⟨t,h⟩:=ih
  refine⟨if t<k.t+1 then k.t+1 else t,λe he=>?_⟩
  rcases List.mem_cons.mp he with z | z
  ·subst z;split<;>lia
  ·have:=h e z;split<;>lia
theorem fW(A:Ag.AO CL CH H b a l O):∃kt ok,((b=true/\Ag.LA CL H a l kt)\/(b=false/\∃tn,Ag.HA CH H a l tn kt))/\Ag.Inc kt/\Ag.Srt kt ok/\ok.map Ag.prO=O/\kt.length=O.length:=by
 obtain⟨kt,ok,h1,h2,h3,h4⟩:=A
 exact⟨kt,ok,h1,h2,h3,h4,by rw [<-h4,Ln];exact h3.1.length_eq.symm⟩
theorem CZ(A:Ag.AO CL CH H b a l O)(hb:b=true)(hl:O.length<=900)(k:∀H',FrG [a,l] H H'->Ag.AO CL CH H' b a l (Ag.insO O m x)->Q .non H'):Ag.spLPut CL [.ref a,.int m,.int x] H Q E:=by
 obtain⟨kt,ok,h1,ic,so,rfl,e⟩:=fW A
 subst hb
 rcases h1 with ⟨_,h1⟩ | ⟨z,_⟩
 ·obtain⟨t,ht⟩:=F4 kt
  exact⟨a,l,m,x,t,kt,rfl,h1,ht,by lia,λH' f h=>k H' f.g (Ag.AO.put (.inl ⟨rfl,h⟩) ic so ht)⟩
 ·cases z
theorem Da(A:Ag.AO CL CH H b a l O)(hb:b=false)(hl:O.length<=900)(k:∀H',FrG [a,l] H H'->Ag.AO CL CH H' b a l (Ag.insO O m x)->Q .non H'):Ag.spHPut CH [.ref a,.int m,.int x] H Q E:=by
 obtain⟨kt,ok,h1,ic,so,rfl,e⟩:=fW A
 subst hb
 rcases h1 with ⟨z,_⟩ | ⟨_,tn,h1⟩
 ·cases z
 ·obtain⟨dx,ps,_,_,_,_,ht⟩:=id h1
  exact⟨a,l,m,x,tn,kt,rfl,h1,by lia,λH' f h=>k H' f.g (Ag.AO.put (.inr ⟨rfl,_,h⟩) ic so λe he=>by have:=ht e he;lia)⟩
def kH(O:List (Int×Int)):V:=match O with
 | []=>.non
 | p::_=>.int p.1
theorem ym(ok:List Ag.Kt):Ag.fst1 ok=kH (ok.map Ag.prO):=by cases ok<;>rfl
theorem Db(A:Ag.AO CL CH H b a l O)(hb:b=true)(k:Q (kH O) H):Ag.spLFst CL [.ref a] H Q E:=by
 obtain⟨kt,ok,h1,ic,so,rfl,e⟩:=fW A
 subst hb
 rcases h1 with ⟨_,h1⟩ | ⟨z,_⟩
 ·exact⟨a,l,kt,rfl,h1,λok' s'=>by rw [s'.uniq so,ym];exact k⟩
 ·cases z
theorem Dc(A:Ag.AO CL CH H b a l O)(hb:b=false)(k:Q (kH O) H):Ag.spHFst CH [.ref a] H Q E:=by
 obtain⟨kt,ok,h1,ic,so,rfl,e⟩:=fW A
 subst hb
 rcases h1 with ⟨z,_⟩ | ⟨_,tn,h1⟩
 ·cases z
 ·exact⟨a,l,tn,kt,ok,rfl,h1,so,by rw [ym];exact k⟩
theorem An(A:Ag.AO CL CH H b a l O)(hb:b=true)(hO:O=(m,x)::r)(hl:O.length<=900)(k:∀H' p,FrG [a,l] H H'->Ag.AO CL CH H' b a l r->H' p=some (.tup [.int m,.int x])->Q (.ref p) H'):Ag.spLTake CL [.ref a] H Q E:=by
 obtain⟨kt,ok,h1,ic,so,e0,e⟩:=fW A
 subst hb
 cases ok with
 | nil=>rw [hO] at e0;cases e0
 | cons o ok=>
  obtain⟨i,mi⟩:=Ag.srt_mi ic so
  rw [hO] at e0
  injection e0 with e1 e2
  obtain⟨r',e3,s3⟩:=so.take ic mi
  injection e3 with _ e3
  subst e3
  have em:o.m=m:=congrArg Prod.fst e1
  have ex:o.x=x:=congrArg Prod.snd e1
  rcases h1 with ⟨_,h1⟩ | ⟨z,_⟩
  ·exact⟨a,l,kt,i,o,rfl,h1,ic,mi,by lia,λH' p f h hp=>k H' p f.g ⟨_,_,.inl ⟨rfl,h⟩,(List.Pairwise.sublist (List.eraseIdx_sublist ..) ic),s3,e2⟩ (by rw [<-em,<-ex];exact hp)⟩
  ·cases z
theorem Ao(A:Ag.AO CL CH H b a l O)(hb:b=false)(hO:O=(m,x)::r)(hl:O.length<=900)(k:∀H' p,FrG [a,l] H H'->Ag.AO CL CH H' b a l r->H' p=some (.tup [.int m,.int x])->Q (.ref p) H'):Ag.spHTake CH [.ref a] H Q E:=by
 obtain⟨kt,ok,h1,ic,so,e0,e⟩:=fW A
 subst hb
 cases ok with
 | nil=>rw [hO] at e0;cases e0
 | cons o ok=>
  obtain⟨i,mi⟩:=Ag.srt_mi ic so
  rw [hO] at e0
  injection e0 with e1 e2
  obtain⟨r',e3,s3⟩:=so.take ic mi
  injection e3 with _ e3
  subst e3
  have em:o.m=m:=congrArg Prod.fst e1
  have ex:o.x=x:=congrArg Prod.snd e1
  rcases h1 with ⟨z,_⟩ | ⟨_,tn,h1⟩
  ·cases z
  ·exact⟨a,l,tn,kt,i,o,rfl,h1,ic,mi,by lia,λH' p f h hp=>k H' p f.g ⟨_,_,.inr ⟨rfl,_,h⟩,(List.Pairwise.sublist (List.eraseIdx_sublist ..) ic),s3,e2⟩ (by rw [<-em,<-ex];exact hp)⟩
theorem Ho{ok:List Ag.Kt}(h:Ag.HL H' r ps)(e:ps.map (·.2)=ok.map Ag.key2):∃vs,H' r=some (.lst vs)/\Prs H' vs (ok.map Ag.prO):=by
 refine⟨_,h.1,?_⟩
 have h2:=h.2
 clear h
 induction ps generalizing ok with
 | nil=>cases ok with
  | nil=>exact .nil
  | cons o ok=>cases e
 | cons q ps ih=>cases ok with
  | nil=>cases e
  | cons o ok=>
   rw [Ls] at e
   injection e with e1 e2
   have:=h2 q (Ll ..)
   rw [e1] at this
   exact .cons this (ih e2 λq hq=>h2 q (Lm _ hq))
theorem Dd(A:Ag.AO CL CH H b a l O)(hb:b=true)(k:∀r H' vs,H r=none->Same H H'->H' r=some (.lst vs)->Prs H' vs O->Q (.ref r) H'):Ag.spLOrd CL [.ref a] H Q E:=by
 obtain⟨kt,ok,h1,ic,so,rfl,e⟩:=fW A
 subst hb
 rcases h1 with ⟨_,h1⟩ | ⟨z,_⟩
 ·refine⟨a,l,kt,rfl,h1,λr H' ps' ok' s' hr g hL e'=>?_⟩
  rw [s'.uniq so] at e'
  obtain⟨vs,v1,v2⟩:=Ho hL e'
  exact k r H' vs hr g v1 v2
 ·cases z
theorem De(A:Ag.AO CL CH H b a l [])(hb:b=false)(k:∀r H',H r=none->Same H H'->H' r=some (.lst [])->Q (.ref r) H'):Ag.spHOrd CH [.ref a] H Q E:=by
 obtain⟨kt,ok,h1,ic,so,eO,e⟩:=fW A
 subst hb
 have eo:ok= []:=by
  cases ok with
  | nil=>rfl
  | cons x r=>simp at eO
 subst eo
 cases so.1.symm.eq_nil
 rcases h1 with ⟨z,_⟩ | ⟨_,tn,h1⟩
 ·cases z
 ·exact⟨a,l,tn,rfl,h1,k⟩
variable{E':XK}
theorem sq(A:Ag.AO CL CH H b a l O)(k:Q (kH O) H):(∃dx fs,H a=some (.ins CL dx fs)/\List.lookup (α:=Str) "first" fs=none/\Ag.spLFst CL [.ref a] H Q E)\/∃dx fs,H a=some (.ins CH dx fs)/\List.lookup (α:=Str) "first" fs=none/\Ag.spHFst CH [.ref a] H Q E':=qF A (λ_=>rfl) (λ_ _=>rfl) (λe=>Db A e k) λe=>Dc A e k
theorem su{t:TA}(A:Ag.AO CL CH H b a l O)(ht:∀R:List V->Hp->Prop,R [.int m,.int x] H->t σ H R)(hl:O.length<=900)(k:∀H',FrG [a,l] H H'->Ag.AO CL CH H' b a l (Ag.insO O m x)->Q .non H'):(∃dx fs,H a=some (.ins CL dx fs)/\List.lookup (α:=Str) "put" fs=none/\t σ H λvs H2=>Ag.spLPut CL (.ref a::vs) H2 Q E)\/∃dx fs,H a=some (.ins CH dx fs)/\List.lookup (α:=Str) "put" fs=none/\t σ H λvs H2=>Ag.spHPut CH (.ref a::vs) H2 Q E':=qF A (λ_=>rfl) (λ_ _=>rfl) (λe=>ht _ (CZ A e hl k)) λe=>ht _ (Da A e hl k)
theorem Df(A:Ag.AO CL CH H b a l O)(hO:O=(m,x)::r)(hl:O.length<=900)(k:∀H' p,FrG [a,l] H H'->Ag.AO CL CH H' b a l r->H' p=some (.tup [.int m,.int x])->Q (.ref p) H'):(∃dx fs,H a=some (.ins CL dx fs)/\List.lookup (α:=Str) "take" fs=none/\Ag.spLTake CL [.ref a] H Q E)\/∃dx fs,H a=some (.ins CH dx fs)/\List.lookup (α:=Str) "take" fs=none/\Ag.spHTake CH [.ref a] H Q E':=qF A (λ_=>rfl) (λ_ _=>rfl) (λe=>An A e hO hl k) λe=>Ao A e hO hl k
theorem F5(A:Ag.AO CL CH H b a l [])(k:∀r H',H r=none->Same H H'->H' r=some (.lst [])->Q (.ref r) H'):(∃dx fs,H a=some (.ins CL dx fs)/\List.lookup (α:=Str) "in_order" fs=none/\Ag.spLOrd CL [.ref a] H Q E)\/∃dx fs,H a=some (.ins CH dx fs)/\List.lookup (α:=Str) "in_order" fs=none/\Ag.spHOrd CH [.ref a] H Q E':=qF A (λ_=>rfl) (λ_ _=>rfl) (λe=>Dd A e λr H' vs h1 h2 h3 h4=>by cases h4;exact k r H' h1 h2 h3) λe=>De A e k
end
def spR(C:CA)(K:MF)(pre:Gy->Prop)(r:Gy->V):Sp:=spG (A:=Gy) (λg=>[.ref g.c.y]) (λg H=>Yd C K g.P H g.c g.s g.tg/\pre g) (λg H v H'=>v=r g/\H'=H)
def kI:Option Int->V
 | none=>.non
 | some i=>.int i
theorem jg(h:RpL K H vs ds){i:Nat}(e:ds[i]? =some d):∃v,vs[i]? =some v/\Rp K H v d:=by
 induction vs generalizing ds i with
 | nil=>cases h;cases e
 | cons v vs ih=>cases h with
  | cons a b=>cases i with
   | zero=>cases e;exact⟨v,rfl,a⟩
   | succ i=>rw [L6] at e⊢;exact ih b e
theorem atN{xs:List α}{i:Nat}{v:α}(h:xs[i]? =some v):atI xs (i:Int)=some v:=by
 unfold atI ixN
 have:=(List.getElem?_eq_some_iff.mp h).1
 rw [RD (by lia),RD (by lia)]
 simpa using h
theorem Yd.outAt{g:Gy}(Y:Yd C K g.P H g.c g.s g.tg)(h:g.P.out[g.s.done]? =some o):∃vs a xs,H g.c.to=some (.tup vs)/\vs[g.s.done]? =some (.ref a)/\H a=some (.tup (.int o.m::xs))/\Rp K (tp H) (.ref a) o.D:=by
 obtain⟨vs,h1,r⟩:=Y.to
 obtain⟨v,h2,r2⟩:=jg r (i:=g.s.done) (by rw [LF,h];rfl)
 have r0:=r2
 cases o with
 | start m nm xs=>
  cases r2 with
  | tup e q=>
   cases q with
   | cons a b=>cases a;obtain⟨ys,e1,e2⟩:=nL e;cases e1;exact⟨vs,_,_,h1,h2,e2,r0⟩
theorem wj(D:MethAt K C.y "outer_is_next" "Yard.outer_is_next" fb ["self"])(IC:Cls K C.y)(IK:NoAttr K C.y "outer_done")(IU:NoAttr K C.y "outer")(IE:NoAttr K C.y "agenda")(Jm:OkM P w K mg base 1 C.l "first" ["self"] (Ag.spLFst C.l))(Jn:OkM P w K mg base 1 C.h "first" ["self"] (Ag.spHFst C.h))(IV:mg "len" =none):OkM P w K mg base 2 C.y "outer_is_next" ["self"] (spR C K (λg=>g.s.done<=g.P.out.length) λg=>.bl (g.s.outNext g.P)):=by
 refine D.okG IC eD (λ_=>rfl) λg f cdv A outer s0 H Q E hr p q=>?_
 obtain⟨Y,hd⟩:=p
 have h0:=Y.obj
 obtain⟨vs,h1,r1⟩:=Y.to
 have lv:=bT r1
 rw [Ln] at lv
 refine⟨_,(aa (aJ (aO bz (ai IC IK (pvM 0)) (dY dE rfl IV NV (aG (ai IC IU (pvM 0))))) (ae (ax cN)) aA) (aa (aQ 1 eD (gA Jm Jn hr (ai IC IE (pvM 0)))) (ae (ax (A1 (fK iU (pvM 1) bV) (jU (fK A4 (aq (aq (ai IC IU (pvM 0)) (ai IC IK (pvM 0))) ac) (pvM 1)))))))),?_⟩
 symm
 by_cases e:(g.s.done:Int)=g.P.out.length
 ·rw [RD e]
  refine q _ _ ⟨?_,rfl⟩
  have z:g.P.out[g.s.done]? =none:=Mi (by lia)
  show V.bl false=V.bl (g.s.outNext g.P)
  unfold YS.outNext
  rw [z]
 obtain⟨o,ho⟩:∃o,g.P.out[g.s.done]? =some o:=⟨_,Lo (by lia)⟩
 obtain⟨vs',a,xs,o1,o2,o3,o4⟩:=Y.outAt ho
 rw [h1] at o1
 cases o1
 have oi:=atN o2
 symm
 apply sq Y.ag
 have u:g.s.outNext g.P=(match kH g.s.ag with | .int m=>decide (o.m<=m) | _=>true):=by
  unfold YS.outNext YS.first kH
  rw [ho]
  cases g.s.ag<;>rfl
 cases ea:g.s.ag with
 | nil=>
  rw [ea] at u
  symm
  exact q _ _ ⟨congrArg V.bl u.symm,rfl⟩
 | cons p r=>
  rw [ea] at u
  symm
  rw [RC (λz=>by cases z),show kH (p::r)= .int p.1 from rfl]
  symm
  exact q _ _ ⟨congrArg V.bl u.symm,rfl⟩
theorem sx(h:Fz K H v (stD o)):decide (v= .non)=o.isNone:=by
 cases o with
 | none=>cases h;rfl
 | some ds=>cases h with | tup e r=>rfl
theorem Dg(D:MethAt K C.y "next_moment" "Yard.next_moment" fS ["self"])(IC:Cls K C.y)(IF:NoAttr K C.y "stopped")(IK:NoAttr K C.y "outer_done")(IU:NoAttr K C.y "outer")(IE:NoAttr K C.y "agenda")(Jc:OkM P w K mg base 2 C.y "outer_is_next" ["self"] (spR C K (λg=>g.s.done<=g.P.out.length) λg=>.bl (g.s.outNext g.P)))(Jm:OkM P w K mg base 1 C.l "first" ["self"] (Ag.spLFst C.l))(Jn:OkM P w K mg base 1 C.h "first" ["self"] (Ag.spHFst C.h)):OkM P w K mg base 3 C.y "next_moment" ["self"] (spR C K (λg=>g.s.done<=g.P.out.length) λg=>kI (g.s.next g.P)):=by
 refine D.okG IC jP (λ_=>rfl) λg f cdv A outer s0 H Q E hr p q=>?_
 obtain⟨Y,hd⟩:=p
 have h0:=Y.obj
 have sv:=Y.sv
 have u:∀v,kI (g.s.next g.P)=v->Q v H:=λv e=>q _ _ ⟨e.symm,rfl⟩
 refine⟨_,(aa (aJ (aO nX (ai IC IF (pvM 0)) bV) (ae (ax bV)) aA) (aa (aJ (fN (bq Jc hr (pvM 0))) (ae (ax (aq (aq (ai IC IU (pvM 0)) (ai IC IK (pvM 0))) ac))) aA) (ae (ax (gA Jm Jn hr (ai IC IE (pvM 0))))))),?_⟩
 symm
 rw [sx sv]
 cases es:g.s.st with
 | some ds=>
  apply ce rfl
  exact u _ (by unfold YS.next;rw [es];rfl)
 | none=>
  apply bH (by simp)
  symm
  refine⟨g,rfl,⟨Y,hd⟩,λv H' e=>?_⟩
  obtain⟨rfl,rfl⟩:=e
  symm
  have n1:g.s.next g.P=if g.s.outNext g.P=true then (g.P.out[g.s.done]?).map Ot.m else g.s.first:=by unfold YS.next;rw [es];rfl
  cases eo:g.s.outNext g.P with
  | true=>
   obtain⟨o,ho⟩:∃o,g.P.out[g.s.done]? =some o:=by
    cases z:g.P.out[g.s.done]? with
    | none=>unfold YS.outNext at eo;rw [z] at eo;cases eo
    | some o=>exact⟨o,rfl⟩
   obtain⟨vs,a,xs,o1,o2,o3,o4⟩:=Y.outAt ho
   have oi:=atN o2
   apply ce rfl
   symm
   exact u _ (by rw [n1,eo,ho];rfl)
  | false=>
   apply bH (by simp)
   symm
   apply sq Y.ag
   apply u _
   rw [n1,eo,RC (by simp)]
   unfold YS.first kH
   cases g.s.ag<;>rfl
end
inductive SvL (H:Hp):List V->List Sv->Prop
 | nil:SvL H [] []
 | cons {p:Addr} {i:Sv} {vs:List V} {l:List Sv}:H p=some (.tup [.int i.1,.str i.2.1,.int i.2.2])->SvL H vs l->SvL H (.ref p::vs) (i::l)
theorem SvL.kt(k:Kt H H')(h:SvL H vs l):SvL H' vs l:=by
 induction h with
 | nil=>exact .nil
 | cons a _ ih=>exact .cons (k _ _ a) ih
theorem SvL.get(h:SvL H vs l){i:Nat}(e:vs[i]? =some v):∃p x,v= .ref p/\l[i]? =some x/\H p=some (.tup [.int x.1,.str x.2.1,.int x.2.2]):=by
 induction h generalizing i with
 | nil=>cases e
 | cons a _ ih=>cases i with
  | zero=>cases e;exact⟨_,_,rfl,rfl,a⟩
  | succ i=>rw [L6] at e⊢;exact ih e
theorem SvL.len(h:SvL H vs l):vs.length=l.length:=by
 induction h with
 | nil=>rfl
 | cons _ _ ih=>rw [Lw,Lw,ih]
theorem Gr.kt(Y:Yd C K P H c s tg)(g:Gr H tg H' tg'):Kt H H':=λa xs h=>g.1 a _ (Y.tg.tup h) h
theorem insO_len(O:List (Int×Int))(m x:Int):(Ag.insO O m x).length=O.length+1:=by
 unfold Ag.insO
 have:=congrArg List.length (LM (p:=λp:Int×Int=>decide (p.1<=m)) (l:=O))
 rw [Lq] at this
 rw [Lq,Lw];lia
theorem jF(nm:Str)(its:List Sv):∀s:YS,(s.wake nm its).lg.length=s.lg.length+its.length/\(s.wake nm its).ag.length=s.ag.length+its.length/\(s.wake nm its).hd=s.hd/\(s.wake nm its).now=s.now:=by
 induction its with
 | nil=>intro s;exact⟨rfl,rfl,rfl,rfl⟩
 | cons i r ih=>
  intro s
  obtain⟨h1,h2,h3,h4⟩:=ih (s.wk nm i)
  refine⟨h1.trans ?_,h2.trans ?_,h3,h4⟩
  ·show(s.lg++[_]).length+_=_
   rw [Lq,Lw,Lw,Mr];lia
  ·show(Ag.insO s.ag s.now i.1).length+_=_
   rw [insO_len,Lw];lia
theorem pO(nm:Str)(s:YS)(its:List Sv)(i:Sv):s.wake nm (its++[i])=(s.wake nm its).wk nm i:=by unfold YS.wake;rw [List.foldl_append];rfl
theorem Yp.then(e1:c1.y=g.c.y)(g1:Gr H g.tg H1 tg1)(k1:∀x∈g.c.hs,(∃d,(x.1,d)∈s1.hd)->x∈c1.hs)(h:Yp C K ⟨g.P,c1,s1,tg1⟩ H1 H' s')(k:∀n,(∃d,(n,d)∈s'.hd)->∃d,(n,d)∈s1.hd):Yp C K g H H' s':=by
 obtain⟨c',tg',e,Y,gr,kp⟩:=h
 exact⟨c',tg',e.trans e1,Y,g1.trans gr,λx hx hd=>kp x (k1 x hx (k _ hd)) hd⟩
section
variable{C:CA}{K:MF}{P:Np}{w:Nu}{mg:Str->Option Nk}{base:Heap}
def sA(C:CA)(K:MF):Sp:=spY C K (B:=Str×Addr×List V×List Sv) (λb=>[.str b.1,.ref b.2.1]) (λb g H=>H b.2.1=some (.lst b.2.2.1)/\SvL H b.2.2.1 b.2.2.2/\g.tg b.2.1=0/\b.2.2.2.length<=100/\g.s.lg.length+100<16000000/\g.s.ag.length<=700) (λ_ _=>.non) (λb g=>g.s.wake b.1 b.2.2.2)
def WkI(C:CA)(K:MF)(g:Gy)(nm:Str)(r:Addr)(vs:List V)(its:List Sv)(H:Hp)(i:Nat)(σ:St)(H':Hp):Prop:=(∃v3 v4 v5,σ= [some (.ref g.c.y),some (.str nm),some (.ref r),v3,v4,v5])/\Yp C K g H H' (g.s.wake nm (its.take i))/\H' r=some (.lst vs)/\SvL H' vs its
theorem Dh(D:MethAt K C.y "wake" "Yard.wake" lL ["self","name","served"])(IC:Cls K C.y)(IE:NoAttr K C.y "agenda")(IH:NoAttr K C.y "now")(IL:OkM P w K mg base 1 C.y "lay" ["self","number","words"] (iD C K))(Jf:OkM P w K mg base 1 C.l "put" ["self","moment","thing"] (Ag.spLPut C.l))(Jg:OkM P w K mg base 3 C.h "put" ["self","moment","thing"] (Ag.spHPut C.h)):OkM P w K mg base 4 C.y "wake" ["self","name","served"] (sA C K):=by
 refine D.okG IC fc (λ_=>rfl) λa f cdv A outer s0 H Q E hr p q=>?_
 obtain⟨⟨nm,r,vs,its⟩,g⟩:=a
 dsimp only at p q⊢
 obtain⟨Y,h1,h2,h3,h4,h5,h6⟩:=p
 refine⟨_,(ae (cH NE.never rfl (bp (pvM 2)) (cb 3 rfl (aL (bw 3 fc) (aL (bw 4 fc) (aL (bw 5 fc) bZ)))) (aa (aC (aU IL hr (pvM 0) (aD (pvM 3) (au (bJ (pvM 4) (pvM 1) (pvM 5)))))) (ae (aC (j9 Jf Jg hr (ai IC IE (pvM 0)) (aD (ai IC IH (pvM 0)) (pvM 3)))))))),?_⟩
 apply cE
 simp only [bU]
 symm
 refine⟨⟨_,SqL.of h1⟩,?_⟩
 refine dD (WkI C K g nm r vs its H) ⟨⟨_,_,_,rfl⟩,Yp.nil Y λ_ _ e=>e,h1,h2⟩ (λi σ H1 _ h=>SqL.of h.2.2.1) ?_ ?_
 ·rintro i x σ H1 hx ⟨⟨v3,v4,v5,rfl⟩,⟨c1,tg1,e1,Y1,g1,k1⟩,l1,s1⟩
  obtain⟨p,it,rfl,ei,hp⟩:=s1.get hx
  have hi:=(List.getElem?_eq_some_iff.mp ei).1
  have et:=bY ei
  obtain⟨w1,w2,w3,w4⟩:=jF nm (its.take i) g.s
  rw [Ma] at w1 w2
  have h0:=Y1.obj
  rw [e1] at h0
  symm
  intro p2 H2 n2 k2 e2
  have Y2:=Y1.same k2
  refine⟨⟨(it.1,p2,_,[.str it.2.1,.str nm,.int it.2.2]),⟨g.P,c1,g.s.wake nm (its.take i),tg1⟩⟩,by rw [<-e1],⟨Y2,e2,.cons (.str _) (.cons (.str _) (.cons (.int _) .nil)),⟨Mh _ _,Lz rfl⟩,by dsimp only;lia⟩,λv H3 po=>?_⟩
  obtain⟨rfl,c3,tg3,e3,Y3,g3,k3⟩:=po
  have h0':=Y3.obj
  rw [e3,e1] at h0'
  symm
  refine su (m:=(g.s.wake nm (its.take i)).now) (x:=it.1) Y3.ag (λR hR=>?_) ?_ λH4 f4 a4=>?_
  ·symm
   exact hR
  ·show(g.s.wake nm (its.take i)).ag.length<=900
   lia
  obtain⟨Y4,g4⟩:=Y3.setA f4 a4
  have gg:=(g1.trans ((cG k2).trans g3)).trans g4
  have kt:=gg.kt Y
  refine⟨⟨_,_,_,rfl⟩,⟨c3,tg3,e3.trans e1,?_,gg,λx hx hd=>?_⟩,gg.1 _ _ h3 h1,h2.kt kt⟩
  ·rw [et,pO];exact Y4
  ·rw [et,pO] at hd;exact k3 x (k1 x hx hd) hd
 ·rintro σ H1 ⟨⟨v3,v4,v5,rfl⟩,h,_⟩
  rw [LH (M0 h2.len.symm)] at h
  exact q _ _ ⟨rfl,h⟩
theorem HdL.mem{hs:List (Int×Addr×Addr)}(h:HdL C H hs ds)(hm:(n,ho,kd)∈hs):∃d,HdO C H n ho kd d/\(n,d)∈ds:=by
 induction h with
 | nil=>cases hm
 | cons a _ ih=>
  rcases List.mem_cons.mp hm with e | e
  ·cases e;exact⟨_,a,Ll ..⟩
  ·obtain⟨d,h1,h2⟩:=ih e;exact⟨d,h1,Lm _ h2⟩
def yn(C:CA)(K:MF):Sp:=spY C K (B:=Int×Addr×Addr×Int) (λb=>[.ref b.2.1,.int b.2.2.2]) (λb g _=>(b.1,b.2.1,b.2.2.1)∈g.c.hs/\g.s.lg.length+1<16000000/\g.s.ag.length<=900) (λ_ _=>.non) (λb g=>g.s.wait b.1 b.2.2.2)
theorem Di(D:MethAt K C.y "wait" "Yard.wait" lN ["self","hand","moments"])(IC:Cls K C.y)(IE:NoAttr K C.y "agenda")(IH:NoAttr K C.y "now")(IM:Cls K C.d)(ID:NoAttr K C.d "number")(IL:OkM P w K mg base 1 C.y "lay" ["self","number","words"] (iD C K))(Jf:OkM P w K mg base 1 C.l "put" ["self","moment","thing"] (Ag.spLPut C.l))(Jg:OkM P w K mg base 3 C.h "put" ["self","moment","thing"] (Ag.spHPut C.h)):OkM P w K mg base 4 C.y "wait" ["self","hand","moments"] (yn C K):=by
 refine D.okG IC rW (λ_=>rfl) λa f cdv A outer s0 H Q E hr p q=>?_
 obtain⟨⟨n,ho,kd,m⟩,g⟩:=a
 dsimp only at p q⊢
 obtain⟨Y,hm,h1,h2⟩:=p
 have h0:=Y.obj
 obtain⟨d,⟨⟨dx,d1⟩,d2⟩,dm⟩:=Y.hd.mem hm
 refine⟨_,(aa (aC (aU IL hr (pvM 0) (aD (ai IM ID (pvM 1)) (au (aD av (pvM 2)))))) (ae (aC (j9 Jf Jg hr (ai IC IE (pvM 0)) (aD (az bc (ai IC IH (pvM 0)) (pvM 2)) (ai IM ID (pvM 1))))))),?_⟩
 symm
 intro p2 H2 n2 k2 e2
 refine⟨⟨(n,p2,_,[.str "waits",.int m]),g⟩,rfl,⟨Y.same k2,e2,.cons (.str _) (.cons (.int _) .nil),⟨Mh _ _,Lz rfl⟩,by dsimp only;lia⟩,λv H3 po=>?_⟩
 obtain⟨rfl,c3,tg3,e3,Y3,g3,k3⟩:=po
 have h0':=Y3.obj
 obtain⟨d',⟨⟨dx',d1'⟩,_⟩,_⟩:=Y3.hd.mem (k3 _ hm ⟨d,dm⟩)
 dsimp only at e3 g3 k3 h0' d1'
 rw [e3] at h0'
 symm
 refine su (m:=g.s.now+m) (x:=n) Y3.ag (λR hR=>?_) h2 λH4 f4 a4=>?_
 ·symm
  exact hR
 obtain⟨Y4,g4⟩:=Y3.setA f4 a4
 exact q _ _ ⟨rfl,c3,tg3,e3,Y4,((cG k2).trans g3).trans g4,λx hx hd=>k3 x hx hd⟩
def oK(C:CA)(K:MF):Sp:=spY C K (B:=Int×Addr×Str×Int×Addr×List V×List Sv) (λb=>[.ref b.2.1,.str b.2.2.1,.int b.2.2.2.1,.ref b.2.2.2.2.1]) (λb g H=>(∃dx d kd,H b.2.1=some (.ins C.d dx (hdF b.1 d kd)))/\H b.2.2.2.2.1=some (.lst b.2.2.2.2.2.1)/\SvL H b.2.2.2.2.2.1 b.2.2.2.2.2.2/\g.tg b.2.2.2.2.1=0/\b.2.2.2.2.2.2.length<=100/\g.s.lg.length+101<16000000/\g.s.ag.length<=700) (λ_ _=>.non) (λb g=>g.s.given b.1 b.2.2.1 b.2.2.2.1 b.2.2.2.2.2.2)
theorem Ap(D:MethAt K C.y "lay_given" "Yard.lay_given" gW ["self","hand","name","given","served"])(IC:Cls K C.y)(IM:Cls K C.d)(ID:NoAttr K C.d "number")(IL:OkM P w K mg base 1 C.y "lay" ["self","number","words"] (iD C K))(Ju:OkM P w K mg base 4 C.y "wake" ["self","name","served"] (sA C K)):OkM P w K mg base 5 C.y "lay_given" ["self","hand","name","given","served"] (oK C K):=by
 refine D.okG IC lw (λ_=>rfl) λa f cdv A outer s0 H Q E hr p q=>?_
 obtain⟨⟨n,ho,nm,n',r,vs,its⟩,g⟩:=a
 dsimp only at p q⊢
 obtain⟨Y,⟨dx,d,kd,d1⟩,h1,h2,h3,h4,h5,h6⟩:=p
 have hu:=cJ hr
 have h0:=Y.obj
 unfold YS.given at q
 refine⟨_,(aa (aJ (aO gq (pvM 3) ac) (ae (aC (aU IL hr (pvM 0) (aD (ai IM ID (pvM 1)) (au (bJ av (pvM 2) (pvM 3))))))) aA) (ae (aC (aU Ju hr (pvM 0) (aD (pvM 2) (pvM 4)))))),?_⟩
 symm
 by_cases c0:0<n'
 ·rw [RD c0] at q
  refine ce c0 ?_
  symm
  intro p2 H2 n2 k2 e2
  refine⟨⟨(n,p2,_,[.str "gives",.str nm,.int n']),g⟩,rfl,⟨Y.same k2,e2,.cons (.str _) (.cons (.str _) (.cons (.int _) .nil)),⟨Mh _ _,Lz rfl⟩,by dsimp only;lia⟩,λv H3 po=>?_⟩
  obtain⟨rfl,c3,tg3,e3,Y3,g3,k3⟩:=po
  have h0':=Y3.obj
  dsimp only at e3 g3 k3 h0'
  rw [e3] at h0'
  symm
  have gg:=(cG k2).trans g3
  refine⟨⟨(nm,r,vs,its),⟨g.P,c3,g.s.lay n [.str "gives",.str nm,.int n'],tg3⟩⟩,by rw [<-e3],⟨Y3,gg.1 _ _ h3 h1,h2.kt (gg.kt Y),?_,h4,?_,h6⟩,λv H4 po=>?_⟩
  ·rcases LR (tg3 r) with z | z
   ·exact z
   ·rcases gg.2 r (L5 z) with z | z
    ·exact absurd h3 z
    ·rw [h1] at z;cases z
  ·show(g.s.lg++[_]).length+100<16000000
   rw [Lq,LN];lia
  ·obtain⟨rfl,po⟩:=po
   symm
   exact q _ _ ⟨rfl,Yp.then e3 gg k3 po λm h=>by rw [(jF nm its _).2.2.1] at h;exact h⟩
 ·rw [RC c0] at q
  refine bH c0 ?_
  symm
  refine⟨⟨(nm,r,vs,its),g⟩,rfl,⟨Y,h1,h2,h3,h4,by dsimp only;lia,h6⟩,λv H4 po=>?_⟩
  obtain⟨rfl,po⟩:=po
  exact q _ _ ⟨rfl,po⟩
def YS.enter(s:YS)(n:Int)(k:Int):YS:=match aT n s.hd with
 | none=>s
 | some d=>if s.stm=100 then s.sSt (some [.str "endless",.int n]) else (s.sStm (s.stm+1)).sHd (K34.setH n (d.sRow k) s.hd)
def uG(C:CA)(K:MF):Sp:=spY C K (B:=Int×Addr×Addr×Int) (λb=>[.ref b.2.1,.int b.2.2.2]) (λb g _=>(b.1,b.2.1,b.2.2.1)∈g.c.hs/\HN g.s.hd) (λ_ g=>.bl (!decide (g.s.stm=100))) (λb g=>g.s.enter b.1 b.2.2.2)
theorem eK:∀{ds:List (Int×Hd)},(ds.map (·.1)).Nodup->(n,d)∈ds->aT n ds=some d:=by
 intro ds
 induction ds with
 | nil=>intro _ h;cases h
 | cons p r ih=>
  intro nd h
  rw [Ls] at nd
  obtain⟨n1,n2⟩:=List.nodup_cons.mp nd
  unfold aT
  rcases List.mem_cons.mp h with e | e
  ·rw [<-e];exact RD rfl
  ·have ne:p.1≠n:=λz=>n1 (z▸List.mem_map.mpr ⟨_,e,rfl⟩)
   rw [RC ne];exact ih n2 e
theorem F6(m:Mu H a o H'):FrG [a,b] H H':=λc u n e=>m.old e λz=>n (by rw [z];exact Ll ..)
theorem Aq(D:MethAt K C.y "enter_statement" "Yard.enter_statement" dU ["self","hand","k"])(IC:Cls K C.y)(IR:NoAttr K C.y "statements")(IF:NoAttr K C.y "stopped")(IM:Cls K C.d)(ID:NoAttr K C.d "number")(Jl:NoAttr K C.d "row")(Lh:mg "MOST_STATEMENTS" =some (.int 100 tk)):OkM P w K mg base 1 C.y "enter_statement" ["self","hand","k"] (uG C K):=by
 refine D.okG IC ia (λ_=>rfl) λa f cdv A outer s0 H Q E hr p q=>?_
 obtain⟨⟨n,ho,kd,k⟩,g⟩:=a
 dsimp only at p q⊢
 obtain⟨Y,hm,hn⟩:=p
 have h0:=Y.obj
 obtain⟨d,⟨⟨dx,d1⟩,d2⟩,dm⟩:=Y.hd.mem hm
 have gd:=eK hn.nd dm
 unfold YS.enter at q
 rw [gd] at q
 dsimp only at q
 refine⟨_,(aa (aJ (aO bz (ai IC IR (pvM 0)) (gB (v:=.int 100) rfl Lh ⟨_,rfl⟩)) (aa (aI IC IF (pvM 0) (au (aD av (ai IM ID (pvM 1))))) (ae (ax cN))) aA) (aa (aI IC IR (pvM 0) (az bc (ai IC IR (pvM 0)) ac)) (aa (aI IM Jl (pvM 1) (pvM 2)) (ae (ax cN))))),?_⟩
 symm
 by_cases c0:g.s.stm=100
 ·rw [RD c0,decide_eq_true c0] at q
  apply ce c0
  symm
  intro p2 H2 n2 k2 e2
  have h0':=k2 _ _ h0
  symm
  intro H3 m3
  have Y3:=(Y.same k2).setS (v:=.ref p2) (o:=some [.str "endless",.int n]) m3 (.tup (fh e2) (.cons (.str _) (.cons (.int _) .nil)))
  exact q _ _ ⟨rfl,Yp.one k2 Y3 rfl rfl⟩
 ·rw [RC c0,decide_eq_false c0] at q
  apply bH c0
  symm
  intro H2 m2
  obtain⟨Y2,g2⟩:=Y.setY (s':=g.s.sStm (g.s.stm+1)) m2 ⟨rfl,rfl,rfl,rfl,rfl,rfl,rfl⟩
  obtain⟨d',⟨⟨dx',d1'⟩,d2'⟩,dm'⟩:=Y2.hd.mem hm
  have ed:d'=d:=by
   have:=eK hn.nd dm'
   rw [gd] at this;cases this;rfl
  subst ed
  symm
  intro H3 m3
  obtain⟨Y3,g3⟩:=Y2.setH hn hm (d':=d'.sRow k) (F6 m3) ⟨⟨dx',m3.at_⟩,m3.old d2' λz=>by rw [z,d1'] at d2';cases d2'⟩
  exact q _ _ ⟨rfl,g.c,g.tg,rfl,Y3,g2.trans g3,λx hx _=>hx⟩
theorem TbL.get{F:α->List Nq}{l:List (Str×α)}(h:TbL K H F kv l){a:α}(e:bB nm l=some a):∃v,aZ kv (Sum.inr nm)=some v/\Fz K H v (.tuple (F a)):=by
 induction h with
 | nil=>cases e
 | @cons x b v kv l f r ih=>
  unfold bB at e
  unfold aZ
  by_cases z:x=nm
  ·rw [RD z] at e;cases e
   rw [List.find?_cons_of_pos (by simpa using z)]
   exact⟨v,rfl,f⟩
  ·rw [RC z] at e
   rw [List.find?_cons_of_neg (by simpa using z)]
   exact ih e
theorem dq(h:Fz K H v (.tuple ds)):∃a xs,v= .ref a/\H a=some (.tup xs)/\FzL K H xs ds:=by
 cases h with
 | tup e r=>obtain⟨ys,e1,e2⟩:=nL e;cases e1;exact⟨_,_,rfl,e2,r⟩
theorem Ar:∀{ns:List Int} {xs:List V},RpL K H xs (ns.map .int)->xs=ns.map .int:=by
 intro ns
 induction ns with
 | nil=>intro xs h;cases h;rfl
 | cons n ns ih=>intro xs h;cases h with | cons a b=>cases a;rw [ih b];rfl
theorem Au:∀{ns:List Str} {xs:List V},RpL K H xs (ns.map .str)->xs=ns.map .str:=by
 intro ns
 induction ns with
 | nil=>intro xs h;cases h;rfl
 | cons n ns ih=>intro xs h;cases h with | cons a b=>cases a;rw [ih b];rfl
def uH(C:CA)(K:MF):Sp:=spY C K (B:=Str×List Str×Addr×List Int) (λb=>[.str b.1,.ref b.2.2.1]) (λb g H=>bB b.1 g.P.nms=some b.2.1/\b.2.1.Nodup/\b.2.1.length<=100/\(H b.2.2.1=some (.lst (b.2.2.2.map .int))\/H b.2.2.1=some (.tup (b.2.2.2.map .int)))/\g.s.beg<=60/\(∀p∈g.s.hd,p.1<=g.s.beg)/\g.s.hd.length<=1000/\g.s.lg.length+1<16000000/\g.s.ag.length<=900) (λ_ _=>.non) (λb g=>g.s.begin g.P b.1 b.2.2.2)
def uI(C:CA):Sp:=spG (A:=Addr×Addr×Int×Str×Int×Addr) (λa=>[.ref a.1,.int a.2.2.1,.str a.2.2.2.1,.int a.2.2.2.2.1,.ref a.2.2.2.2.2]) (λa H=>H a.1=some (.ins C.d a.2.1 [])) (λa H v H'=>v= .non/\Mu H a.1 (.ins C.d a.2.1 [("number",.int a.2.2.1),("name",.str a.2.2.2.1),("row",.int a.2.2.2.2.1),("known",.ref a.2.2.2.2.2)]) H')
theorem MakeAt.okG{args:A->List V}{pre:A->Hp->Prop}{post:A->Hp->V->Hp->Prop}{C:Addr}(D:MakeAt K mg x C q st ps)(sc:am N ps (aj st))(hl:∀a,(args a).length=ps.length)
 (body:∀(a:A) (f:Addr) (cdv:Nk) (A':Nw) (outer:List Env) (s:Nn) (H:Hp) (Q:VK) (E:XK),Room k (A'.deeper (N0 q (aj st) s.heap.objs.size f cdv))->pre a H->(∀v H',post a H v H'->Q v H')->∃t,PSs (eU CX0 P w K mg base N q (aj st) f cdv A' outer s H E).nox (bS st) t/\t {nx:=λ_ H'=>Q V.non H',rt:=Q} (start N (args a)) H):
 OkC P w K mg base (k+1) x C ps (spG args pre post):=by
 refine D.ok sc (λvs H Q E h=>?_) (λf cdv A' outer s H vs Q E hr h=>?_)
 ·obtain⟨a,rfl,_⟩:=h;exact hl a
 ·obtain⟨a,rfl,p,q⟩:=h;exact body a f cdv A' outer s H Q E hr p q
theorem mB(m:Mu H a o H1)(m':Mu H1 a o' H2):Mu H a o' H2:=⟨m'.at_,λb h=>by rw [m'.else_ b h,m.else_ b h]⟩
theorem Dj(D:MakeAt K mg "Hand" C.d "Hand.__init__" iw ["self","number","name","row","known"])(IM:Cls K C.d)(ID:NoAttr K C.d "number")(Jw:NoAttr K C.d "name")(Jl:NoAttr K C.d "row")(Jx:NoAttr K C.d "known"):OkC P w K mg base 1 "Hand" C.d ["self","number","name","row","known"] (uI C):=by
 refine MakeAt.okG D mv (λ_=>rfl) λa f cdv A outer s0 H Q E hr p q=>?_
 obtain⟨ho,dx,n,nm,r,kd⟩:=a
 dsimp only at p q⊢
 refine⟨_,(aa (aI IM ID (pvM 0) (pvM 1)) (aa (aI IM Jw (pvM 0) (pvM 2)) (aa (aI IM Jl (pvM 0) (pvM 3)) (ae (aI IM Jx (pvM 0) (pvM 4)))))),?_⟩
 symm
 intro H1 m1
 have p1:=m1.at_
 symm
 intro H2 m2
 have p2:=m2.at_
 symm
 intro H3 m3
 have p3:=m3.at_
 symm
 intro H4 m4
 exact q _ _ ⟨rfl,mB (mB (mB m1 m2) m3) m4⟩
theorem yo{hs:List (Int×Addr×Addr)}(h:∀x∈hs,x.1≠n):((hs.map λh=>((Sum.inl h.1:Key),V.ref h.2.1)).any λkv=>decide (kv.1=Sum.inl n))=false:=by
 rw [List.any_eq_false]
 intro kv hk
 obtain⟨x,hx,rfl⟩:=List.mem_map.mp hk
 simpa using h x hx
theorem Dk{α β:Type}:∀(ns:List α) (xs:List β),((ns.zip xs).map (·.1)).Sublist ns:=by
 intro ns
 induction ns with
 | nil=>intro xs;exact List.Sublist.slnil
 | cons n ns ih=>intro xs;cases xs with
  | nil=>exact List.nil_sublist _
  | cons x xs=>exact(ih xs).cons₂ n
theorem wl:∀(ns:List Str) (xs:List Int),ns.Nodup->di ((ns.map (Sum.inr:Str->Key)).zip (xs.map V.int))=kvH (ns.zip xs):=by
 intro ns xs nd
 have e:(ns.map (Sum.inr:Str->Key)).zip (xs.map V.int)=kvH (ns.zip xs):=by
  rw [List.zip_map]
  rfl
 rw [e]
 unfold di
 rw [kC _ []]
 ·rfl
 ·rw [List.nil_append]
  have:(kvH (ns.zip xs)).map (·.1)=((ns.zip xs).map (·.1)).map (Sum.inr:Str->Key):=by unfold kvH;rw [LW,LW];rfl
  rw [this]
  exact xZ (List.Nodup.sublist (Dk ns xs) nd)
theorem Av(D:MethAt K C.y "begin" "Yard.begin" kA ["self","name","numbers"])(IC:Cls K C.y)(IW:NoAttr K C.y "begun")(IF:NoAttr K C.y "stopped")(IP:NoAttr K C.y "hands")(Js:NoAttr K C.y "names")(IE:NoAttr K C.y "agenda")(IH:NoAttr K C.y "now")(KL:OkC P w K mg base 1 "Hand" C.d ["self","number","name","row","known"] (uI C))(IL:OkM P w K mg base 1 C.y "lay" ["self","number","words"] (iD C K))(Jf:OkM P w K mg base 1 C.l "put" ["self","moment","thing"] (Ag.spLPut C.l))(Jg:OkM P w K mg base 3 C.h "put" ["self","moment","thing"] (Ag.spHPut C.h))(JB:mg "dict" =none)(KZ:mg "zip" =none)(Li:mg "MOST_HANDS" =some (.int 60 tk)):OkM P w K mg base 4 C.y "begin" ["self","name","numbers"] (uH C K):=by
 refine D.okG IC qh (λ_=>rfl) λa f cdv A outer s0 H Q E hr p q=>?_
 obtain⟨⟨nm,ns,xa,xs⟩,g⟩:=a
 dsimp only at p q⊢
 obtain⟨Y,h1,hnd,hnl,h2,h3,h4,h5,h6,h7⟩:=p
 have hu:=cJ hr
 have h0:=Y.obj
 obtain⟨kv,d1,d2⟩:=Y.nm
 obtain⟨v,v1,v2⟩:=d2.get h1
 obtain⟨na,nv,rfl,a1,a2⟩:=dq v2
 have ex:=Au a2
 subst ex
 unfold YS.begin at q
 rw [show(bB nm g.P.nms).getD []=ns by rw [h1];rfl] at q
 refine⟨_,(aa (aJ (aO bz (ai IC IW (pvM 0)) (gB (v:=.int 60) rfl Li ⟨_,rfl⟩)) (aa (aI IC IF (pvM 0) (au (aG av))) (ae nW)) aA) (aa (aI IC IW (pvM 0) (az bc (ai IC IW (pvM 0)) ac)) (aa (j5 hu (ai IC IP (pvM 0)) (ai IC IW (pvM 0)) (jA KL hr rfl (cg (ai IC IW (pvM 0)) (pvM 1) ac (vK rfl JB rfl KZ (aD (cL hu (ai IC Js (pvM 0)) (pvM 1) (λ_ _=>rfl)) (pvM 2)))))) (aa (aC (aU IL hr (pvM 0) (aD (ai IC IW (pvM 0)) (au (aD av (pvM 1)))))) (ae (aC (j9 Jf Jg hr (ai IC IE (pvM 0)) (aD (ai IC IH (pvM 0)) (ai IC IW (pvM 0)))))))))),?_⟩
 symm
 by_cases c0:g.s.beg=60
 ·have c1:(g.s.beg:Int)=60:=by lia
  rw [RD c0] at q
  apply ce c1
  symm
  intro p2 H2 n2 k2 e2
  have h0':=k2 _ _ h0
  symm
  intro H3 m3
  have Y3:=(Y.same k2).setS (v:=.ref p2) (o:=some [.str "many"]) m3 (.tup (fh e2) (.cons (.str _) .nil))
  symm
  exact q _ _ ⟨rfl,Yp.one k2 Y3 rfl rfl⟩
 ·have c1:¬(g.s.beg:Int)=60:=by lia
  rw [RC c0] at q
  apply bH c1
  symm
  intro H2 m2
  obtain⟨Y2,g2⟩:=Y.setY (s':=g.s.sBeg (g.s.beg+1)) m2 ⟨rfl,rfl,rfl,rfl,rfl,rfl,rfl⟩
  have h0':=Y2.obj
  have d1':=m2.old d1 λz=>by rw [z,h0] at d1;cases d1
  have a1':=m2.old a1 λz=>by rw [z,h0] at a1;cases a1
  have h2':=h2.imp (λe=>m2.old e λz=>by rw [z,h0] at e;cases e) λe=>m2.old e λz=>by rw [z,h0] at e;cases e
  have hsn:∀x∈g.c.hs,x.1≠(g.s.beg:Int)+1:=λx hx z=>by
   have:x.1∈g.c.hs.map (·.1):=List.mem_map.mpr ⟨x,hx,rfl⟩
   rw [Y.hd.nums] at this
   obtain⟨p,hp,e⟩:=List.mem_map.mp this
   have:=h4 p hp
   lia
  have hl:g.c.hs.length=g.s.hd.length:=by have:=congrArg List.length Y.hd.nums;rwa [Ln,Ln] at this
  have b:=BD
  clear h0 d1 a1
  symm
  refine⟨ns.map Sum.inr,by rw [LW];exact SqT.of a1',xs.map .int,h2'.imp (λe=>SqL.of e) λe=>SqT.of e,by rw [Ln];lia,λkd H3 n3 k3 e3=>?_⟩
  rw [wl ns xs hnd] at e3
  have h0':=k3 _ _ h0'
  symm
  intro ho dx H4 n4 n4' k4 e4 _
  refine⟨(ho,dx,(g.s.beg:Int)+1,nm,0,kd),rfl,e4,λv H5 po=>?_⟩
  obtain⟨rfl,m5⟩:=po
  dsimp only at m5
  have n4z:H2 ho=none:=by
   cases z:H2 ho with
   | none=>rfl
   | some u=>rw [k3 _ _ z] at n4;cases n4
  have kk:=m5.same (aW k3 k4) n4z
  have Y5:=Y2.same kk
  have h0':=Y5.obj
  have dh5:=Y5.dh
  have q5:HdO C H5 ((g.s.beg:Int)+1) ho kd ⟨nm,0,ns.zip xs⟩:=⟨⟨dx,m5.at_⟩,m5.old (k4 _ _ e3) λz=>by rw [<-z,e3] at n4;cases n4⟩
  refine⟨rfl,?_⟩
  symm
  refine⟨by rw [Ln];lia,λH6 m6=>?_⟩
  have m6':Mu H5 g.c.dh (.dK (g.c.hs.map (λh=>(Sum.inl h.1,V.ref h.2.1))++[(Sum.inl ((g.s.beg:Int)+1),.ref ho)])) H6:=by
   have e:bN (g.c.hs.map λh=>((Sum.inl h.1:Key),V.ref h.2.1)) (Sum.inl ((g.s.beg:Int)+1)) (.ref ho)=g.c.hs.map (λh=>(Sum.inl h.1,V.ref h.2.1))++[(Sum.inl ((g.s.beg:Int)+1),.ref ho)]:=by
    unfold bN
    rw [yo hsn];rfl
   rw [<-e];exact m6
  obtain⟨Y6,g6⟩:=Y2.addH kk q5 n4z n3 m6'
  have h0':H6 g.c.y=some (.ins C.y g.c.dx (aM _ _)):=Y6.obj
  symm
  intro p7 H7 n7 k7 e7
  refine⟨⟨((g.s.beg:Int)+1,p7,_,[.str "begins",.str nm]),⟨g.P,g.c.sHs (g.c.hs++[((g.s.beg:Int)+1,ho,kd)]),(g.s.sBeg (g.s.beg+1)).sHd (g.s.hd++[((g.s.beg:Int)+1,Hd.mk nm 0 (ns.zip xs))]),λa=>if a=ho then hoT ((g.s.beg:Int)+1) else if a=kd then kdT ((g.s.beg:Int)+1) else g.tg a⟩⟩,rfl,⟨Y6.same k7,e7,.cons (.str _) (.cons (.str _) .nil),⟨Mh _ _,Lz rfl⟩,Nat.lt_of_succ_lt h6⟩,λv H8 po=>?_⟩
  obtain⟨rfl,c8,tg8,e8,Y8,g8,k8⟩:=po
  have e8:c8.y=g.c.y:=e8
  have h0':=Y8.obj
  rw [e8] at h0'
  symm
  refine su (m:=g.s.now) (x:=(g.s.beg:Int)+1) Y8.ag (λR hR=>?_) h7 λH9 f9 a9=>?_
  ·symm
   exact hR
  obtain⟨Y9,g9⟩:=Y8.setA f9 a9
  refine q _ _ ⟨rfl,c8,tg8,e8,?_,(((g2.trans g6).trans (cG k7)).trans g8).trans g9,λx hx hd=>k8 x (LD _ hx) hd⟩
  exact Y9
end
section
variable{C:CA}{K:MF}{P:Pr}{H H':Hp}{c:Ce}{s:YS}{tg:Addr->Nat}{Q:VK}{E:XK}
theorem sB:∀{es:List Ent},bB nm (es.map λe=>(e.name,e.t))=some t->∃l1 e l2,es=l1++e::l2/\e.name=nm/\e.t=t/\∀t',(l1++{e with t:=t'}::l2).map (λe=>(e.name,e.t))=hV nm t' (es.map λe=>(e.name,e.t)):=by
 intro es
 induction es with
 | nil=>intro h;cases h
 | cons e r ih=>
  intro h
  rw [Ls] at h
  unfold bB at h
  by_cases z:e.name=nm
  ·rw [RD z] at h;cases h
   refine⟨[],e,r,rfl,z,rfl,λt'=>?_⟩
   rw [Ls];unfold hV;rw [RD z];rfl
  ·rw [RC z] at h
   obtain⟨l1,e',l2,h1,h2,h3,h4⟩:=ih h
   refine⟨e::l1,e',l2,by rw [h1];rfl,h2,h3,λt'=>?_⟩
   rw [Ls];unfold hV;rw [RC z,<-h4 t'];rfl
structure Yk(C:CA)(K:MF)(P:Pr)(H H':Hp)(c:Ce)(s':YS)(tg:Addr->Nat):Prop where
 ex:∃es,Yd C K P H' (c.sG es) s' tg
 gr:Gr H tg H' tg
theorem Yd.setT{ts:List (Str×TS)}(Y:Yd C K P H c s tg)(f:FrG (adE c.es) H H')(G:GoA C.g C.t H' c.g c.dt c.ds es)(h1:adE es=adE c.es)(h2:es.map (λe=>(e.name,e.t))=ts):Yk C K P H H' c (s.sTs ts) tg:=by
 obtain⟨Y',g⟩:=Y.setG f G h1
 rw [h2] at Y'
 exact⟨⟨es,Y'⟩,g⟩
theorem Dl(Y:Yd C K P H c s tg)(ht:bB nm s.ts=some t)(hh:h∈hs)(hq:t.que.length<200)(k:∀H',Yk C K P H H' c (s.sTs (hV nm (cz t h n).2 s.ts)) tg->Q (.bl (cz t h n).1) H'):nK C.g C.t [.ref c.g,.int h,.str nm,.int n] H Q E:=by
 rw [<-Y.ts] at ht
 obtain⟨l1,e,l2,h1,rfl,rfl,h4⟩:=sB ht
 have G:=Y.go
 rw [h1] at G
 refine CI G hh hq λH' f G'=>k H' (Y.setT (h1▸f) G' ?_ (by rw [<-Y.ts];exact h4 _))
 rw [h1,eJ,eJ]
theorem BE(h:Svd w H vs ps):SvL H vs (ps.map λp=>(p.1,w,p.2)):=by
 induction h with
 | nil=>exact .nil
 | cons a _ ih=>exact .cons a ih
theorem Dm(Y:Yd C K P H c s tg)(ht:bB nm s.ts=some t)(hh:h∈hs)(k:∀H' p r sv,Yk C K P H H' c (s.sTs (hV nm (ci t h n).2 s.ts)) tg->tg r=0->H' p=some (.tup [.int (giv t h n),.ref r])->H' r=some (.lst sv)->SvL H' sv (svT (ci t h n).1)->Q (.ref p) H'):kD C.g C.t [.ref c.g,.int h,.str nm,.int n] H Q E:=by
 rw [<-Y.ts] at ht
 obtain⟨l1,e,l2,h1,rfl,rfl,h4⟩:=sB ht
 have G:=Y.go
 rw [h1] at G
 refine uA G hh λH' p r sv f hr hp hl sd G'=>k H' p r sv (Y.setT (h1▸f) G' ?_ (by rw [<-Y.ts];exact h4 _)) (Y.tg.off hr) hp hl (BE sd)
 rw [h1,eJ,eJ]
inductive LgL (tg:Addr->Nat) (H:Hp):List V->List (Str×Int×List Sv)->Prop
 | nil:LgL tg H [] []
 | cons {p r:Addr} {i:Str×Int×List Sv} {sv vs:List V} {l:List (Str×Int×List Sv)}:H p=some (.tup [.str i.1,.int i.2.1,.ref r])->H r=some (.lst sv)->tg r=0->SvL H sv i.2.2->LgL tg H vs l->LgL tg H (.ref p::vs) (i::l)
theorem Hq(g:∀a,H0 a=none->tg a=0)(h:LvL bad H0 H vs l):LgL tg H vs (l.map λi=>(i.1,i.2.1,svT i.2.2)):=by
 induction h with
 | nil=>exact .nil
 | cons a b _ d e _ ih=>exact .cons a b (g _ d) (BE e) ih
theorem Aw:∀es:List Ent,(es.filterMap (lvI h)).map (λi=>(i.1,i.2.1,svT i.2.2))=dj h (es.map λe=>(e.name,e.t))/\(es.map (lv1 h)).map (λe=>(e.name,e.t))=(es.map λe=>(e.name,e.t)).map λp=>(p.1,cS h p.2):=by
 intro es
 induction es with
 | nil=>exact⟨rfl,rfl⟩
 | cons e r ih=>
  obtain⟨h1,h2⟩:=ih
  unfold dj at h1⊢
  simp only [Ls,Me,h2]
  unfold lvI lv1 cS
  by_cases z:0<aV e.t.held h
  ·simp only [RD z]
   exact⟨congrArg _ h1,trivial⟩
  ·simp only [RC z]
   exact⟨h1,trivial⟩
theorem Ax(Y:Yd C K P H c s tg)(hh:h∈hs)(hl:c.es.length<=10)(k:∀H' lf vs,Yk C K P H H' c (s.sTs (s.ts.map λp=>(p.1,cS h p.2))) tg->tg lf=0->H' lf=some (.lst vs)->LgL tg H' vs (dj h s.ts)->Q (.ref lf) H'):oF C.g C.t [.ref c.g,.int h] H Q E:=by
 refine⟨c.g,c.dt,c.ds,c.es,h,rfl,Y.go,hh,hl,λH' lf vs f n G' e l=>?_⟩
 have q:=Aw (h:=h) c.es
 rw [Y.ts] at q
 apply k H' lf vs (Y.setT f G' (oE _) (by rw [q.2])) (Y.tg.off n) e
 rw [<-q.1]
 exact Hq (λa ha=>Y.tg.off ha) l
end
section
variable{C:CA}{K:MF}{P:Np}{w:Nu}{mg:Str->Option Nk}{base:Heap}
theorem sC(g:Gr H tg H' tg')(h:H r=some o)(z:tg r=0):tg' r=0:=by
 rcases LR (tg' r) with q | q
 ·exact q
 ·rcases g.2 r (L5 q) with q | q
  ·exact absurd z q
  ·rw [h] at q;cases q
def F7(C:CA)(K:MF):Sp:=spY C K (B:=Int×Addr×Addr×Str×Int×TS) (λb=>[.ref b.2.1,.str b.2.2.2.1,.int b.2.2.2.2.1]) (λb g _=>(b.1,b.2.1,b.2.2.1)∈g.c.hs/\HN g.s.hd/\bB b.2.2.2.1 g.s.ts=some b.2.2.2.2.2/\b.2.2.2.2.2.que.length<=100/\g.s.lg.length+101<16000000/\g.s.ag.length<=700) (λ_ _=>.non) (λb g=>g.s.give b.1 b.2.2.2.1 b.2.2.2.2.1)
theorem nN(h1:1<=n)(h2:n<=60):n∈hs:=by
 refine List.mem_map.mpr ⟨(n-1).toNat,List.mem_range.mpr (by lia),by lia⟩
theorem uJ(q:List (Int×Int)):∀t:TS,(srv q t).1.length<=q.length:=by
 induction q with
 | nil=>intro t;exact Nat.le_refl _
 | cons p r ih=>
  intro t
  obtain⟨h,n⟩:=p
  by_cases c:n<=t.free
  ·rw [jE c];exact Nat.succ_le_succ (ih _)
  ·unfold srv;rw [RC c];exact Mf _
theorem Hr(D:MethAt K C.y "give" "Yard.give" lO ["self","hand","name","n"])(IC:Cls K C.y)(IQ:NoAttr K C.y "goods")(IM:Cls K C.d)(ID:NoAttr K C.d "number")(JC:OkM P w K mg base 3 C.g "give" ["self","hand","name","n"] (kD C.g C.t))(Jj:OkM P w K mg base 5 C.y "lay_given" ["self","hand","name","given","served"] (oK C K)):OkM P w K mg base 6 C.y "give" ["self","hand","name","n"] (F7 C K):=by
 refine D.okG IC gX (λ_=>rfl) λa f cdv A outer s0 H Q E hr p q=>?_
 obtain⟨⟨n,ho,kd,nm,m,t⟩,g⟩:=a
 dsimp only at p q⊢
 obtain⟨Y,hm,hn,h1,h2,h3,h4⟩:=p
 have h0:=Y.obj
 obtain⟨d,⟨⟨dx,d1⟩,d2⟩,dm⟩:=Y.hd.mem hm
 have nn:=Y.num hn hm
 unfold YS.give at q
 rw [h1] at q
 obtain⟨⟨dg,g0⟩,_⟩:=id Y.go
 refine⟨_,(ae (aJ (aO gq (pvM 3) ac) (aa (de (aU JC hr (ai IC IQ (pvM 0)) (bJ (ai IM ID (pvM 1)) (pvM 2) (pvM 3))) (cb 2 rfl (aL (bw 4 gX) (aL (bw 5 gX) bZ)))) (ae (aC (aU Jj hr (pvM 0) (cg (pvM 1) (pvM 2) (pvM 4) (pvM 5)))))) aA)),?_⟩
 symm
 by_cases c0:0<m
 ·rw [RD c0] at q
  apply ce c0
  symm
  refine Dm Y h1 (nN nn.1 nn.2) λH2 p2 r2 sv2 y2 t2 e2 l2 s2=>?_
  obtain⟨⟨es,Y2⟩,g2⟩:=y2
  have h0':H2 g.c.y=some (.ins C.y g.c.dx (aM _ _)):=Y2.obj
  obtain⟨d',⟨⟨dx',d1'⟩,_⟩,_⟩:=Y2.hd.mem hm
  symm
  refine⟨⟨(n,ho,nm,giv t n m,r2,sv2,svT (ci t n m).1),⟨g.P,g.c.sG es,_,g.tg⟩⟩,rfl,⟨Y2,⟨dx',d',kd,d1'⟩,l2,s2,t2,?_,h3,h4⟩,λv H3 po=>?_⟩
  ·show(List.map _ (srv t.que _).1).length<=100
   rw [Ln]
   exact Nat.le_trans (uJ _ _) h2
  ·obtain⟨rfl,c3,tg3,e3,Y3,g3,k3⟩:=po
   exact q _ _ ⟨rfl,c3,tg3,e3,Y3,g2.trans g3,λx hx hd=>k3 x hx hd⟩
 ·rw [RC c0] at q
  apply bH c0
  exact q _ _ ⟨rfl,Yp.nil Y λ_ _ e=>e⟩
def wm:List (Key×V):=[(Sum.inr "take",.str "takes"),(Sum.inr "put",.str "puts"),(Sum.inr "get",.str "gets")]
theorem sD{w:Str}(h:w= "take"\/w= "put"\/w= "get"):aZ wm (Sum.inr w)=some (.str (sg w)):=by
 rcases h with rfl | rfl | rfl<;>decide
structure BF(s:YS)(wd nm:Str):Prop where
 w:wd= "take"
 t:∃t,bB nm s.ts=some t/\t.que.length<=100
def yp(C:CA)(K:MF):Sp:=spY C K (B:=Int×Addr×Addr×Str×Str×Int) (λb=>[.ref b.2.1,.str b.2.2.2.1,.str b.2.2.2.2.1,.int b.2.2.2.2.2]) (λb g _=>(b.1,b.2.1,b.2.2.1)∈g.c.hs/\HN g.s.hd/\BF g.s b.2.2.2.1 b.2.2.2.2.1/\g.s.lg.length+101<16000000/\g.s.ag.length<=700) (λb g=>.bl (g.s.ask b.1 b.2.2.2.1 b.2.2.2.2.1 b.2.2.2.2.2).1) (λb g=>(g.s.ask b.1 b.2.2.2.1 b.2.2.2.2.1 b.2.2.2.2.2).2)
def AsZ(C:CA)(K:MF)(g:Gy)(H:Hp)(ho:Addr)(wd nm:Str)(n:Int)(r3:Bool×List Sv×YS)(σ:St)(H':Hp):Prop:=∃r sv,σ= [some (.ref g.c.y),some (.ref ho),some (.str wd),some (.str nm),some (.int n),some (.bl r3.1),some (.ref r)]/\Yk C K g.P H H' g.c r3.2.2 g.tg/\g.tg r=0/\H' r=some (.lst sv)/\SvL H' sv r3.2.1
theorem F8{s:YS}:(s.had h wd nm n).2.1.length<=100:=by
 unfold YS.had
 split<;>exact Mf _
theorem F9{s:YS}:(s.had h wd nm n).2.2.hd=s.hd/\(s.had h wd nm n).2.2.lg=s.lg/\(s.had h wd nm n).2.2.ag=s.ag:=by
 unfold YS.had
 split<;>exact⟨rfl,rfl,rfl⟩
theorem Dn(D:MethAt K C.y "ask" "Yard.ask" nH ["self","hand","word","name","n"])(IC:Cls K C.y)(IQ:NoAttr K C.y "goods")(IM:Cls K C.d)(ID:NoAttr K C.d "number")(J9:OkM P w K mg base 2 C.g "take" ["self","hand","name","n"] (nK C.g C.t))(IL:OkM P w K mg base 1 C.y "lay" ["self","number","words"] (iD C K))(Ju:OkM P w K mg base 4 C.y "wake" ["self","name","served"] (sA C K))(Kv:KD P w K K0 wm)(Kw:mg "HAD" =some (.ref K0)):OkM P w K mg base 5 C.y "ask" ["self","hand","word","name","n"] (yp C K):=by
 refine D.okG IC sc_Yard_ask (λ_=>rfl) λa f cdv A outer s0 H Q E hr p q=>?_
 obtain⟨⟨n,ho,kd,wd,nm,m⟩,g⟩:=a
 dsimp only at p q⊢
 obtain⟨Y,hm,hn,ak,h3,h4⟩:=p
 have hu:=cJ hr
 have h0:=Y.obj
 obtain⟨d,⟨⟨dx,d1⟩,d2⟩,dm⟩:=Y.hd.mem hm
 have nn:=Y.num hn hm
 obtain⟨⟨dg,g0⟩,_⟩:=id Y.go
 refine⟨_,(aa (gu (aJ (aO bz (pv 2) av) (ae (DZ (i:=5) (j:=6) rfl sc_Yard_ask.nd rfl rfl (by decide) rfl rfl (aD (aU J9 hr (ai IC IQ (pv 0)) (bJ (ai IM ID (pv 1)) (pv 3) (pv 4))) (aE a0)) rfl)) a6)) (aa (gu (aJ (fN (pv 5)) (aa (aC (aU IL hr (pv 0) (aD (ai IM ID (pv 1)) (au (bJ (zD Kv (gB rfl Kw rfl) (pv 2) (λ_ _=>rfl)) (pv 3) (pv 4)))))) (ae (aC (aU Ju hr (pv 0) (aD (pv 3) (pv 6)))))) (ae (aC (aU IL hr (pv 0) (aD (ai IM ID (pv 1)) (au (cg av (pv 2) (pv 3) (pv 4))))))))) (ae (ax (pv 5))))),?_⟩
 refine⟨AsZ C K g H ho wd nm m (g.s.had n wd nm m),?_,?_⟩
 ·symm
  apply ce ak.w
  obtain⟨t,t1,t2⟩:=ak.t
  have eh:g.s.had n wd nm m=((cz t n m).1,[],g.s.sTs (hV nm (cz t n m).2 g.s.ts)):=by unfold YS.had;rw [t1]
  rw [eh]
  symm
  refine Dl Y t1 (nN nn.1 nn.2) (by lia) λH2 y2=>?_
  symm
  intro p3 H3 n3 k3 e3
  symm
  obtain⟨⟨es,Y2⟩,g2⟩:=y2
  exact⟨p3,[],rfl,⟨⟨es,Y2.same k3⟩,g2.same k3⟩,Y2.tg.off n3,e3,.nil⟩
 ·rintro σ1 H1 ⟨r,sv,rfl,⟨⟨es,Y1⟩,g1⟩,t1,l1,s1⟩
  have hl:=F8 (s:=g.s) (h:=n) (n:=m) (wd:=wd) (nm:=nm)
  obtain⟨e1,e2,e3⟩:=F9
  have h0':H1 g.c.y=some (.ins C.y g.c.dx (aM _ _)):=Y1.obj
  obtain⟨d',⟨⟨dx',d1'⟩,_⟩,dm'⟩:=Y1.hd.mem hm
  unfold YS.ask at q
  generalize g.s.had n wd nm m=r3 at *
  obtain⟨b,its,s1'⟩:=r3
  dsimp only at *
  have hb:s1'.lg.length+101<16000000:=by rw [e2];exact h3
  have hb2:s1'.ag.length<=700:=by rw [e3];exact h4
  refine⟨λσ2 H2=>σ2[5]? =some (some (.bl b))/\Yp C K g H H2 (if b=true then (s1'.lay n [.str (sg wd),.str nm,.int m]).wake nm its else s1'.lay n [.str "queues",.str wd,.str nm,.int m]),?_,?_⟩
  ·symm
   cases b with
   | true=>
    apply ce rfl
    have kg:=sD (.inl ak.w)
    symm
    intro p3 H3 n3 k3 e3
    refine⟨⟨(n,p3,_,[.str (sg wd),.str nm,.int m]),⟨g.P,g.c.sG es,s1',g.tg⟩⟩,rfl,⟨Y1.same k3,e3,.cons (.str _) (.cons (.str _) (.cons (.int _) .nil)),⟨Mh _ _,Lz rfl⟩,by dsimp only;lia⟩,λv H4 po=>?_⟩
    obtain⟨rfl,c4,tg4,e4,Y4,g4,k4⟩:=po
    have e4:c4.y=g.c.y:=e4
    have h0'':=Y4.obj
    rw [e4] at h0''
    have gg:=(cG k3).trans g4
    symm
    refine⟨⟨(nm,r,sv,its),⟨g.P,c4,s1'.lay n [.str (sg wd),.str nm,.int m],tg4⟩⟩,by rw [<-e4],⟨Y4,gg.1 _ _ t1 l1,s1.kt (gg.kt Y1),sC gg l1 t1,hl,?_,hb2⟩,λv H5 po=>?_⟩
    ·show(s1'.lg++[_]).length+100<16000000
     rw [Lq,LN];lia
    ·obtain⟨rfl,po⟩:=po
     refine Yp.then e4 (g1.trans gg) (λx hx hd=>k4 x hx hd) po λk h=>?_
     rw [(jF nm its _).2.2.1] at h;exact h
   | false=>
    apply bH Bool.false_ne_true
    symm
    intro p3 H3 n3 k3 e3
    refine⟨⟨(n,p3,_,[.str "queues",.str wd,.str nm,.int m]),⟨g.P,g.c.sG es,s1',g.tg⟩⟩,rfl,⟨Y1.same k3,e3,.cons (.str _) (.cons (.str _) (.cons (.str _) (.cons (.int _) .nil))),⟨Mh _ _,Lz rfl⟩,by dsimp only;lia⟩,λv H4 po=>?_⟩
    obtain⟨rfl,c4,tg4,e4,Y4,g4,k4⟩:=po
    exact⟨rfl,c4,tg4,e4,Y4,g1.trans ((cG k3).trans g4),λx hx hd=>k4 x hx hd⟩
  ·rintro σ2 H2 ⟨hv,y⟩
   refine⟨_,hv,q _ _ ⟨?_,?_⟩⟩
   ·cases b<;>rfl
   ·cases b<;>exact y
theorem LgL.get(h:LgL tg H vs l){i:Nat}(e:vs[i]? =some v):∃p r x sv,v= .ref p/\l[i]? =some x/\H p=some (.tup [.str x.1,.int x.2.1,.ref r])/\H r=some (.lst sv)/\tg r=0/\SvL H sv x.2.2:=by
 induction h generalizing i with
 | nil=>cases e
 | cons a b z d _ ih=>cases i with
  | zero=>cases e;exact⟨_,_,_,_,rfl,rfl,a,b,z,d⟩
  | succ i=>rw [L6] at e⊢;exact ih e
theorem LgL.len(h:LgL tg H vs l):vs.length=l.length:=by
 induction h with
 | nil=>rfl
 | cons _ _ _ _ _ ih=>rw [Lw,Lw,ih]
def nSv(l:List (Str×Int×List Sv)):Nat:=(l.map λi=>i.2.2.length).sum
def nQ(ts:List (Str×TS)):Nat:=(ts.map λp=>p.2.que.length).sum
theorem Ay:∀ts:List (Str×TS),nSv (dj h ts)<=nQ ts/\(dj h ts).length<=ts.length:=by
 intro ts
 induction ts with
 | nil=>exact⟨Nat.le_refl _,Nat.le_refl _⟩
 | cons p r ih=>
  obtain⟨h1,h2⟩:=ih
  unfold dj at h1 h2⊢
  unfold nSv nQ at *
  rw [Me]
  by_cases z:0<aV p.2.held h
  ·simp only [RD z,Ls,Mz,Lw]
   have:(svT (ci p.2 h (aV p.2.held h)).1).length<=p.2.que.length:=by unfold svT;rw [Ln];exact uJ _ _
   lia
  ·simp only [RC z,Ls,Mz,Lw]
   lia
theorem pP(s:YS)(h:Int)(nm:Str)(n:Int)(sv:List Sv):(s.given h nm n sv).lg.length<=s.lg.length+1+sv.length/\(s.given h nm n sv).ag.length=s.ag.length+sv.length/\(s.given h nm n sv).hd=s.hd:=by
 unfold YS.given
 obtain⟨h1,h2,h3,_⟩:=jF nm sv (if 0<n then s.lay h [.str "gives",.str nm,.int n] else s)
 rw [h1,h2,h3]
 split
 ·refine⟨?_,rfl,rfl⟩
  show(s.lg++[_]).length+_<=_
  rw [Lq,LN];lia
 ·exact⟨by lia,rfl,rfl⟩
theorem sE(h:Int)(l:List (Str×Int×List Sv)):∀s:YS,(s.gone h l).lg.length<=s.lg.length+l.length+nSv l/\(s.gone h l).ag.length=s.ag.length+nSv l/\(s.gone h l).hd=s.hd:=by
 induction l with
 | nil=>intro s;exact⟨Nat.le_refl _,rfl,rfl⟩
 | cons i r ih=>
  intro s
  obtain⟨h1,h2,h3⟩:=ih (s.given h i.1 i.2.1 i.2.2)
  obtain⟨g1,g2,g3⟩:=pP s h i.1 i.2.1 i.2.2
  have e:nSv (i::r)=i.2.2.length+nSv r:=by unfold nSv;rw [Ls,Mz]
  refine⟨Nat.le_trans h1 ?_,h2.trans ?_,h3.trans g3⟩
  ·rw [e,Lw];lia
  ·rw [e,g2];lia
theorem yq(s:YS)(h:Int)(l:List (Str×Int×List Sv))(i:Str×Int×List Sv):s.gone h (l++[i])=(s.gone h l).given h i.1 i.2.1 i.2.2:=by unfold YS.gone;rw [List.foldl_append];rfl
theorem Az(l:List (Str×Int×List Sv)):∀(i:Nat) (x:Str×Int×List Sv),l[i]? =some x->nSv (l.take i)+x.2.2.length<=nSv l/\x.2.2.length<=nSv l:=by
 induction l with
 | nil=>intro i x h;cases h
 | cons y r ih=>
  intro i x h
  have e:nSv (y::r)=y.2.2.length+nSv r:=by unfold nSv;rw [Ls,Mz]
  cases i with
  | zero=>cases h;rw [e];exact⟨by unfold nSv;simp,by lia⟩
  | succ i=>
   obtain⟨h1,h2⟩:=ih i x h
   have e2:nSv ((y::r).take (i+1))=y.2.2.length+nSv (r.take i):=by unfold nSv;rw [List.take_succ_cons,Ls,Mz]
   rw [e];lia
theorem AA(hs:List (Int×Addr×Addr)):ig (hs.map λh=>((Sum.inl h.1:Key),V.ref h.2.1)) (Sum.inl n)=(hs.filter λx=>decide (x.1≠n)).map λh=>(Sum.inl h.1,V.ref h.2.1):=by
 unfold ig
 rw [List.filter_map]
 congr 1
 refine List.filter_congr λx _=>?_
 show decide ((Sum.inl x.1:Key)≠Sum.inl n)=decide (x.1≠n)
 by_cases z:x.1=n
 ·rw [z];simp
 ·simp [z]
def yr(C:CA)(K:MF):Sp:=spY C K (B:=Int×Addr×Addr) (λb=>[.ref b.2.1]) (λb g _=>b∈g.c.hs/\HN g.s.hd/\g.s.ts.length<=10/\nQ g.s.ts<=100/\g.s.lg.length+400<16000000/\g.s.ag.length<=600) (λ_ _=>.non) (λb g=>g.s.endH b.1)
def EnI(C:CA)(K:MF)(g2:Gy)(ho:Addr)(n:Int)(l:List (Str×Int×List Sv))(H2:Hp)(i:Nat)(σ:St)(H':Hp):Prop:=(∃v2 v3 v4,σ= [some (.ref g2.c.y),some (.ref ho),v2,v3,v4])/\Yp C K g2 H2 H' (g2.s.gone n (l.take i))
theorem Do(D:MethAt K C.y "end_hand" "Yard.end_hand" iA ["self","hand"])(IC:Cls K C.y)(IP:NoAttr K C.y "hands")(IQ:NoAttr K C.y "goods")(IM:Cls K C.d)(ID:NoAttr K C.d "number")(IL:OkM P w K mg base 1 C.y "lay" ["self","number","words"] (iD C K))(J5:OkM P w K mg base 4 C.g "leave" ["self","hand"] (oF C.g C.t))(Jj:OkM P w K mg base 5 C.y "lay_given" ["self","hand","name","given","served"] (oK C K)):OkM P w K mg base 6 C.y "end_hand" ["self","hand"] (yr C K):=by
 refine D.okG IC cZ (λ_=>rfl) λa f cdv A outer s0 H Q E hr p q=>?_
 obtain⟨⟨n,ho,kd⟩,g⟩:=a
 dsimp only at p q⊢
 obtain⟨Y,hm,hn,h1,h2,h3,h4⟩:=p
 have hu:=cJ hr
 have h0:=Y.obj
 obtain⟨d,⟨⟨dx,d1⟩,d2⟩,dm⟩:=Y.hd.mem hm
 have nn:=Y.num hn hm
 have dh:=Y.dh
 have vh:=uF (Y.nd hn) hm
 have th:=Y.tg.hd _ hm
 refine⟨_,(aa (aC (zr (ai IC IP (pvM 0)) (ai IM ID (pvM 1)) ⟨rfl,rfl,rfl,rfl⟩)) (aa (aC (aU IL hr (pvM 0) (aD (ai IM ID (pvM 1)) (au (aG av))))) (ae (cH NE.never rfl (bp (aU J5 hr (ai IC IQ (pvM 0)) (aG (ai IM ID (pvM 1))))) (cb 3 rfl (aL (bw 2 cZ) (aL (bw 3 cZ) (aL (bw 4 cZ) bZ)))) (ae (aC (aU Jj hr (pvM 0) (cg (pvM 1) (pvM 2) (pvM 3) (pvM 4))))))))),?_⟩
 symm
 refine⟨⟨_,rfl⟩,?_⟩
 symm
 intro H1 m1
 rw [AA] at m1
 obtain⟨Y1,g1⟩:=Y.delH hn nn.1 m1
 have h0':H1 g.c.y=some (.ins C.y g.c.dx (aM _ _)):=Y1.obj
 have d1':=m1.old d1 λz=>by rw [z,dh] at d1;cases d1
 have z1:(λa=>if g.tg a=hoT n\/g.tg a=kdT n then 0 else g.tg a) ho=0:=RD (.inl th.1)
 generalize (λa=>if g.tg a=hoT n\/g.tg a=kdT n then 0 else g.tg a)=tg1 at *
 symm
 intro p2 H2 n2 k2 e2
 refine⟨⟨(n,p2,_,[.str "ends"]),⟨g.P,g.c.sHs (g.c.hs.filter λx=>decide (x.1≠n)),g.s.sHd (g.s.hd.filter λp=>decide (p.1≠n)),tg1⟩⟩,rfl,⟨Y1.same k2,e2,.cons (.str _) .nil,⟨Mh _ _,Lz rfl⟩,L7 (Mx _ _) h3⟩,λv H3 po=>?_⟩
 obtain⟨rfl,c3,tg3,e3,Y3,g3,k3⟩:=po
 have e3:c3.y=g.c.y:=e3
 have g13:=(cG k2).trans g3
 have d3:=g13.1 _ _ z1 d1'
 have z3:=sC g13 d1' z1
 have h0'':=Y3.obj
 rw [e3] at h0''
 obtain⟨⟨dg,g0⟩,_⟩:=id Y3.go
 have hl3:c3.es.length=g.s.ts.length:=by
  have:=congrArg List.length Y3.ts
  rw [Ln] at this;exact this
 clear h0' d1'
 symm
 apply cE
 simp only [bU]
 symm
 refine Ax Y3 (nN nn.1 nn.2) (by lia) λH4 lf vs y4 z4 e4 l4=>?_
 obtain⟨⟨es,Y4⟩,g4⟩:=y4
 refine⟨lf,rfl,⟨_,SqL.of e4⟩,?_⟩
 have d4:=g4.1 _ _ z3 d3
 obtain⟨lv1,lv2⟩:=Ay g.s.ts
 have e5:(c3.sG es).y=g.c.y:=e3
 have hg:g.s.endH n=((((g.s.sHd (g.s.hd.filter λp=>decide (p.1≠n))).lay n [.str "ends"]).sTs (g.s.ts.map λp=>(p.1,cS n p.2))).gone n (dj n g.s.ts)):=rfl
 rw [hg] at q
 have l4:LgL tg3 H4 vs (dj n g.s.ts):=l4
 have Y4:Yd C K g.P H4 (c3.sG es) (((g.s.sHd (g.s.hd.filter λp=>decide (p.1≠n))).lay n [.str "ends"]).sTs (g.s.ts.map λp=>(p.1,cS n p.2))) tg3:=Y4
 have b1:(((g.s.sHd (g.s.hd.filter λp=>decide (p.1≠n))).lay n [.str "ends"]).sTs (g.s.ts.map λp=>(p.1,cS n p.2))).lg.length=g.s.lg.length+1:=by
  show(g.s.lg++[_]).length=_
  rw [Lq,LN]
 have b2:(((g.s.sHd (g.s.hd.filter λp=>decide (p.1≠n))).lay n [.str "ends"]).sTs (g.s.ts.map λp=>(p.1,cS n p.2))).ag.length=g.s.ag.length:=rfl
 have b3:(((g.s.sHd (g.s.hd.filter λp=>decide (p.1≠n))).lay n [.str "ends"]).sTs (g.s.ts.map λp=>(p.1,cS n p.2))).hd=g.s.hd.filter λp=>decide (p.1≠n):=rfl
 have kp4:∀x∈g.c.hs,(∃d,(x.1,d)∈g.s.hd.filter λp=>decide (p.1≠n))->x∈(c3.sG es).hs:=λx hx hd=>k3 x (List.mem_filter.mpr ⟨hx,by
  obtain⟨d,h⟩:=hd
  exact(List.mem_filter.mp h).2⟩) hd
 have gr4:=(g1.trans g13).trans g4
 generalize (((g.s.sHd (g.s.hd.filter λp=>decide (p.1≠n))).lay n [.str "ends"]).sTs (g.s.ts.map λp=>(p.1,cS n p.2)))=s4 at *
 generalize dj n g.s.ts=l at *
 generalize c3.sG es=c4 at *
 refine dD (xs:=vs) (EnI C K ⟨g.P,c4,s4,tg3⟩ ho n l H4) ⟨⟨none,none,none,by rw [e5]⟩,Yp.nil Y4 λ_ _ e=>e⟩ (λi σ H5 _ h=>?_) ?_ ?_
 ·obtain⟨_,c5,tg5,_,_,g5,_⟩:=h
  exact SqL.of (g5.1 _ _ z4 e4)
 ·rintro i x σ H5 hx ⟨⟨o2,o3,o4,rfl⟩,c5,tg5,e6,Y5,g5,k5⟩
  obtain⟨p,r,it,sv,rfl,ei,x1,x2,x3,x4⟩:=l4.get hx
  have et:=bY ei
  obtain⟨w1,w2,w3⟩:=sE n (l.take i) s4
  obtain⟨u1,u2⟩:=Az l i it ei
  have lt:(l.take i).length<=l.length:=by rw [Ma];lia
  have e6:=e6.trans e5
  have hy:=Y5.obj
  rw [e6] at hy
  have k45:=g5.kt Y4
  have x1':=k45 _ _ x1
  have d5:=g5.1 _ _ z3 d4
  have v1:it.2.2.length<=100:=by lia
  have v2:(s4.gone n (l.take i)).lg.length+101<16000000:=by lia
  have v3:(s4.gone n (l.take i)).ag.length<=700:=by lia
  symm
  refine⟨⟨(n,ho,it.1,it.2.1,r,sv,it.2.2),⟨g.P,c5,s4.gone n (l.take i),tg5⟩⟩,by rw [<-e6],⟨Y5,⟨dx,d,kd,d5⟩,g5.1 _ _ x3 x2,x4.kt k45,sC g5 x2 x3,v1,v2,v3⟩,λv H6 po=>?_⟩
  obtain⟨rfl,po⟩:=po
  refine⟨⟨_,_,_,by rw [e5]⟩,?_⟩
  rw [et,yq]
  refine Yp.then (e6.trans e5.symm) g5 k5 po λm h=>?_
  rw [(pP _ _ _ _ _).2.2] at h
  exact h
 ·rintro σ H5 ⟨_,c5,tg5,e6,Y5,g5,k5⟩
  rw [LH (M0 l4.len.symm)] at Y5 k5
  refine q _ _ ⟨rfl,c5,tg5,e6.trans e5,Y5,gr4.trans g5,λx hx hd=>k5 x (kp4 x hx ?_) hd⟩
  rw [(sE n l s4).2.2,b3] at hd
  exact hd
structure YB(s:YS):Prop where
 hn:HN s.hd
 ag:s.ag.length<=600
 bg:s.beg<=60
 nb:∀p∈s.hd,p.1<=s.beg
inductive fj (s:YS):Str->List Str->List Int->Prop
 | wait {m:Int}:fj s "wait" [] [m]
 | ask {wd nm:Str} {m:Int}:BF s wd nm->fj s wd [nm] [m]
 | give {nm:Str} {m:Int} {t:TS}:bB nm s.ts=some t->t.que.length<=100->fj s "give" [nm] [m]
 | say {x:Str} {m:Int}:fj s "say" [x] [m]
theorem Ga(B:YB s):s.hd.length<=1000:=by
 have:=qB B.hn.nd λx hx=>by
  obtain⟨p,hp,e⟩:=List.mem_map.mp hx
  have:=B.hn.ps p hp
  exact e▸nN this.1 this.2
 rw [Ln] at this
 exact Nat.le_trans this (by decide)
section
variable{s:YS}{n m:Int}{nm x r:Str}{xs:List Int}
theorem pQ:s.deed n "wait" [] [m]=(false,s.wait n (if 0<m then m else 0)):=rfl
theorem mC:s.deed n "take" [nm] [m]=if m<1 then (true,s) else s.ask n "take" nm m:=rfl
theorem pR:s.deed n "give" [nm] [m]=((s.give n nm m).st.isNone,s.give n nm m):=rfl
theorem sH:s.deed n "say" [x] [m]=((s.lay n [.str "says",.str x,.int m]).st.isNone,s.lay n [.str "says",.str x,.int m]):=rfl
end
def uK(C:CA)(K:MF):Sp:=spY C K (B:=Int×Addr×Addr×Str×Addr×List Str×Addr×List Int) (λb=>[.ref b.2.1,.str b.2.2.2.1,.ref b.2.2.2.2.1,.ref b.2.2.2.2.2.2.1]) (λb g H=>(b.1,b.2.1,b.2.2.1)∈g.c.hs/\H b.2.2.2.2.1=some (.tup (b.2.2.2.2.2.1.map .str))/\H b.2.2.2.2.2.2.1=some (.lst (b.2.2.2.2.2.2.2.map .int))/\YB g.s/\fj g.s b.2.2.2.1 b.2.2.2.2.2.1 b.2.2.2.2.2.2.2/\g.s.lg.length+500<16000000) (λb g=>.bl (g.s.deed b.1 b.2.2.2.1 b.2.2.2.2.2.1 b.2.2.2.2.2.2.2).1) (λb g=>(g.s.deed b.1 b.2.2.2.1 b.2.2.2.2.2.1 b.2.2.2.2.2.2.2).2)
theorem AB(D:MethAt K C.y "deed" "Yard.deed" lM ["self","hand","word","names","numbers"])(IC:Cls K C.y)(IF:NoAttr K C.y "stopped")(IM:Cls K C.d)(ID:NoAttr K C.d "number")(Jx:NoAttr K C.d "known")(JS:OkM P w K mg base 4 C.y "wait" ["self","hand","moments"] (yn C K))(JZ:OkM P w K mg base 5 C.y "ask" ["self","hand","word","name","n"] (yp C K))(JT:OkM P w K mg base 6 C.y "give" ["self","hand","name","n"] (F7 C K))(IL:OkM P w K mg base 1 C.y "lay" ["self","number","words"] (iD C K))(Kk:mg "max" =none)(Kv:KD P w K K0 wm)(Kw:mg "HAD" =some (.ref K0)):OkM P w K mg base 7 C.y "deed" ["self","hand","word","names","numbers"] (uK C K):=by
 refine D.okG IC rV (λ_=>rfl) λa f cdv A outer s0 H Q E hr p q=>?_
 obtain⟨⟨n,ho,kd,wd,na,ns,xa,xs⟩,g⟩:=a
 dsimp only at p q⊢
 obtain⟨Y,hm,h1,h2,B,dk,h3⟩:=p
 have hu:=cJ hr
 have h0:=Y.obj
 obtain⟨d,⟨⟨dx,d1⟩,d2⟩,dm⟩:=Y.hd.mem hm
 refine⟨_,(aa (aJ (aO bz (pvM 2) av) (aa (aC (aU JS hr (pvM 0) (aD (pvM 1) (gc (jZ rfl) Kk (aD ac (aq (pvM 4) ac)))))) (ae (ax cN))) aA) (aa (aJ (aO bz (pvM 2) av) a6 aA) (aa (aJ (wL (Cp Kv (pvM 2) (gB rfl Kw rfl)) (by with_unfolding_all rfl)) (ae (ax (A1 (fK vf (aq (pvM 4) ac) ac) (jU (aU JZ hr (pvM 0) (cg (pvM 1) (pvM 2) (aq (pvM 3) ac) (aq (pvM 4) ac))))))) aA) (aa (gu (aJ (aO bz (pvM 2) av) (ae (aC (aU JT hr (pvM 0) (bJ (pvM 1) (aq (pvM 3) ac) (aq (pvM 4) ac))))) (ae (aJ (aO bz (pvM 2) av) a6 (ae (aJ (aO bz (pvM 2) av) a6 (ae (aJ (aO bz (pvM 2) av) (ae (aC (aU IL hr (pvM 0) (aD (ai IM ID (pvM 1)) (au (bJ av (aq (pvM 3) ac) (aq (pvM 4) ac))))))) a6)))))))) (ae (ax (fK iU (ai IC IF (pvM 0)) bV))))))),?_⟩
 cases dk with
 | @wait m=>
  rw [pQ] at q
  symm
  refine⟨⟨(n,ho,kd,if 0<m then m else 0),g⟩,rfl,⟨Y,hm,by dsimp only;lia,Nat.le_trans B.ag (by decide)⟩,λv H2 po=>?_⟩
  exact q _ _ ⟨rfl,po.2⟩
 | @ask wd nm m ak=>
  obtain⟨rfl,_⟩:=id ak
  rw [mC] at q
  have kg:=sD (.inl rfl)
  symm
  apply ce rfl
  symm
  by_cases c0:m<1
  ·rw [RD c0] at q
   apply ce c0
   exact q _ _ ⟨rfl,Yp.nil Y λ_ _ e=>e⟩
  ·rw [RC c0] at q
   apply bH c0
   symm
   refine⟨⟨(n,ho,kd,"take",nm,m),g⟩,rfl,⟨Y,hm,B.hn,ak,by dsimp only;lia,Nat.le_trans B.ag (by decide)⟩,λv H2 po=>?_⟩
   obtain⟨rfl,po⟩:=po
   exact q _ _ ⟨rfl,po⟩
 | @give nm m t t1 t2=>
  rw [pR] at q
  symm
  apply bH (by decide)
  symm
  refine⟨(λσ1 H1=>σ1= [some (.ref g.c.y),some (.ref ho),some (.str "give"),some (.ref na),some (.ref xa)]/\Yp C K g H H1 (g.s.give n nm m)),?_,?_⟩
  rotate_left
  ·rintro _ H2 ⟨rfl,c2,tg2,e2,Y2,g2,k2⟩
   have hy:=Y2.obj
   rw [e2] at hy
   symm
   rw [sx Y2.sv]
   exact q _ _ ⟨rfl,c2,tg2,e2,Y2,g2,k2⟩
  symm
  refine⟨⟨(n,ho,kd,nm,m,t),g⟩,rfl,⟨Y,hm,B.hn,t1,t2,by dsimp only;lia,Nat.le_trans B.ag (by decide)⟩,λv H2 po=>?_⟩
  exact po.2
 | @say x m=>
  symm
  apply bH (by decide)
  symm
  refine⟨(λσ1 H1=>σ1= [some (.ref g.c.y),some (.ref ho),some (.str "say"),some (.ref na),some (.ref xa)]/\Yp C K g H H1 (g.s.lay n [.str "says",.str x,.int m])),?_,?_⟩
  rotate_left
  ·rintro _ H2 ⟨rfl,c2,tg2,e2,Y2,g2,k2⟩
   have hy:=Y2.obj
   rw [e2] at hy
   symm
   rw [sx Y2.sv]
   exact q _ _ ⟨rfl,c2,tg2,e2,Y2,g2,k2⟩
  intro p3 H3 n3 k3 e3'
  refine⟨⟨(n,p3,_,[.str "says",.str x,.int m]),g⟩,rfl,⟨Y.same k3,e3',.cons (.str _) (.cons (.str _) (.cons (.int _) .nil)),⟨Mh _ _,Lz rfl⟩,by dsimp only;lia⟩,λv H4 po=>?_⟩
  obtain⟨rfl,c4,tg4,e4,Y4,g4,k4⟩:=po
  exact⟨rfl,c4,tg4,e4,Y4,(cG k3).trans g4,k4⟩
def wn(P:Pr)(o:Ot):Prop:=match o with
 | .start _ nm _=>∃ns,bB nm P.nms=some ns/\ns.Nodup/\ns.length<=100
def uL(C:CA)(K:MF):Sp:=spY C K (B:=Ot) (λ_=>[]) (λo g _=>g.P.out[g.s.done]? =some o/\wn g.P o/\YB g.s/\g.s.lg.length+500<16000000) (λ_ _=>.non) (λ_ g=>g.s.doOut g.P)
theorem AC(D:MethAt K C.y "do_outer" "Yard.do_outer" iy ["self"])(IC:Cls K C.y)(IU:NoAttr K C.y "outer")(IK:NoAttr K C.y "outer_done")(JM:OkM P w K mg base 4 C.y "begin" ["self","name","numbers"] (uH C K)):OkM P w K mg base 5 C.y "do_outer" ["self"] (uL C K):=by
 refine D.okG IC gU (λ_=>rfl) λa f cdv A outer s0 H Q E hr p q=>?_
 obtain⟨o,g⟩:=a
 dsimp only at p q⊢
 obtain⟨Y,ho,oo,B,h3⟩:=p
 have h0:=Y.obj
 obtain⟨vs,a,xs0,o1,o2,o3,o4⟩:=Y.outAt ho
 have oi:=atN o2
 unfold YS.doOut at q
 rw [ho] at q
 refine⟨_,(aa (aQ 1 gU (aq (ai IC IU (pvM 0)) (ai IC IK (pvM 0)))) (aa (aI IC IK (pvM 0) (az bc (ai IC IK (pvM 0)) ac)) (ae (aJ (aO bz (aq (pvM 1) ac) av) (ae (aC (aU JM hr (pvM 0) (aD (aq (pvM 1) ac) (aq (pvM 1) ac))))) a6)))),?_⟩
 symm
 intro H1 m1
 obtain⟨Y1,g1⟩:=Y.setY (s':=g.s.sDone (g.s.done+1)) m1 ⟨rfl,rfl,rfl,rfl,rfl,rfl,rfl⟩
 have h0':=Y1.obj
 have r1:=bj (g1.kt Y) o4
 cases o with
 | start m nm xs=>
  obtain⟨ns,n1,n2,n3⟩:=oo
  obtain⟨_,ys,e,a1,a2⟩:=dq r1
  cases e
  cases a2 with | cons b1 a2=>cases a2 with | cons b2 a2=>cases a2 with | cons b3 a2=>cases a2 with | cons b4 a2=>
  cases a2;cases b2;cases b3
  obtain⟨xa,ys,rfl,x1,x2⟩:=dq b4
  have ex:=Ar x2
  subst ex
  symm
  refine⟨⟨(nm,ns,xa,xs),⟨g.P,g.c,g.s.sDone (g.s.done+1),g.tg⟩⟩,rfl,⟨Y1,n1,n2,n3,.inr x1,B.bg,B.nb,(show g.s.hd.length<=1000 from Ga B),by show g.s.lg.length+1<16000000;lia,Nat.le_trans B.ag (by decide)⟩,λv H2 po=>?_⟩
  obtain⟨_,c2,tg2,e2,Y2,g2,k2⟩:=po
  exact q _ _ ⟨rfl,c2,tg2,e2,Y2,g1.trans g2,λx hx hd=>k2 x hx hd⟩
inductive Shp:Str->List Str->List Tr->Prop
 | wait {e:Tr}:Shp "wait" [] [e]
 | one {w x:Str} {e:Tr}:w∈(["take","give","say"]:List Str)->Shp w [x] [e]
def kJ:Sm->Prop
 | .pl w _ ns es=>Shp w ns es
def mD:List Sm->Prop
 | []=>True
 | s::r=>kJ s/\mD r
theorem cU(h:FzL K H xs (d::ds)):∃v r,xs=v::r/\Fz K H v d/\FzL K H r ds:=by
 cases h with | cons a b=>exact⟨_,_,rfl,a,b⟩
theorem yt(h:Fz K H v (.str x)):v= .str x:=by cases h;rfl
theorem yu(h:Fz K H v (.int x)):v= .int x:=by cases h;rfl
theorem sI(h:FzL K H xs []):xs= []:=by cases h;rfl
theorem nP(h:Fz K H v (smD (.pl wd k ns es))):∃a xs,v= .ref a/\H a=some (.tup (.str wd::.int k::xs))/\FzL K H xs (ns.map .str++es.map trD):=by
 obtain⟨a,xs,rfl,h1,h2⟩:=dq h
 obtain⟨v1,r,rfl,f1,h2⟩:=cU h2
 obtain⟨v2,r,rfl,f2,h2⟩:=cU h2
 rw [yt f1,yu f2] at h1
 exact⟨a,r,rfl,h1,h2⟩
theorem none_of(k:Same H H1)(h:H1 p=none):H p=none:=by
 cases z:H p with
 | none=>rfl
 | some u=>rw [k _ _ z] at h;cases h
theorem nR{w:Str}(h:w∈(["take","give","say"]:List Str)):w≠"start"/\w≠"wait"/\w≠"if"/\w≠"while"/\w≠"draw"/\w≠"stop":=by
 simp only [Ms,Lr,or_false] at h
 rcases h with rfl | rfl | rfl<;>decide
theorem yv{w:Str}(h:Shp w ns es):w≠"if"/\w≠"while":=by
 cases h with
 | wait=>decide
 | one h=>exact⟨(nR h).2.2.1,(nR h).2.2.2.1⟩
def Gb(K:MF):Sp:=spG (A:=Addr×Sm) (λa=>[.ref a.1]) (λa H=>Fz K H (.ref a.1) (smD a.2)/\kJ a.2) (λa H v H'=>∃r vs,v= .ref r/\H r=none/\Same H H'/\H' r=some (.lst vs)/\FzL K H' vs (a.2.es.map trD))
theorem Hs(D:DefAt K mg "expressions_of" gS ["statement"])(Jq:mg "list" =none):OkD P w K mg base 1 "expressions_of" ["statement"] (Gb K):=by
 refine D.okG gj (λ_=>rfl) λa f cdv A outer s0 H Q E hr p q=>?_
 obtain⟨a,s⟩:=a
 dsimp only at p q⊢
 obtain⟨h,ok⟩:=p
 have fin:∀r H' vs,H r=none->Same H H'->H' r=some (.lst vs)->FzL K H vs (s.es.map trD)->Q (.ref r) H':=λr H' vs hr g e f=>q _ _ ⟨r,vs,rfl,hr,g,e,bi (Kt.of g) f⟩
 refine⟨_,(aa (aQ 1 gj (aq (pvM 0) ac)) (aa (aJ (aO bz (pvM 1) av) a6 aA) (aa (aJ (aO bz (pvM 1) av) (ae (ax (aE (aG (aq (pvM 0) ac))))) aA) (aa (aJ (iV mQ (pvM 1) (au (aD av av)) (by with_unfolding_all rfl)) a6 aA) (aa (aJ (iV mQ (pvM 1) (au (aD av av)) (by with_unfolding_all rfl)) a6 aA) (ae (ax (aE (aG (aq (pvM 0) ac)))))))))),?_⟩
 obtain⟨wd,k,ns,es⟩:=s
 obtain⟨_,xs,e,h1,h2⟩:=nP h
 cases e
 cases ok with
 | wait=>
  obtain⟨v1,r,rfl,g1,h2⟩:=cU h2
  symm
  intro p1 H1 n1 k1 e1
  exact fin p1 H1 _ n1 k1 e1 (.cons g1 .nil)
 | @one _ x e hw=>
  obtain⟨n1,n2,n3,n4,n5,n6⟩:=nR hw
  obtain⟨v1,r,rfl,g1,h2⟩:=cU h2
  obtain⟨v2,r,rfl,g2,h2⟩:=cU h2
  symm
  intro p1 H1 m1 k1 e1
  have h1':=k1 _ _ h1
  symm
  refine bH (by rw [decide_eq_false (Ne.symm n3),decide_eq_false (Ne.symm n4)];decide) ?_
  symm
  intro p2 H2 m2 k2 e2
  have h1'':=k2 _ _ h1'
  symm
  refine bH (by rw [decide_eq_false (Ne.symm n5),decide_eq_false (Ne.symm n6)];decide) ?_
  symm
  intro p3 H3 m3 k3 e3
  exact fin p3 H3 _ (none_of k1 (none_of k2 m3)) (aW (aW k1 k2) k3) e3 (.cons g2 .nil)
def Gc(K:MF):Sp:=spG (A:=Addr×Sm) (λa=>[.ref a.1]) (λa H=>Fz K H (.ref a.1) (smD a.2)/\kJ a.2) (λa H v H'=>∃r,v= .ref r/\Same H H'/\H' r=some (.tup (a.2.ns.map .str)))
theorem Ht(D:DefAt K mg "names_of" nC ["statement"]):OkD P w K mg base 1 "names_of" ["statement"] (Gc K):=by
 refine D.okG lI (λ_=>rfl) λa f cdv A outer s0 H Q E hr p q=>?_
 obtain⟨a,s⟩:=a
 dsimp only at p q⊢
 obtain⟨h,ok⟩:=p
 have fin:∀r H',Same H H'->H' r=some (.tup (s.ns.map .str))->Q (.ref r) H':=λr H' g e=>q _ _ ⟨r,rfl,g,e⟩
 refine⟨_,(aa (aQ 1 lI (aq (pvM 0) ac)) (aa (aJ (iV mQ (pvM 1) (au (cg av av av av)) (by with_unfolding_all rfl)) (ae (ax (au a0))) aA) (aa (aJ (aO bz (pvM 1) av) a6 aA) (ae (ax (au (aG (aq (pvM 0) ac)))))))),?_⟩
 obtain⟨wd,k,ns,es⟩:=s
 obtain⟨_,xs,e,h1,h2⟩:=nP h
 cases e
 cases ok with
 | wait=>
  symm
  intro p1 H1 n1 k1 e1
  symm
  intro p2 H2 n2 k2 e2
  exact fin p2 H2 (aW k1 k2) e2
 | @one _ x e hw=>
  obtain⟨n1,n2,n3,n4,n5,n6⟩:=nR hw
  obtain⟨v1,r,rfl,g1,h2⟩:=cU h2
  obtain⟨v2,r,rfl,g2,h2⟩:=cU h2
  rw [yt g1] at h1
  symm
  intro p1 H1 m1 k1 e1
  have h1':=k1 _ _ h1
  symm
  refine bH (by rw [decide_eq_false (Ne.symm n2),decide_eq_false (Ne.symm n3),decide_eq_false (Ne.symm n4),decide_eq_false (Ne.symm n6)];decide) ?_
  symm
  intro p2 H2 m2 k2 e2
  exact fin p2 H2 (aW k1 k2) e2
def Gd(K:MF):Sp:=spG (A:=Addr×Sm) (λa=>[.ref a.1]) (λa H=>Fz K H (.ref a.1) (smD a.2)/\kJ a.2) (λa H v H'=>∃r,v= .ref r/\Same H H'/\H' r=some (.lst []))
theorem Hu(D:DefAt K mg "bodies_of" lH ["statement"]):OkD P w K mg base 1 "bodies_of" ["statement"] (Gd K):=by
 refine D.okG rR (λ_=>rfl) λa f cdv A outer s0 H Q E hr p q=>?_
 obtain⟨a,s⟩:=a
 dsimp only at p q⊢
 obtain⟨h,ok⟩:=p
 refine⟨_,(aa (aJ (aO bz (aq (pvM 0) ac) av) a6 aA) (aa (aJ (aO bz (aq (pvM 0) ac) av) a6 aA) (ae (ax (aE a0))))),?_⟩
 obtain⟨_,xs,e,h1,h2⟩:=nP h
 cases e
 obtain⟨n1,n2⟩:=yv ok
 symm
 intro p1 H1 n1 k1 e1
 exact q _ _ ⟨p1,rfl,k1,e1⟩
end
theorem oM:∀l:List Sm,bdD l=l.map smD
 | []=>by unfold bdD;rfl
 | s::r=>by unfold bdD;rw [oM r];rfl
theorem sJ:∀{l:List Sm} {s:Sm},mD l->s∈l->kJ s
 | x::r,s,k,h=>by
  rcases List.mem_cons.mp h with rfl | h
  ·exact k.1
  ·exact sJ k.2 h
section
variable{C:CA}{K:MF}{P:Np}{w:Nu}{mg:Str->Option Nk}{base:Heap}
def paD(x:List Sm×Nat):Nq:=.tuple [.tuple (bdD x.1),.int x.2]
def PaL(K:MF)(H:Hp)(l:Addr)(p:cf):Prop:=∃vs,H l=some (.lst vs)/\FzL K H vs (p.map paD)
theorem PaL.same(g:Same H H')(h:PaL K H l p):PaL K H' l p:=by
 obtain⟨vs,h1,h2⟩:=h
 exact⟨vs,g _ _ h1,bi (Kt.of g) h2⟩
theorem wo(h:H t=some (.tup [.ref b,.int i]))(f:Fz K H (.ref b) (.tuple (bdD bd))):Fz K H (.ref t) (paD (bd,i)):=Rp.tup (fh h) (.cons f (.cons (.int _) .nil))
theorem wq(h:Fz K H v (smD s)):∃a xs,v= .ref a/\H a=some (.tup (.str s.w::.int s.k::xs)):=by
 cases s with
 | pl=>obtain⟨a,xs,e,h1,_⟩:=nP h;exact⟨a,xs,e,h1⟩
def PbI(H:Hp)(bd:List Sm)(b:Addr)(row:Int)(i:Nat)(σ:St)(H':Hp):Prop:=∃v2 v3 v4 v5,σ= [some (.ref b),some (.int row),v2,v3,v4,v5]/\Same H H'/\fL bd row 0 bd=fL bd row i (bd.drop i)
def Ge(K:MF):Sp:=spG (A:=Addr×List Sm×Int) (λa=>[.ref a.1,.int a.2.2]) (λa H=>Fz K H (.ref a.1) (.tuple (bdD a.2.1))/\mD a.2.1) (λa H v H'=>∃l,v= .ref l/\H l=none/\Same H H'/\PaL K H' l (dC a.2.1 a.2.2))
theorem Hv(D:DefAt K mg "path_behind" jO ["body","row"])(Km:mg "enumerate" =none)(Kf:OkD P w K mg base 1 "bodies_of" ["statement"] (Gd K)):OkD P w K mg base 2 "path_behind" ["body","row"] (Ge K):=by
 refine D.okG dN (λ_=>rfl) λa f cdv A outer s0 H Q E hr p q=>?_
 obtain⟨b,bd,row⟩:=a
 dsimp only at p q⊢
 obtain⟨h,ok⟩:=p
 refine⟨_,(aa (aJ (aO bz (pvM 1) ac) (ae (ax (aE (aG (au (aD (pvM 0) ac)))))) aA) (aa (cH NE.never rfl (zI rfl Km (aG (pvM 0))) (cb 2 rfl (aL (bw 2 dN) (aL (bw 3 dN) bZ))) (aa (aJ (aO bz (aq (pvM 3) ac) (pvM 1)) (ae (ax (aE (aG (au (aD (pvM 0) (az bc (pvM 2) ac))))))) aA) (ae (cH NE.never rfl (bp (aR Kf hr rfl (aG (pvM 3)))) (bw 4 dN) a6)))) (ae (ax (aE a0))))),?_⟩
 obtain⟨_,xs,e,h1,h2⟩:=dq h
 cases e
 by_cases c:row=0
 ·have ep:dC bd row= [(bd,0)]:=by unfold dC;rw [RD c]
  rw [ep] at q
  symm
  intro p1 H1 n1 k1 e1
  symm
  exact λp2 H2 n2 k2 e2=>q _ _ ⟨p2,rfl,none_of k1 n2,aW k1 k2,_,e2,.cons (wo (i:=0) (k2 _ _ e1) (bj (Kt.of (aW k1 k2)) h)) .nil⟩
 ·have ep:dC bd row=fL bd row 0 bd:=by unfold dC;rw [RC c]
  rw [ep] at q
  symm
  apply cE
  symm
  rw [oM] at h2
  refine⟨⟨_,SqT.of h1⟩,xO xs (PbI H bd b row) ⟨none,none,none,none,rfl,λ_ _ z=>z,rfl⟩ (λi σ H2 _ zz=>?_) (λi x σ H2 p H3 hx zz hp g3 h3=>?_) λσ H2 zz=>?_⟩
  ·obtain⟨_,_,_,_,_,g,_⟩:=zz
   exact SqT.of (g _ _ h1)
  ·obtain⟨v2,v3,v4,v5,rfl,g2,iv⟩:=zz
   have hi:i<bd.length:=by
    have l1:=bT h2
    rw [Ln] at l1
    rw [<-l1]
    exact(List.getElem?_eq_some_iff.mp hx).1
   obtain⟨sm,hs⟩:∃sm,bd[i]? =some sm:=⟨_,Lo hi⟩
   obtain⟨x',hx',fx⟩:=jg h2 (i:=i) (by rw [LF,hs];rfl)
   cases hx.symm.trans hx'
   have ed:bd.drop i=sm::bd.drop (i+1):=by
    have e2:=List.drop_eq_getElem_cons hi
    rw [(List.getElem?_eq_some_iff.mp hs).2] at e2
    exact e2
   rw [ed] at iv
   have ms:=LC hs
   have g23:=aW g2 g3
   obtain⟨a,r,rfl,hA⟩:=wq (bj (Kt.of g23) fx)
   symm
   split
   ·rename_i ek
    have ev:fL bd row 0 bd= [(bd,i+1)]:=by rw [iv];unfold fL;rw [RD ek]
    rw [ev] at q
    symm
    intro p1 H4 n1 k1 e1
    symm
    have g4:=aW g23 k1
    exact λp2 H5 n2 k2 e2=>q _ _ ⟨p2,rfl,none_of g4 n2,aW g4 k2,_,e2,.cons (wo (i:=i+1) (k2 _ _ e1) (bj (Kt.of (aW g4 k2)) h)) .nil⟩
   ·rename_i ek
    have ev:fL bd row i (sm::bd.drop (i+1))=fL bd row (i+1) (bd.drop (i+1)):=by
     conv=>lhs;unfold fL
     rw [RC ek]
    rw [ev] at iv
    symm
    apply cE
    unfold bU
    symm
    refine⟨(a,sm),rfl,⟨bj (Kt.of g23) fx,sJ ok ms⟩,λv H4 w4=>?_⟩
    obtain⟨r4,rfl,g4,h4⟩:=w4
    refine⟨r4,rfl,⟨_,SqL.of h4⟩,dD (xs:=[]) (λ_ σ H5=>σ= [some (.ref b),some (.int row),some (.int i),some (.ref a),v4,v5]/\H5=H4) ⟨rfl,rfl⟩ (λj σ H5 _ zz=>by rw [zz.2];exact SqL.of h4) (λj y σ H5 hy zz=>by cases hy) λσ H5 zz=>?_⟩
    obtain⟨rfl,rfl⟩:=zz
    exact⟨_,_,_,_,rfl,aW g23 g4,iv⟩
  ·obtain⟨v2,v3,v4,v5,rfl,g2,iv⟩:=zz
   rw [bT h2,Ln,List.drop_length] at iv
   rw [iv] at q
   symm
   exact λp2 H5 n2 k2 e2=>q _ _ ⟨p2,rfl,none_of g2 n2,aW g2 k2,_,e2,.nil⟩
end
theorem yw(p:cf)(x:List Sm×Nat):cy (p++[x])=if x.2=x.1.length then cy p else p++[x]:=by
 unfold cy
 rw [List.reverse_append,List.reverse_singleton,List.singleton_append,List.dropWhile_cons]
 by_cases c:x.2=x.1.length
 ·rw [RD (decide_eq_true c),RD c]
 ·rw [RC (by simpa using c),RC c,List.reverse_cons,List.reverse_reverse]
section
variable{C:CA}{K:MF}{P:Np}{w:Nu}{mg:Str->Option Nk}{base:Heap}
theorem sK(h:FzL K H vs (ds++[d])):∃us v,vs=us++[v]/\FzL K H us ds/\Fz K H v d:=by
 induction ds generalizing vs with
 | nil=>
  obtain⟨v,r,rfl,f,h⟩:=cU h
  cases sI h
  exact⟨[],v,rfl,.nil,f⟩
 | cons e ds ih=>
  obtain⟨v,r,rfl,f,h⟩:=cU h
  obtain⟨us,u,rfl,h1,h2⟩:=ih h
  exact⟨v::us,u,rfl,.cons f h1,h2⟩
theorem yx(h:Fz K H v (paD x)):∃t b ys,v= .ref t/\H t=some (.tup [.ref b,.int x.2])/\Fz K H (.ref b) (.tuple (bdD x.1))/\H b=some (.tup ys)/\FzL K H ys (x.1.map smD):=by
 obtain⟨t,xs,rfl,h1,h2⟩:=dq h
 obtain⟨v1,r,rfl,f1,h2⟩:=cU h2
 obtain⟨v2,r,rfl,f2,h2⟩:=cU h2
 rw [yu f2,sI h2] at h1
 obtain⟨b,ys,rfl,h3,h4⟩:=dq f1
 rw [oM] at h4
 exact⟨t,b,ys,rfl,h1,f1,h3,h4⟩
def Fr1(l:Addr)(H H':Hp):Prop:=∀a o,a≠l->H a=some o->H' a=some o
theorem Fr1.refl:Fr1 l H H:=λ_ _ _ h=>h
theorem Fr1.trans(f:Fr1 l H H')(g:Fr1 l H' H''):Fr1 l H H'':=λa o n h=>g a o n (f a o n h)
theorem Fr1.mu(m:Mu H l o H'):Fr1 l H H':=λa o n h=>m.old h n
theorem Fr1.of(g:Same H H'):Fr1 l H H':=λa o _ h=>g a o h
theorem Fr1.kt(f:Fr1 l H H')(h:H l=some (.lst xs)):Kt H H':=λc ys e=>f c _ (λz=>by rw [z,h] at e;cases e) e
def PaO(p:cf):Prop:=∀x∈p,x.2<=x.1.length
def Gf(K:MF):Sp:=spG (A:=Addr×cf) (λa=>[.ref a.1]) (λa H=>PaL K H a.1 a.2/\PaO a.2) (λa H v H'=>Fr1 a.1 H H'/\PaL K H' a.1 (cy a.2)/\match dc a.2 with | none=>v= .non | some m=>∃b,v= .ref b/\Fz K H' v (smD m))
def NsI(K:MF)(H:Hp)(l:Addr)(p:cf)(m:Nat)(σ:St)(H':Hp):Prop:=∃q,m=q.length/\σ= [some (.ref l),none,none]/\Fr1 l H H'/\PaL K H' l q/\PaO q/\cy q=cy p
theorem Hw(D:DefAt K mg "next_statement" hJ ["path"])(IV:mg "len" =none):OkD P w K mg base 1 "next_statement" ["path"] (Gf K):=by
 refine D.okG dR (λ_=>rfl) λa f cdv A outer s0 H Q E hr p q=>?_
 obtain⟨l,p0⟩:=a
 obtain⟨h,ok⟩:=p
 refine⟨_,(aa (d7 NE.never (PW.pt (iO (d8 (pvM 0) (λ_=>rfl)) (gC (aO bz (aq (aq (pvM 0) (kO iT ac)) ac) (dY dE rfl IV NV (aG (aq (aq (pvM 0) (kO iT ac)) ac))))))) (ae (aC (w9 NR Om On ug (pvM 0))))) (aa (aJ (jT (d8 (pvM 0) (λ_=>rfl))) (ae (ax bV)) aA) (aa (de (aq (pvM 0) (kO iT ac)) (cb 2 rfl (aL (bw 1 dR) (aL (bw 2 dR) bZ)))) (ae (ax (aq (pvM 1) (pvM 2))))))),?_⟩
 symm
 refine⟨NsI K H l p0,⟨_,p0,rfl,rfl,.refl,h,ok,rfl⟩,λm σ H1 z=>?_⟩
 obtain⟨pp,rfl,rfl,f1,⟨vs,h1,h2⟩,o1,ep⟩:=z
 rcases List.eq_nil_or_concat pp with rfl | ⟨pi,x,rfl⟩
 ·cases sI h2
  symm
  refine⟨false,.inl ⟨[],SqL.of h1,rfl⟩,?_⟩
  symm
  refine⟨false,.inl ⟨[],SqL.of h1,rfl⟩,?_⟩
  have en:=ep.symm
  refine q _ _ ⟨f1,by rw [en];exact⟨[],h1,.nil⟩,?_⟩
  unfold dc
  rw [en]
  rfl
 ·rw [List.concat_eq_append,Lx] at h2
  rw [List.concat_eq_append] at o1 ep
  obtain⟨us,v,rfl,h2',h3⟩:=sK h2
  clear h2
  have h2:=h2'
  obtain⟨t,b,ys,rfl,h4,h5,h6,h7⟩:=yx h3
  have il:=qL us (V.ref t)
  have tr:vi K (.ref l) H1 true:=.inl ⟨_,SqL.of h1,by simp⟩
  have ly:ys.length=x.1.length:=by rw [bT h7,Ln]
  rw [yw] at ep
  symm
  refine⟨true,tr,?_⟩
  by_cases cx:x.2=x.1.length
  ·rw [RD cx] at ep
   symm
   refine⟨NsI K H l p0 pi.length,λσ' H' z=>⟨pi.length,by simp,z⟩,?_⟩
   symm
   refine⟨⟨_,SqL.of h1⟩,l,us,.ref t,rfl,rfl,h1,λH2 m2=>?_⟩
   exact⟨pi,rfl,rfl,f1.trans (.mu m2),⟨us,m2.at_,bi ((Fr1.mu m2).kt h1) h2⟩,λy hy=>o1 y (LD _ hy),ep⟩
  ·rw [RC cx] at ep
   symm
   apply bH (λz=>cx (by lia))
   symm
   refine⟨true,tr,?_⟩
   have lt:=Mv (o1 x (by simp)) cx
   obtain⟨m,hm⟩:∃m,x.1[x.2]? =some m:=⟨_,Lo lt⟩
   obtain⟨u,hu,fu⟩:=jg h7 (i:=x.2) (by rw [LF,hm];rfl)
   have iu:=cC hu
   symm
   obtain⟨ua,ux,rfl,_⟩:=wq fu
   refine q _ _ ⟨f1,by rw [<-ep];exact⟨_,h1,by rw [Lx];exact dO h2 (.cons h3 .nil)⟩,?_⟩
   unfold dc
   rw [<-ep,List.getLast?_append]
   simp only [List.getLast?_singleton,Option.some_or]
   rw [hm]
   exact⟨ua,rfl,fu⟩
theorem wu(p:cf)(x:List Sm×Nat):kW (p++[x])=p++[(x.1,x.2+1)]:=by
 unfold kW
 simp
theorem AD(n:Nat):ixN (n+1) (-1)=some n:=by
 unfold ixN
 rw [RC (by decide),RD (by lia)]
 congr 1
 lia
theorem sL{us:List V}:(us++[u]).set us.length v=us++[v]:=by
 rw [List.set_append_right _ _ (Nat.le_refl _),MI]
 rfl
theorem PaL.app(h1:H l=some (.lst ws))(h2:FzL K H vs (p.map paD))(m:Mu H l (.lst (vs++[v])) H')(f:Fz K H v (paD y)):PaL K H' l (p++[y]):=by
 have kt:=(Fr1.mu m).kt h1
 exact⟨_,m.at_,by rw [Lx];exact dO (bi kt h2) (.cons (bj kt f) .nil)⟩
def Gg(K:MF):Sp:=spG (A:=Addr×cf×(List Sm×Nat)) (λa=>[.ref a.1]) (λa H=>PaL K H a.1 (a.2.1++[a.2.2])) (λa H v H'=>Fr1 a.1 H H'/\PaL K H' a.1 (a.2.1++[(a.2.2.1,a.2.2.2+1)]))
theorem Hx(D:DefAt K mg "pass_by" pL ["path"]):OkD P w K mg base 1 "pass_by" ["path"] (Gg K):=by
 refine D.okG jD (λ_=>rfl) λa f cdv A outer s0 H Q E hr p q=>?_
 obtain⟨l,p0,x⟩:=a
 dsimp only at p q⊢
 obtain⟨vs,h1,h2⟩:=p
 refine⟨_,(aa (de (aq (pvM 0) (kO iT ac)) (cb 2 rfl (aL (bw 1 jD) (aL (bw 2 jD) bZ)))) (ae (de (au (aD (pvM 1) (az bc (pvM 2) ac))) (jV (pvM 0) (kO iT ac) fP)))),?_⟩
 rw [Lx] at h2
 obtain⟨us,v,rfl,h2',h3⟩:=sK h2
 obtain⟨t,b,ys,rfl,h4,h5,h6,h7⟩:=yx h3
 have il:=qL us (V.ref t)
 have jl:ixN (us++[V.ref t]).length (-1)=some us.length:=by rw [Lq];exact AD _
 symm
 intro p1 H1 n1 g1 e1
 have h1':=g1 _ _ h1
 symm
 intro H2 m2
 rw [sL] at m2
 exact q _ _ ⟨(Fr1.of g1).trans (.mu m2),PaL.app h1' (bi (Kt.of g1) h2') m2 (wo (i:=x.2+1) e1 (bj (Kt.of g1) h5))⟩
theorem Yd.fr1{tg:Addr->Nat}(Y:Yd C K Pp H c s tg)(f:Fr1 l H H')(t:tg l=0)(h:H l=some (.lst xs)):Yd C K Pp H' c s tg:=by
 have kt:=f.kt h
 have nz:∀a o,tg a≠0->H a=some o->H' a=some o:=λa o z e=>f a o (λq=>z (by rw [q];exact t)) e
 obtain⟨t1,t2,t3⟩:=Y.tg.st
 have S:Sta K Pp H' c:=by
  obtain⟨k1,h1,r1⟩:=Y.nm
  obtain⟨k2,h2,r2⟩:=Y.dr
  obtain⟨k3,h3,r3⟩:=Y.bd
  obtain⟨vs,h4,r4⟩:=Y.to
  exact⟨⟨k1,nz _ _ (by rw [t1];decide) h1,r1.kt kt⟩,⟨k2,nz _ _ (by rw [t2];decide) h2,r2.kt kt⟩,⟨k3,nz _ _ (by rw [t3];decide) h3,r3.kt kt⟩,⟨vs,kt _ _ h4,bi kt r4⟩⟩
 refine⟨nz _ _ (by rw [Y.tg.y];decide) Y.obj,S.nm,S.dr,S.bd,S.to,nz _ _ (by rw [Y.tg.p];decide) Y.pl,qD Y.ag λa u h e=>?_,Y.go.grow λa u h e=>?_,Y.ts,nz _ _ (by rw [Y.tg.dh];decide) Y.dh,Y.hd.fr λx hx a ha o e=>?_,?_,bj kt Y.sv,?_⟩
 ·rcases h with rfl | rfl | ⟨xs,rfl⟩
  ·exact nz _ _ (by rw [Y.tg.a.1];decide) e
  ·exact nz _ _ (by rw [Y.tg.a.2];decide) e
  ·exact kt _ _ e
 ·rcases h with h | ⟨xs,rfl⟩
  ·exact nz _ _ (by rw [Y.tg.g a h];decide) e
  ·exact kt _ _ e
 ·obtain⟨h1,h2⟩:=Y.tg.hd x hx
  rcases ha with rfl | rfl
  ·exact nz _ _ (by rw [h1];unfold hoT;lia) e
  ·exact nz _ _ (by rw [h2];unfold kdT;lia) e
 ·obtain⟨vs,h1,h2⟩:=Y.lg
  exact⟨vs,nz _ _ (by rw [Y.tg.l];decide) h1,bi kt h2⟩
 ·refine⟨Y.tg.y,Y.tg.st,Y.tg.p,Y.tg.l,Y.tg.a,Y.tg.g,Y.tg.dh,Y.tg.hd,λa z=>?_⟩
  obtain⟨o,e,n⟩:=Y.tg.own a z
  exact⟨o,nz _ _ z e,n⟩
theorem PaL.gr(g:Gr H tg H' tg')(t:Tg H c tg)(z:tg l=0)(h:PaL K H l p):PaL K H' l p/\tg' l=0:=by
 obtain⟨vs,h1,h2⟩:=h
 refine⟨⟨vs,g.1 _ _ z h1,bi (λa xs h=>g.1 _ _ (t.tup h) h) h2⟩,?_⟩
 rcases LR (tg' l) with q | q
 ·exact q
 ·rcases g.2 l (L5 q) with q | q
  ·exact absurd z q
  ·rw [h1] at q;cases q
def Gh(C:CA)(K:MF):Sp:=spG (A:=(Int×Addr×Addr×Hd×Addr×List V×List Tr)×Gy) (λa=>[.ref a.2.c.y,.ref a.1.2.1,.ref a.1.2.2.2.2.1])
 (λa H=>Yd C K a.2.P H a.2.c a.2.s a.2.tg/\(a.1.1,a.1.2.1,a.1.2.2.1)∈a.2.c.hs/\HdO C H a.1.1 a.1.2.1 a.1.2.2.1 a.1.2.2.2.1/\H a.1.2.2.2.2.1=some (.lst a.1.2.2.2.2.2.1)/\FzL K H a.1.2.2.2.2.2.1 (a.1.2.2.2.2.2.2.map trD)/\a.1.2.2.2.2.2.2.length<=1000/\∃xs,cA a.1.2.2.2.1.kn a.2.s.now a.1.2.2.2.2.2.2 []=some xs)
 (λa H v H'=>∃r xs,cA a.1.2.2.2.1.kn a.2.s.now a.1.2.2.2.2.2.2 []=some xs/\v= .ref r/\H r=none/\Same H H'/\H' r=some (.lst (xs.map .int)))
def RkI(H:Hp)(kn:List (Str×Int))(now:Int)(es:List Tr)(y ho ea r:Addr)(i:Nat)(σ:St)(H':Hp):Prop:=∃acc v4 v5 v6,σ= [some (.ref y),some (.ref ho),some (.ref ea),some (.ref r),v4,v5,v6]/\Same H H'/\H' r=some (.lst (List.map V.int acc))/\acc.length<=i/\cA kn now es []=cA kn now (es.drop i) acc
theorem AE:cA kn now [] a=some a:=rfl
theorem yz:cA kn now (e::r) a=match Wo.ev (kvH kn) now e with
 | some n=>cA kn now r (a++[n])
 | none=>none:=rfl
theorem Hy(D:MethAt K C.y "reckon" "PlainYard.reckon" fV ["self","hand","expressions"])(IC:Cls K C.y)(IH:NoAttr K C.y "now")(IM:Cls K C.d)(ID:NoAttr K C.d "number")(Jx:NoAttr K C.d "known")(Ky:OkD P w K mg base 2 "worth" ["e","values","now","own"] (Wo.spW K)):OkM P w K mg base 3 C.y "reckon" ["self","hand","expressions"] (Gh C K):=by
 refine D.okG IC bP (λ_=>rfl) λa f cdv A outer s0 H Q E hr p q=>?_
 obtain⟨⟨m,ho,kd,d,ea,vs,es⟩,g⟩:=a
 dsimp only at p q⊢
 obtain⟨Y,hm,⟨⟨dx,d1⟩,d2⟩,h1,h2,el,xs0,rx⟩:=p
 have h0:=Y.obj
 refine⟨_,(aa (aQ 3 bP (aE a0)) (aa (cH NE.never rfl (bp (pvM 2)) (bw 4 bP) (aa (de (aR Ky hr rfl (cg (pvM 4) (ai IM Jx (pvM 1)) (ai IC IH (pvM 0)) (ai IM ID (pvM 1)))) (cb 2 rfl (aL (bw 5 bP) (aL (bw 6 bP) bZ)))) (aa (aJ (aO nX (pvM 6) bV) a6 aA) (ae (aC (dv (pvM 3) (pvM 5))))))) (ae (ax (pvM 3))))),?_⟩
 symm
 intro r H1 n1 k1 e1
 symm
 apply cE
 unfold bU
 symm
 refine⟨⟨_,SqL.of (k1 _ _ h1)⟩,dD (xs:=vs) (RkI H d.kn g.s.now es g.c.y ho ea r) ⟨[],_,_,_,rfl,k1,e1,Nat.le_refl _,rfl⟩ (λi σ H2 _ zz=>?_) (λi x σ H2 hx zz=>?_) λσ H2 zz=>?_⟩
 ·obtain⟨_,_,_,_,_,g,_⟩:=zz
  exact SqL.of (g _ _ h1)
 ·obtain⟨acc,v4,v5,v6,rfl,k2,e2,al,iv⟩:=zz
  have hi:i<es.length:=by
   have l1:=bT h2
   rw [Ln] at l1
   rw [<-l1]
   exact(List.getElem?_eq_some_iff.mp hx).1
  obtain⟨e,he⟩:∃e,es[i]? =some e:=⟨_,Lo hi⟩
  obtain⟨x',hx',fx⟩:=jg h2 (i:=i) (by rw [LF,he];rfl)
  cases hx.symm.trans hx'
  have ed:es.drop i=e::es.drop (i+1):=by
   have e2:=List.drop_eq_getElem_cons hi
   rw [(List.getElem?_eq_some_iff.mp he).2] at e2
   exact e2
  rw [ed,yz] at iv
  have h02:=k2 _ _ h0
  have d12:=k2 _ _ d1
  have d22:=k2 _ _ d2
  cases ee:Wo.ev (kvH d.kn) g.s.now e with
  | none=>rw [ee,rx] at iv;cases iv
  | some z=>
  rw [ee] at iv
  symm
  refine⟨x,kd,kvH d.kn,g.s.now,m,z,e,rfl,Rp.mono tp_same (bj (Kt.of k2) fx),d22,ee,λt H3 k3 ht=>?_⟩
  have e3:=k3 _ _ e2
  have al':(acc.map V.int).length<Nm:=by rw [Ln];have:=Pc;lia
  symm
  exact λH4 m4=>⟨acc++[z],_,_,_,rfl,m4.same (aW k2 k3) n1,by rw [Lx];exact m4.at_,by rw [Lq];simp;lia,iv⟩
 ·obtain⟨acc,v4,v5,v6,rfl,k2,e2,al,iv⟩:=zz
  rw [bT h2,Ln,List.drop_length,AE] at iv
  have q':=q _ _ ⟨r,acc,iv,rfl,n1,k2,e2⟩
  symm
def Ypl(C:CA)(K:MF)(g:Gy)(l:Addr)(H H':Hp)(s':YS)(p':cf):Prop:=∃c' tg',c'.y=g.c.y/\Yd C K g.P H' c' s' tg'/\((∀a o,a≠l->g.tg a=0->H a=some o->H' a=some o)/\∀a,tg' a≠0->g.tg a≠0\/H a=none)/\(∀x∈g.c.hs,(∃d,(x.1,d)∈s'.hd)->x∈c'.hs)/\tg' l=0/\PaL K H' l p'
structure DoA where
 n:Int
 ho:Addr
 kd:Addr
 d:Hd
 sa:Addr
 sm:Sm
 l:Addr
 p:cf
 x:List Sm×Nat
structure DoP(C:CA)(K:MF)(a:DoA)(g:Gy)(H:Hp):Prop where
 y:Yd C K g.P H g.c g.s g.tg
 hm:(a.n,a.ho,a.kd)∈g.c.hs
 hd:(a.n,a.d)∈g.s.hd
 st:Fz K H (.ref a.sa) (smD a.sm)
 ok:kJ a.sm
 pa:PaL K H a.l (a.p++[a.x])
 pz:a.p.length<1000
 tl:g.tg a.l=0
 yb:YB g.s
 rk:∃xs,cA a.d.kn g.s.now a.sm.es []=some xs
 dk:∀w k ns es xs,a.sm= .pl w k ns es->cA a.d.kn g.s.now es []=some xs->fj g.s w ns xs
 lg:g.s.lg.length+500<16000000
def doR(a:DoA)(g:Gy):Bool×YS×cf:=g.s.doS a.n a.d (a.p++[a.x]) a.sm
def Gi(C:CA)(K:MF):Sp:=spG (A:=DoA×Gy) (λa=>[.ref a.2.c.y,.ref a.1.ho,.ref a.1.sa,.ref a.1.l]) (λa H=>DoP C K a.1 a.2 H) (λa H v H'=>v= .bl (doR a.1 a.2).1/\Ypl C K a.2 a.1.l H H' (doR a.1 a.2).2.1 (doR a.1 a.2).2.2)
theorem Gj(h:kJ s):s.es.length<=1000:=by
 obtain⟨w,k,ns,es⟩:=s
 show es.length<=1000
 cases h<;>simp
theorem Ypl.deed(Y:Yd C K g.P H5 g.c g.s g.tg)(tl:g.tg l=0)(k:Same H H3)(pa0:PaL K H l p)(f:Fr1 l H3 H4)(k':Same H4 H5)(pa:PaL K H5 l p')(h:Yp C K g H5 H6 s'):Ypl C K g l H H6 s' p':=by
 obtain⟨c',tg',e,Y',gr,hs⟩:=h
 obtain⟨p1,p2⟩:=PaL.gr gr Y.tg tl pa
 have up:=λa o n e=>k' _ _ (f a o n (k _ _ e))
 refine⟨c',tg',e,Y',⟨λa o n z e=>gr.1 a o z (up a o n e),λa z=>?_⟩,hs,p2,p1⟩
 rcases gr.2 a z with q | q
 ·exact .inl q
 ·cases ea:H a with
  | none=>exact .inr rfl
  | some o=>
   by_cases n:a=l
   ·subst n
    obtain⟨vs,h1,_⟩:=pa
    rw [h1] at q;cases q
   ·rw [up a o n ea] at q;cases q
theorem Hz(D:MethAt K C.y "do" "PlainYard.do" jd ["self","hand","statement","path"])(IC:Cls K C.y)(JL:OkM P w K mg base 3 C.y "reckon" ["self","hand","expressions"] (Gh C K))(JU:OkD P w K mg base 1 "expressions_of" ["statement"] (Gb K))(Kq:OkD P w K mg base 1 "pass_by" ["path"] (Gg K))(Kn:OkD P w K mg base 1 "names_of" ["statement"] (Gc K))(JV:OkM P w K mg base 7 C.y "deed" ["self","hand","word","names","numbers"] (uK C K)):OkM P w K mg base 8 C.y "do" ["self","hand","statement","path"] (Gi C K):=by
 refine D.okG IC iC (λ_=>rfl) λa f cdv A outer s0 H Q E hr p q=>?_
 obtain⟨⟨n,ho,kd,d,sa,sm,l,p0,x⟩,g⟩:=a
 dsimp only at p q⊢
 obtain⟨Y,hm,hd,st,ok,pa,pz,tl,yb,rk,dk,lg⟩:=p
 dsimp only at hm hd st ok pa pz tl rk dk
 obtain⟨d',D1,dm⟩:=Y.hd.mem hm
 have ee:=eK yb.hn.nd hd
 rw [eK yb.hn.nd dm] at ee
 cases ee
 have h0:=Y.obj
 refine⟨_,(aa (aQ 4 iC (aU JL hr (pvM 0) (aD (pvM 1) (aR JU hr rfl (aG (pvM 2)))))) (aa (aJ (aO iU (pvM 4) bV) a6 aA) (aa (aJ (iV mQ (aq (pvM 2) ac) (au (aD av av)) (by with_unfolding_all rfl)) a6 aA) (aa (aC (aR Kq hr rfl (aG (pvM 3)))) (ae (ax (aU JV hr (pvM 0) (cg (pvM 1) (aq (pvM 2) ac) (aR Kn hr rfl (aG (pvM 2))) (pvM 4))))))))),?_⟩
 symm
 refine⟨(sa,sm),rfl,⟨st,ok⟩,λv H1 w1=>?_⟩
 obtain⟨r1,vs,rfl,n1,k1,e1,f1⟩:=w1
 have Y1:=Y.same k1
 refine⟨((n,ho,kd,d,r1,vs,sm.es),g),rfl,⟨Y1,hm,D1.fr (λo e=>k1 _ _ e) (λo e=>k1 _ _ e),e1,f1,Gj ok,rk⟩,λv H2 w2=>?_⟩
 obtain⟨r2,xs,er,rfl,n2,k2,e2⟩:=w2
 have k12:=aW k1 k2
 obtain⟨wd,k,ns,es'⟩:=sm
 obtain⟨_,ws,e,h1,h2⟩:=nP st
 cases e
 have h12:=k12 _ _ h1
 obtain⟨w1,w2⟩:=yv ok
 symm
 intro p3 H3 n3 k3 e3
 have h13:=k3 _ _ h12
 have e23:=k3 _ _ e2
 have k13:=aW k12 k3
 obtain⟨us,l1,l2⟩:=pa.same k13
 symm
 refine bH (by rw [decide_eq_false (Ne.symm w1),decide_eq_false (Ne.symm w2)];decide) ?_
 symm
 refine⟨(l,p0,x),rfl,⟨us,l1,l2⟩,λv H4 w4=>?_⟩
 obtain⟨f4,p4⟩:=w4
 have Y4:=(Y.same k13).fr1 f4 tl l1
 have st4:=bj ((Kt.of k13).trans (f4.kt l1)) st
 have h14:=f4.kt l1 _ _ h13
 have ln:r2≠l:=λz=>by
  obtain⟨_,z1,_⟩:=pa.same k1
  rw [z,z1] at n2;cases n2
 have e24:=f4 _ _ ln e23
 have h04:=Y4.obj
 have er':doR ⟨n,ho,kd,d,sa,.pl wd k ns es',l,p0,x⟩ g=((g.s.deed n wd ns xs).1,(g.s.deed n wd ns xs).2,p0++[(x.1,x.2+1)]):=by unfold doR YS.doS;dsimp only;rw [show cA d.kn g.s.now es' []=some xs from er,wu]
 rw [er'] at q
 symm
 refine⟨(sa,.pl wd k ns es'),rfl,⟨st4,ok⟩,λv H5 w5=>?_⟩
 obtain⟨na,rfl,k5,e5⟩:=w5
 have Y5:=Y4.same k5
 have e25:=k5 _ _ e24
 refine⟨((n,ho,kd,wd,na,ns,r2,xs),g),rfl,⟨Y5,hm,e5,e25,yb,dk _ _ _ _ _ rfl er,lg⟩,λv H6 w6=>?_⟩
 obtain⟨rfl,w6⟩:=w6
 exact q _ _ ⟨rfl,Ypl.deed Y5 tl k13 pa f4 k5 (p4.same k5) w6⟩
end
structure AF(h:Int)(s:YS)(d:Hd)(m:Sm):Prop where
 hd:(h,d)∈s.hd
 ok:kJ m
 yb:YB s
 rk:∃xs,cA d.kn s.now m.es []=some xs
 dk:∀w k ns es xs,m= .pl w k ns es->cA d.kn s.now es []=some xs->fj s w ns xs
 lg:s.lg.length+500<16000000
def HB(s:YS):Prop:=s.ts.length<=10/\nQ s.ts<=100/\s.lg.length+400<16000000/\s.ag.length<=600
def wv(h:Int):Nat->YS->cf->Prop
 | 0,_,_=>False
 | f+1,s,p=>PaO p/\p.length<=1000/\HN s.hd/\∃d,aT h s.hd=some d/\(dc p=none->HB s)/\∀m,dc p=some m->¬s.stm=100->AF h (s.enter h m.k) (d.sRow m.k) m/\(((s.enter h m.k).doS h (d.sRow m.k) (cy p) m).1=true->wv h f ((s.enter h m.k).doS h (d.sRow m.k) (cy p) m).2.1 ((s.enter h m.k).doS h (d.sRow m.k) (cy p) m).2.2)
def Yq(C:CA)(K:MF)(g:Gy)(H H':Hp)(s':YS):Prop:=∃c' tg',c'.y=g.c.y/\Yd C K g.P H' c' s' tg'/\Gr H g.tg H' tg'
def Yw(C:CA)(K:MF)(g:Gy)(l:Addr)(b:Int×Addr×Addr)(H H':Hp)(s':YS)(p':cf):Prop:=∃c' tg',c'.y=g.c.y/\Yd C K g.P H' c' s' tg'/\Gr H g.tg H' tg'/\((∃d,(b.1,d)∈s'.hd)->b∈c'.hs)/\tg' l=0/\PaL K H' l p'
theorem pS{s:YS}(e:dc p=none):s.goOn h (f+1) p=s.endH h:=by
 unfold YS.goOn;rw [e]
theorem yA{s:YS}(e:dc p=some m)(e2:aT h s.hd=some d)(e3:s.stm=100):s.goOn h (f+1) p=s.enter h m.k:=by
 unfold YS.goOn YS.enter;rw [e,e2];dsimp only;rw [RD e3,RD e3]
theorem uM{s:YS}(e:dc p=some m)(e2:aT h s.hd=some d)(e3:¬s.stm=100):s.goOn h (f+1) p=if ((s.enter h m.k).doS h (d.sRow m.k) (cy p) m).1=true then YS.goOn h f ((s.enter h m.k).doS h (d.sRow m.k) (cy p) m).2.1 ((s.enter h m.k).doS h (d.sRow m.k) (cy p) m).2.2 else ((s.enter h m.k).doS h (d.sRow m.k) (cy p) m).2.1:=by
 have ee:s.enter h m.k=(s.sStm (s.stm+1)).sHd (K34.setH h (d.sRow m.k) s.hd):=by unfold YS.enter;rw [e2];dsimp only;rw [RC e3]
 rw [ee]
 conv=>lhs;unfold YS.goOn
 rw [e,e2];dsimp only;rw [RC e3]
theorem yB(e:dc p=some m):∃pp x,cy p=pp++[x]:=by
 unfold dc at e
 rcases List.eq_nil_or_concat (cy p) with z | ⟨pp,x,z⟩
 ·rw [z] at e;cases e
 ·exact⟨pp,x,by rw [z,List.concat_eq_append]⟩
theorem AG(p:cf):(cy p).length<=p.length:=by
 unfold cy
 rw [List.length_reverse]
 exact Nat.le_trans (List.dropWhile_sublist _).length_le (M0 (List.length_reverse))
section
variable{C:CA}{K:MF}{P:Np}{w:Nu}{mg:Str->Option Nk}{base:Heap}
theorem Gk(g:Gr H tg H' tg')(z:tg l=0)(h:H l=some o):tg' l=0:=by
 rcases LR (tg' l) with q | q
 ·exact q
 ·rcases g.2 l (L5 q) with q | q
  ·exact absurd z q
  ·rw [h] at q;cases q
theorem Gm(g:Gr H tg H1 tg1)(n:H l=none)(f:Fr1 l H1 H2):Gr H tg H2 tg1:=⟨λa o z e=>f a o (λq=>by rw [q,n] at e;cases e) (g.1 a o z e),g.2⟩
theorem HC(g:Gr H tg H1 tg1)(n:H l=none)(pa:PaL K H1 l p)(f:(∀a o,a≠l->tg1 a=0->H1 a=some o->H2 a=some o)/\∀a,tg2 a≠0->tg1 a≠0\/H1 a=none):Gr H tg H2 tg2:=by
 refine⟨λa o z e=>f.1 a o (λq=>by rw [q,n] at e;cases e) (Gk g z e) (g.1 a o z e),λa z=>?_⟩
 rcases f.2 a z with q | q
 ·exact g.2 a q
 ·rcases LR (tg a) with t | t
  ·cases e:H a with
   | none=>exact .inr rfl
   | some o=>rw [g.1 a o t e] at q;cases q
  ·exact .inl (L5 t)
def GoI(C:CA)(K:MF)(g:Gy)(l:Addr)(b:Int×Addr×Addr)(H:Hp)(R:YS)(m:Nat)(σ:St)(H':Hp):Prop:=∃(q:Bool) (v:Option V),σ= [some (.ref g.c.y),some (.ref b.2.1),some (.ref l),some (.bl q),v]/\(q=false->Yq C K g H H' R)/\(q=true->∃s' p',Yw C K g l b H H' s' p'/\wv b.1 m s' p'/\YS.goOn b.1 m s' p'=R)
def GoP(P:Pr)(n:Int)(s:YS):Prop:=∃d bd,aT n s.hd=some d/\bB d.nm P.bds=some bd/\mD bd/\wv n 102 s (dC bd d.row)
def Gn(C:CA)(K:MF):Sp:=spG (A:=(Int×Addr×Addr)×Gy) (λa=>[.ref a.2.c.y,.ref a.1.2.1]) (λa H=>Yd C K a.2.P H a.2.c a.2.s a.2.tg/\a.1∈a.2.c.hs/\HN a.2.s.hd/\GoP a.2.P a.1.1 a.2.s) (λa H v H'=>v= .non/\Yq C K a.2 H H' (a.2.s.goF a.2.P a.1.1))
theorem HE(D:MethAt K C.y "go_on" "PlainYard.go_on" gn ["self","hand"])(IC:Cls K C.y)(Jo:NoAttr K C.y "bodies")(IM:Cls K C.d)(Jw:NoAttr K C.d "name")(Jl:NoAttr K C.d "row")(J6:OkD P w K mg base 2 "path_behind" ["body","row"] (Ge K))(JW:OkD P w K mg base 1 "next_statement" ["path"] (Gf K))(JG:OkM P w K mg base 6 C.y "end_hand" ["self","hand"] (yr C K))(Jy:OkM P w K mg base 1 C.y "enter_statement" ["self","hand","k"] (uG C K))(J2:OkM P w K mg base 8 C.y "do" ["self","hand","statement","path"] (Gi C K)):OkM P w K mg base 9 C.y "go_on" ["self","hand"] (Gn C K):=by
 refine D.okG IC bE (λ_=>rfl) λa f cdv A outer s0 H Q E hr p q=>?_
 obtain⟨⟨n,ho,kd⟩,g⟩:=a
 dsimp only at p q⊢
 obtain⟨Y,hm,hn,d,bd,g1,g2,g3,g5⟩:=p
 have hu:=cJ hr
 have h0:=Y.obj
 obtain⟨d',⟨⟨dx,d1⟩,d2⟩,dm⟩:=Y.hd.mem hm
 have ee:=eK hn.nd dm
 rw [g1] at ee
 cases ee
 obtain⟨kv,b1,b2⟩:=Y.bd
 obtain⟨v,b3,b4⟩:=b2.get g2
 obtain⟨ba,bx,rfl,b5,_⟩:=dq b4
 have eR:g.s.goF g.P n=YS.goOn n 102 g.s (dC bd d.row):=by unfold YS.goF;rw [g1];dsimp only;rw [g2];rfl
 rw [eR] at q
 refine⟨_,(aa (aQ 2 bE (aR J6 hr rfl (aD (cL hu (ai IC Jo (pvM 0)) (ai IM Jw (pvM 1)) (λ_ _=>rfl)) (ai IM Jl (pvM 1))))) (aa (aQ 3 bE cN) (ae (d7 NE.never (fN (pvM 3)) (aa (aQ 4 bE (aR JW hr rfl (aG (pvM 2)))) (ae (aJ (aO iU (pvM 4) bV) (aa (aC (aU JG hr (pvM 0) (aG (pvM 1)))) (ae (aQ 3 bE cN))) (ae (aQ 3 bE (iP (aU Jy hr (pvM 0) (aD (pvM 1) (aq (pvM 4) ac))) (jU (aU J2 hr (pvM 0) (bJ (pvM 1) (pvM 4) (pvM 2)))))))))))))),?_⟩
 symm
 refine⟨(ba,bd,d.row),rfl,⟨b4,g3⟩,λv H1 w1=>?_⟩
 obtain⟨l,rfl,n1,k1,pa⟩:=w1
 dsimp only at pa
 have Y1:=Y.same k1
 symm
 refine⟨GoI C K g l (n,ho,kd) H (YS.goOn n 102 g.s (dC bd d.row)),⟨102,true,none,rfl,(λz=>by cases z),λ_=>⟨g.s,dC bd d.row,⟨g.c,g.tg,rfl,Y1,cG k1,λ_=>hm,Y.tg.off n1,pa⟩,g5,rfl⟩⟩,λm σ H2 z=>?_⟩
 obtain⟨qq,v,rfl,z1,z2⟩:=z
 cases qq with
 | false=>
  have z3:=q _ _ ⟨rfl,z1 rfl⟩
  symm
 | true=>
  obtain⟨s',p',⟨c',tg',ey,Y2,gr2,hm2,tl2,pa2⟩,go,eg⟩:=z2 rfl
  cases m with
  | zero=>exact absurd go id
  | succ m=>
   obtain⟨o1,o2,o3,d3,o4,o5,o6⟩:=go
   symm
   refine⟨GoI C K g l (n,ho,kd) H (YS.goOn n 102 g.s (dC bd d.row)) m,λσ' H' z=>⟨m,ML _,z⟩,?_⟩
   symm
   refine⟨(l,p'),rfl,⟨pa2,o1⟩,λv H3 w3=>?_⟩
   obtain⟨f3,pa3,w3⟩:=w3
   dsimp only at f3 pa3 w3
   obtain⟨us,hl,_⟩:=id pa2
   have Y3:=Y2.fr1 f3 tl2 hl
   have gr3:=Gm gr2 n1 f3
   have al:=hm2 ⟨d3,bt o4⟩
   have h03:=Y3.obj
   rw [ey] at h03
   cases en:dc p' with
   | none=>
    rw [en] at w3
    rw [pS en] at eg
    obtain⟨r1,r2,r3,r4⟩:=o5 en
    symm
    refine⟨((n,ho,kd),⟨g.P,c',s',tg'⟩),by rw [<-ey],⟨Y3,al,o3,r1,r2,r3,r4⟩,λv H4 w4=>?_⟩
    obtain⟨rfl,c4,tg4,ey4,Y4,gr4,hs4⟩:=w4
    exact⟨false,_,rfl,λ_=>⟨c4,tg4,ey4.trans ey,by rw [<-eg];exact Y4,gr3.trans gr4⟩,λz=>by cases z⟩
   | some sm=>
    rw [en] at w3
    obtain⟨sa,rfl,fs⟩:=w3
    obtain⟨_,ws,e,hA⟩:=wq fs
    cases e
    symm
    refine⟨((n,ho,kd,sm.k),⟨g.P,c',s',tg'⟩),by rw [<-ey],⟨Y3,al,o3⟩,λv H4 w4=>?_⟩
    obtain⟨rfl,c4,tg4,ey4,Y4,gr4,hs4⟩:=w4
    by_cases st:s'.stm=100
    ·rw [yA en o4 st] at eg
     refine⟨_,rfl,bH (by rw [decide_eq_true st];decide) ?_⟩
     exact⟨false,_,rfl,λ_=>⟨c4,tg4,ey4.trans ey,by rw [<-eg];exact Y4,gr3.trans gr4⟩,λz=>by cases z⟩
    ·rw [uM en o4 st] at eg
     obtain⟨dok,dgo⟩:=o6 sm en st
     obtain⟨pp,x,ep⟩:=yB en
     obtain⟨pa4,tl4⟩:=PaL.gr gr4 Y3.tg tl2 pa3
     have pz:pp.length<1000:=by
      have:=AG p'
      rw [ep,Lq] at this
      simp only [Lw,Mr] at this
      lia
     rw [ep] at pa4 dgo eg
     have h04:=Y4.obj
     rw [ey4.trans ey] at h04
     have al4:=hs4 _ al ⟨_,dok.hd⟩
     have fs4:=bj (λa xs h=>gr4.1 _ _ (Y3.tg.tup h) h) fs
     refine⟨_,rfl,ce (by rw [decide_eq_false st];decide) ?_⟩
     symm
     refine⟨(⟨n,ho,kd,d3.sRow sm.k,sa,sm,l,pp,x⟩,⟨g.P,c4,s'.enter n sm.k,tg4⟩),by rw [<-ey4.trans ey],⟨Y4,al4,dok.hd,fs4,dok.ok,pa4,pz,tl4,dok.yb,dok.rk,dok.dk,dok.lg⟩,λv H5 w5=>?_⟩
     obtain⟨rfl,c5,tg5,ey5,Y5,gr5,hs5,tl5,pa5⟩:=w5
     unfold doR at Y5 hs5 pa5⊢
     have grL:=HC (gr3.trans gr4) n1 pa4 gr5
     refine⟨_,_,rfl,λz=>⟨c5,tg5,ey5.trans (ey4.trans ey),?_,grL⟩,λz=>⟨_,_,⟨c5,tg5,ey5.trans (ey4.trans ey),Y5,grL,λh=>hs5 _ al4 h,tl5,pa5⟩,dgo z,?_⟩⟩
     ·rw [RC (by rw [z];decide)] at eg
      rw [<-eg]
      exact Y5
     ·rw [RD z] at eg
      exact eg
end
def YS.clk(s:YS)(m:Int):YS:=if s.now<m then (s.sNow m).sHap 0 else s
def YS.up(s:YS):YS:=s.sHap (s.hap+1)
def fX(P:Pr)(s:YS):Prop:=s.done<=P.out.length/\∀m,s.next P=some m->¬(s.clk m).hap=500->((s.clk m).up.outNext P=true->∃o,P.out[(s.clk m).up.done]? =some o/\wn P o/\YB (s.clk m).up/\(s.clk m).up.lg.length+500<16000000)/\((s.clk m).up.outNext P=false->∃t h r,(s.clk m).up.ag=(t,h)::r/\(s.clk m).up.ag.length<=900/\HN s.hd/\GoP P h (((s.clk m).up.sAg r).sStm 0))
theorem yC{s:YS}(e:s.next P=none):s.step P=s:=by unfold YS.step;rw [e]
theorem kK{s:YS}(e:s.next P=some m):s.step P=if (s.clk m).hap=500 then (s.clk m).sSt (some [.str "long"]) else if (s.clk m).up.outNext P=true then (s.clk m).up.doOut P else match (s.clk m).up.ag with
 | []=>(s.clk m).up
 | (_,h)::r=>(((s.clk m).up.sAg r).sStm 0).goF P h:=by unfold YS.step;rw [e];rfl
theorem Gp{s:YS}:(s.clk m).hd=s.hd:=by unfold YS.clk;split<;>rfl
theorem AH{s:YS}:(s.clk m).done=s.done:=by unfold YS.clk;split<;>rfl
section
variable{C:CA}{K:MF}{P:Np}{w:Nu}{mg:Str->Option Nk}{base:Heap}
def yD(C:CA)(K:MF):Sp:=spG (A:=Gy) (λg=>[.ref g.c.y]) (λg H=>Yd C K g.P H g.c g.s g.tg/\fX g.P g.s) (λg H v H'=>v= .non/\Yq C K g H H' (g.s.step g.P))
theorem Dp(D:MethAt K C.y "step" "Yard.step" lJ ["self"])(IC:Cls K C.y)(IH:NoAttr K C.y "now")(IX:NoAttr K C.y "happenings")(IF:NoAttr K C.y "stopped")(IR:NoAttr K C.y "statements")(IP:NoAttr K C.y "hands")(IE:NoAttr K C.y "agenda")(Jd:OkM P w K mg base 3 C.y "next_moment" ["self"] (spR C K (λg=>g.s.done<=g.P.out.length) λg=>kI (g.s.next g.P)))(Jc:OkM P w K mg base 2 C.y "outer_is_next" ["self"] (spR C K (λg=>g.s.done<=g.P.out.length) λg=>.bl (g.s.outNext g.P)))(JH:OkM P w K mg base 5 C.y "do_outer" ["self"] (uL C K))(JN:OkM P w K mg base 9 C.y "go_on" ["self","hand"] (Gn C K))(JO:OkM P w K mg base 1 C.l "take" ["self"] (Ag.spLTake C.l))(JP:OkM P w K mg base 3 C.h "take" ["self"] (Ag.spHTake C.h))(Lj:mg "MOST_HAPPENINGS" =some (.int 500 tk)):OkM P w K mg base 10 C.y "step" ["self"] (yD C K):=by
 refine D.okG IC kz (λ_=>rfl) λg f cdv A outer s0 H Q E hr p q=>?_
 obtain⟨Y,sd,so⟩:=p
 have hu:=cJ hr
 have h0:=Y.obj
 refine⟨_,(aa (aQ 1 kz (bq Jd hr (pvM 0))) (aa (aJ (aO iU (pvM 1) bV) (ae nW) aA) (aa (gu (aJ (aO gq (pvM 1) (ai IC IH (pvM 0))) (aa (aI IC IH (pvM 0) (pvM 1)) (ae (aI IC IX (pvM 0) ac))) aA)) (aa (aJ (aO bz (ai IC IX (pvM 0)) (gB (v:=.int 500) rfl Lj ⟨_,rfl⟩)) (aa (aI IC IF (pvM 0) (au (aG av))) (ae nW)) aA) (aa (aI IC IX (pvM 0) (az bc (ai IC IX (pvM 0)) ac)) (ae (aJ (fN (bq Jc hr (pvM 0))) (ae (aC (bq JH hr (pvM 0)))) (aa (aI IC IR (pvM 0) ac) (ae (aC (aU JN hr (pvM 0) (aG (cL hu (ai IC IP (pvM 0)) (aq (gA JO JP hr (ai IC IE (pvM 0))) ac) (λ_ _=>rfl)))))))))))))),?_⟩
 symm
 refine⟨g,rfl,⟨Y,sd⟩,λv H1 w1=>?_⟩
 obtain⟨rfl,rfl⟩:=w1
 cases en:g.s.next g.P with
 | none=>
  rw [yC en] at q
  unfold kI
  symm
  exact q _ _ ⟨rfl,g.c,g.tg,rfl,Y,Gr.refl⟩
 | some m=>
  rw [kK en] at q
  have so':=so m en
  unfold kI
  symm
  refine⟨(λσ2 H2=>σ2= [some (.ref g.c.y),some (.int m)]/\Yd C K g.P H2 g.c (g.s.clk m) g.tg/\Gr H1 g.tg H2 g.tg),?_,?_⟩
  ·by_cases cm:g.s.now<m
   ·have ec:g.s.clk m=(g.s.sNow m).sHap 0:=by unfold YS.clk;rw [RD cm]
    apply ce cm
    symm
    intro H2 m2
    obtain⟨Y2,gr2⟩:=Y.setY (s':=g.s.sNow m) m2 ⟨rfl,rfl,rfl,rfl,rfl,rfl,rfl⟩
    have h02:=Y2.obj
    symm
    intro H3 m3
    obtain⟨Y3,gr3⟩:=Y2.setY (s':=(g.s.sNow m).sHap 0) m3 ⟨rfl,rfl,rfl,rfl,rfl,rfl,rfl⟩
    exact⟨rfl,by rw [ec];exact Y3,gr2.trans gr3⟩
   ·have ec:g.s.clk m=g.s:=by unfold YS.clk;rw [RC cm]
    apply bH cm
    symm
    exact Gr.refl
  ·intro σ2 H2 z
   obtain⟨rfl,Y2,gr2⟩:=z
   have h02:=Y2.obj
   symm
   by_cases ch:(g.s.clk m).hap=500
   ·rw [RD ch] at q
    apply ce ch
    symm
    intro p3 H3 n3 k3 e3
    have Y3:=Y2.same k3
    have h03:=Y3.obj
    symm
    intro H4 m4
    obtain⟨Y4,gr4⟩:=Y3.setS (v:=.ref p3) (o:=some [.str "long"]) m4 (.tup (fh e3) (.cons (.str _) .nil))
    symm
    exact q _ _ ⟨rfl,g.c.sSv (.ref p3),g.tg,rfl,Y4,(gr2.trans (cG k3)).trans gr4⟩
   ·rw [RC ch] at q
    obtain⟨so1,so2⟩:=so' ch
    apply bH ch
    symm
    intro H3 m3
    obtain⟨Y3,gr3⟩:=Y2.setY (s':=(g.s.clk m).up) m3 ⟨rfl,rfl,rfl,rfl,rfl,rfl,rfl⟩
    have h03:=Y3.obj
    symm
    refine⟨⟨g.P,g.c,(g.s.clk m).up,g.tg⟩,rfl,⟨Y3,by show(g.s.clk m).done<=_;rw [AH];exact sd⟩,λv H4 w4=>?_⟩
    obtain⟨rfl,e4⟩:=w4
    rw [e4]
    clear e4 H4
    dsimp only
    have gr13:=gr2.trans gr3
    by_cases co:(g.s.clk m).up.outNext g.P=true
    ·rw [RD co] at q
     obtain⟨o,r1,r2,r3,r4⟩:=so1 co
     refine⟨_,rfl,ce co ?_⟩
     symm
     refine⟨(o,⟨g.P,g.c,(g.s.clk m).up,g.tg⟩),rfl,⟨Y3,r1,r2,r3,r4⟩,λv H5 w5=>?_⟩
     obtain⟨rfl,c5,tg5,ey5,Y5,gr5,_⟩:=w5
     symm
     exact q _ _ ⟨rfl,c5,tg5,ey5,Y5,gr13.trans gr5⟩
    ·rw [RC co] at q
     obtain⟨t,h,r,r1,r2,r3,r4⟩:=so2 (by cases z:(g.s.clk m).up.outNext g.P with | true=>exact absurd z co | false=>rfl)
     rw [r1] at q
     dsimp only at q
     refine⟨_,rfl,bH co ?_⟩
     symm
     intro H5 m5
     obtain⟨Y5,gr5⟩:=Y3.setY (s':=(g.s.clk m).up.sStm 0) m5 ⟨rfl,rfl,rfl,rfl,rfl,rfl,rfl⟩
     have h05:=Y5.obj
     symm
     obtain⟨d,bd,q1,_⟩:=id r4
     have eh:((g.s.clk m).up.sStm 0).hd=g.s.hd:=Gp
     refine Df Y5.ag r1 r2 λH6 p6 fr6 A6 e6=>?_
     obtain⟨Y6,gr6⟩:=Y5.setA fr6 A6
     obtain⟨ho,kd,hm,hO⟩:=Y6.hd.get q1
     have dh6:=Y6.dh
     have nd:(g.c.hs.map (·.1)).Nodup:=by rw [Y6.hd.nums];have:=r3.nd;rw [<-eh] at this;exact this
     have vh:=uF nd hm
     symm
     refine⟨((h,ho,kd),⟨g.P,g.c,((g.s.clk m).up.sAg r).sStm 0,g.tg⟩),rfl,⟨Y6,hm,by rw [<-eh] at r3;exact r3,r4⟩,λv H7 w7=>?_⟩
     obtain⟨rfl,c7,tg7,ey7,Y7,gr7⟩:=w7
     exact q _ _ ⟨rfl,c7,tg7,ey7,Y7,((gr13.trans gr5).trans gr6).trans gr7⟩
theorem Gq(D:MethAt K C.y "end" "Yard.end" nF ["self"])(IC:Cls K C.y)(IF:NoAttr K C.y "stopped"):OkM P w K mg base 1 C.y "end" ["self"] (spR C K (λ_=>True) λg=>g.c.sv):=by
 refine D.okG IC tN (λ_=>rfl) λg f cdv A outer s0 H Q E hr p q=>?_
 have h0:=p.1.obj
 refine⟨_,(ae (ax (ai IC IF (pv 0)))),?_⟩
 symm
def wx(C:CA)(K:MF):Sp:=spG (A:=Gy) (λg=>[.ref g.c.y]) (λg H=>Yd C K g.P H g.c g.s g.tg) (λg H v H'=>∃r vs,v= .ref r/\H r=none/\Same H H'/\H' r=some (.lst vs)/\FzL K H' vs g.s.lg)
theorem Gs(D:MethAt K C.y "log" "Yard.log" nE ["self"])(IC:Cls K C.y)(Je:NoAttr K C.y "laid")(Jq:mg "list" =none):OkM P w K mg base 1 C.y "log" ["self"] (wx C K):=by
 refine D.okG IC tL (λ_=>rfl) λg f cdv A outer s0 H Q E hr p q=>?_
 have h0:=p.obj
 obtain⟨vs,l1,l2⟩:=p.lg
 refine⟨_,(ae (ax (dA jy Jq (aG (ai IC Je (pvM 0)))))),?_⟩
 symm
 intro r H1 n1 k1 e1
 exact q _ _ ⟨r,vs,rfl,n1,k1,e1,bi (Kt.of k1) l2⟩
end
mutual
def frz:Nq->Nq
 | .list l=>.tuple (oO l)
 | .tuple l=>.tuple (oO l)
 | x=>x
def oO:List Nq->List Nq
 | []=>[]
 | x::r=>frz x::oO r
end
theorem hW:∀l:List Nq,oO l=l.map frz
 | []=>by unfold oO;rfl
 | x::r=>by unfold oO;rw [hW r];rfl
inductive Sz:Nat->Nq->Prop
 | none {n:Nat}:Sz n .none
 | bool {n:Nat} (b:Bool):Sz n (.bool b)
 | int {n:Nat} (i:Int):Sz n (.int i)
 | str {n:Nat} (s:Str):Sz n (.str s)
 | list {n:Nat} {l:List Nq}:l.length<=1000->(∀x∈l,Sz n x)->Sz (n+1) (.list l)
 | tuple {n:Nat} {l:List Nq}:l.length<=1000->(∀x∈l,Sz n x)->Sz (n+1) (.tuple l)
section
variable{P:Np}{w:Nu}{K:MF}{mg:Str->Option Nk}{base:Heap}
theorem jh(h:RpL K H vs ds):∀{i:Nat} {v:V},vs[i]? =some v->∃d,ds[i]? =some d/\Rp K H v d:=by
 intro i v e
 have hi:i<ds.length:=by rw [<-bT h];exact(List.getElem?_eq_some_iff.mp e).1
 obtain⟨v',e',r⟩:=jg h (Lo hi)
 cases e.symm.trans e'
 exact⟨_,Lo hi,r⟩
def FrP(K:MF)(ds:List Nq)(_:Addr)(i:Nat)(ys:List V)(σ1:St)(H':Hp):Prop:=∃v0,FzL K H' ys ((ds.take i).map frz)/\σ1= [v0]
def sM(K:MF)(n:Nat):Sp:=λvs H Q _=>∃(v:V) (d:Nq),vs= [v]/\Rp K H v d/\Sz n d/\∀(H':Hp) (v':V),Same H H'->Fz K H' v' (frz d)->Q v' H'
def HF(K:MF):Nat->Sp
 | 0=>λ_ _ _ _=>False
 | n+1=>sM K n
theorem uN(D:DefAt K mg "frozen" mt ["thing"])(Jr:mg "isinstance" =none)(Jq:mg "list" =none)(JI:mg "tuple" =none)(JK:OkD P w K mg base (n+1) "frozen" ["thing"] (HF K n)):OkD P w K mg base (n+2) "frozen" ["thing"] (sM K n):=by
 refine D.ok pK (λvs H Q E h=>?_) (λf cdv A outer s H vs Q E hr h=>?_)
 ·obtain⟨_,_,rfl,_⟩:=h;rfl
 obtain⟨v,d,rfl,rc,sz,q⟩:=h
 have hu:=cJ hr
 have big:100000<=Nm:=by unfold Nm;decide
 have q':=PLift.up q
 clear q
 refine⟨_,(aa (aJ (fN (gc rF Jr (aD (pv 0) (au (aD (ue (T:="list") rfl Jq (by decide)) (ue (T:="tuple") rfl JI (by decide))))))) (ae (ax (dA ke JI (aG (cQ 1 ["part"] [] (FE (pv 0)) (λn _ _ _ _=>(cY 0 n)) (λ_ _ _ _=>cc) (λ_ _ _ _=>(aR JK hr rfl (aG (pv 0))))))))) aA) (ae (ax (pv 0)))),?_⟩
 cases rc with
 | non=>
  walk_at "rz"
  intro t1 H1 n1 g1 h1
  have fin:=q'.down H1 _ g1 .non
  walk_at "rz"
  refine⟨_,t1,_,_,_,_,rfl,h1,rfl,rfl,?_⟩
  walk_at "rz"
  try exact fin
 | bl b=>
  walk_at "rz"
  intro t1 H1 n1 g1 h1
  have fin:=q'.down H1 _ g1 (.bl b)
  walk_at "rz"
  refine⟨_,t1,_,_,_,_,rfl,h1,rfl,rfl,?_⟩
  walk_at "rz"
  try exact fin
 | int i=>
  walk_at "rz"
  intro t1 H1 n1 g1 h1
  have fin:=q'.down H1 _ g1 (.int i)
  walk_at "rz"
  refine⟨_,t1,_,_,_,_,rfl,h1,rfl,rfl,?_⟩
  walk_at "rz"
  try exact fin
 | str i=>
  walk_at "rz"
  intro t1 H1 n1 g1 h1
  have fin:=q'.down H1 _ g1 (.str i)
  walk_at "rz"
  refine⟨_,t1,_,_,_,_,rfl,h1,rfl,rfl,?_⟩
  walk_at "rz"
  try exact fin
 | @lst a vs ds ha t=>
  cases sz with
  | @list n _ ln sz=>
   have lt:=bT t
   walk_at "rz"
   intro t1 H1 n1 g1 h1
   have ha1:=g1 _ _ ha
   have hty:tyG H1 (.ref a)=some "list":=by unfold tyG;dsimp only;rw [ha1];rfl
   walk_at "rz"
   refine⟨_,t1,_,_,_,_,rfl,h1,hty,rfl,?_⟩
   clear hty
   walk_at "rz"
   apply br
   simp only [zJ]
   walk_at "rz"
   refine .inl ⟨⟨_,SqL.of ha1⟩,lE ha1 (by lia) (FrP K ds) (λD' H' _ _ _=>⟨_,.nil,rfl⟩) ?_ ?_⟩
   ·rintro D' i v ys σ1 H3 hx at1 ⟨v0,t3,rfl⟩
    obtain⟨d,ed,rv⟩:=jh t hx
    have rv3:=rv.mono (g1.trans at1.same)
    have szd:=sz d (LC ed)
    have lD:=at1.lst
    have at1':=PLift.up at1
    have ed':=PLift.up ed
    clear at1 hx ed
    walk_at "rz"
    refine⟨v,d,rfl,rv3,szd,λH4 v' g4 r4=>?_⟩
    refine at1'.down.put g4 λH5 mu=>⟨_,?_,rfl⟩
    have kt:=(Fr1.mu mu).kt (g4 _ _ lD)
    rw [bY ed'.down,Lx]
    exact dO (bi ((Kt.of g4).trans kt) t3) (.cons (bj kt r4) .nil)
   ·rintro D' ys σ1 H3 hD g3 hy hle ⟨v0,t3,rfl⟩
    rw [LH (by lia)] at t3
    have g13:=g1.trans g3
    exact⟨D',rfl,ys,trivial,hy,λp H4 hp g4 h4=>q'.down H4 (.ref p) (g13.trans g4) (by unfold frz;rw [hW];exact .tup (fh h4) (bi (Kt.of g4) t3))⟩
 | @tup a vs ds ha t=>
  cases sz with
  | @tuple n _ ln sz=>
   have lt:=bT t
   walk_at "rz"
   intro t1 H1 n1 g1 h1
   have ha1:=g1 _ _ ha
   have hty:tyG H1 (.ref a)=some "tuple":=by unfold tyG;dsimp only;rw [ha1];rfl
   walk_at "rz"
   refine⟨_,t1,_,_,_,_,rfl,h1,hty,rfl,?_⟩
   clear hty
   walk_at "rz"
   apply br
   simp only [zJ]
   walk_at "rz"
   refine .inr ⟨⟨_,SqT.of ha1⟩,vN ha1 (by lia) (FrP K ds) (λD' H' _ _ _=>⟨_,.nil,rfl⟩) ?_ ?_⟩
   ·rintro D' i v ys σ1 H3 hx at1 ⟨v0,t3,rfl⟩
    obtain⟨d,ed,rv⟩:=jh t hx
    have rv3:=rv.mono (g1.trans at1.same)
    have szd:=sz d (LC ed)
    have lD:=at1.lst
    have at1':=PLift.up at1
    have ed':=PLift.up ed
    walk_at "rz"
    refine⟨v,d,rfl,rv3,szd,λH4 v' g4 r4=>?_⟩
    refine at1'.down.put g4 λH5 mu=>⟨_,?_,rfl⟩
    have kt:=(Fr1.mu mu).kt (g4 _ _ lD)
    rw [bY ed'.down,Lx]
    exact dO (bi ((Kt.of g4).trans kt) t3) (.cons (bj kt r4) .nil)
   ·rintro D' ys σ1 H3 hD g3 hy hle ⟨v0,t3,rfl⟩
    rw [LH (by lia)] at t3
    have g13:=g1.trans g3
    exact⟨D',rfl,ys,trivial,hy,λp H4 hp g4 h4=>q'.down H4 (.ref p) (g13.trans g4) (by unfold frz;rw [hW];exact .tup (fh h4) (bi (Kt.of g4) t3))⟩
theorem BG(D:DefAt K mg "frozen" mt ["thing"])(Jr:mg "isinstance" =none)(Jq:mg "list" =none)(JI:mg "tuple" =none):∀n,OkD P w K mg base (n+2) "frozen" ["thing"] (sM K n)
 | 0=>uN D Jr Jq JI (D.ok pK (λvs H Q E h=>h.elim) λf cdv A outer s H vs Q E hr h=>h.elim)
 | n+1=>uN D Jr Jq JI (BG D Jr Jq JI n)
end
def Run(h:Int)(f:Nat)(s:YS)(p:cf)(R:YS):Prop:=wv h f s p/\s.goOn h f p=R
theorem eM(ds:List (Int×Hd)):(K34.setH n x ds).map (·.1)=ds.map (·.1):=by
 induction ds with
 | nil=>rfl
 | cons p r ih=>
  unfold K34.setH
  by_cases c:p.1=n
  ·rw [RD c];rfl
  ·rw [RC c,Ls,ih];rfl
theorem dF(ds:List (Int×Hd))(e:aT n ds=some d):aT n (K34.setH n x ds)=some x:=by
 induction ds with
 | nil=>cases e
 | cons p r ih=>
  unfold aT at e
  unfold K34.setH
  by_cases c:p.1=n
  ·rw [RD c];unfold aT;rw [RD c]
  ·rw [RC c] at e⊢;unfold aT;rw [RC c];exact ih e
theorem oP(h:p∈K34.setH n x ds):p=(n,x)\/p∈ds:=by
 induction ds with
 | nil=>exact .inr h
 | cons q r ih=>
  unfold K34.setH at h
  by_cases c:q.1=n
  ·rw [RD c] at h
   rcases List.mem_cons.mp h with rfl | h
   ·exact .inl (by rw [c])
   ·exact .inr (Lm _ h)
  ·rw [RC c] at h
   rcases List.mem_cons.mp h with rfl | h
   ·exact .inr Ll
   ·exact(ih h).imp id λz=>Lm _ z
theorem iL(ds:List (Int×Hd)):((K34.setH n x ds).filter λp=>decide (p.1≠n))=ds.filter λp=>decide (p.1≠n):=by
 induction ds with
 | nil=>rfl
 | cons p r ih=>
  unfold K34.setH
  by_cases c:p.1=n
  ·rw [RD c,LJ (by simp [c]),LJ (by simp [c])]
  ·rw [RC c,LP (by simp [c]),LP (by simp [c]),ih]
theorem hX(c:p.1=n):K34.setH n x (p::r)=(p.1,x)::r:=RD c
theorem hY(c:¬p.1=n):K34.setH n x (p::r)=p::K34.setH n x r:=RC c
theorem yE(ds:List (Int×Hd)):K34.setH n y (K34.setH n x ds)=K34.setH n y ds:=by
 induction ds with
 | nil=>rfl
 | cons p r ih=>
  by_cases c:p.1=n
  ·rw [hX c,hX c,hX (p:=(p.1,x)) c]
  ·rw [hY c,hY c,hY c,ih]
def YS.entr(s:YS)(h:Int)(d:Hd)(k:Int):YS:=(s.sStm (s.stm+1)).sHd (K34.setH h (d.sRow k) s.hd)
structure Ok0(j:Nat)(s:YS):Prop where
 hn:HN s.hd
 t1:s.ts.length<=10
 t2:nQ s.ts<=100
 ag:s.ag.length+j<=600
 bg:s.beg<=60
 nb:∀p∈s.hd,p.1<=s.beg
 lg:s.lg.length+500+j<16000000
theorem Ok0.le(o:Ok0 j s)(h:i<=j):Ok0 i s:=⟨o.hn,o.t1,o.t2,by have:=o.ag;lia,o.bg,o.nb,by have:=o.lg;lia⟩
theorem Ok0.yb(o:Ok0 j s):YB s:=⟨o.hn,by have:=o.ag;lia,o.bg,o.nb⟩
theorem Ok0.en(o:Ok0 j s)(e:aT h s.hd=some d):Ok0 j (s.entr h d k):=by
 have hm:=bt e
 refine⟨⟨?_,λp hp=>?_⟩,o.t1,o.t2,o.ag,o.bg,λp hp=>?_,o.lg⟩
 ·show((K34.setH h (d.sRow k) s.hd).map (·.1)).Nodup
  rw [eM];exact o.hn.nd
 ·rcases oP hp with rfl | hp
  ·exact o.hn.ps (h,d) hm
  ·exact o.hn.ps _ hp
 ·rcases oP hp with rfl | hp
  ·exact o.nb (h,d) hm
  ·exact o.nb _ hp
theorem Ok0.lay(o:Ok0 (j+1) s):Ok0 j (s.lay n ws):=⟨o.hn,o.t1,o.t2,by have:s.ag.length+(j+1)<=600:=o.ag;show s.ag.length+j<=600;lia,o.bg,o.nb,by
 have:=o.lg
 show(s.lg++[_]).length+500+j<16000000
 rw [Lq]
 show s.lg.length+1+500+j<16000000
 lia⟩
theorem Ok0.put(o:Ok0 (j+1) s):Ok0 j (s.put m x):=⟨o.hn,o.t1,o.t2,by
 have:=o.ag
 show(Ag.insO s.ag m x).length+j<=600
 rw [Ag.insO_len];lia,o.bg,o.nb,by have:=o.lg;show s.lg.length+500+j<16000000;lia⟩
theorem Ok0.ts(o:Ok0 j s)(h1:l.length<=10)(h2:nQ l<=100):Ok0 j (s.sTs l):=⟨o.hn,h1,h2,o.ag,o.bg,o.nb,o.lg⟩
section
variable{f j:Nat}{h:Int}{s R:YS}{p:cf}{d:Hd}
theorem Ok0.mem(o:Ok0 j s)(hd:aT h s.hd=some d):(h,d.sRow k)∈(s.entr h d k).hd:=by
 apply bt
 exact dF _ hd
theorem wy(hd:aT h s.hd=some d)(st:s.stm<100):s.enter h k=s.entr h d k:=by
 unfold YS.enter;rw [hd];dsimp only;rw [RC (by lia)];rfl
theorem Iy(o:Ok0 j s)(hd:aT h s.hd=some d)(sh:Shp w ns [ex])(ev:Wo.ev (kvH d.kn) s.now ex=some x)(dk:fj (s.entr h d k) w ns [x]):AF h (s.entr h d k) (d.sRow k) (.pl w k ns [ex]):=by
 have rk:cA (d.sRow k).kn (s.entr h d k).now [ex] []=some [x]:=by
  show cA d.kn s.now [ex] []=_
  unfold cA;rw [ev];rfl
 refine⟨o.mem hd,sh,(o.en hd).yb,⟨_,rk⟩,λw' k' ns' es' xs' em er=>?_,by have:=o.lg;show s.lg.length+500<_;lia⟩
 cases em
 cases rk.symm.trans er
 exact dk
theorem Gu{ex:Tr}(ev:Wo.ev (kvH d.kn) s.now ex=some x):s.doS h d p (.pl w k ns [ex])=((s.deed h w ns [x]).1,(s.deed h w ns [x]).2,kW p):=by
 unfold YS.doS cA
 dsimp only
 rw [ev];rfl
theorem uO(e:dc p=none)(pa:PaO p)(l:p.length<=1000)(o:Ok0 j s)(hd:aT h s.hd=some d):Run h (f+1) s p (s.endH h):=
 ⟨⟨pa,l,o.hn,d,hd,λ_=>⟨o.t1,o.t2,by have:=o.lg;lia,by have:=o.ag;lia⟩,λm z=>by rw [e] at z;cases z⟩,pS e⟩
theorem gF(e:dc p=some (.pl w k ns [ex]))(pp:cy p=p)(pa:PaO p)(l:p.length<=1000)(o:Ok0 j s)(hd:aT h s.hd=some d)(st:s.stm<100)(sh:Shp w ns [ex])(ev:Wo.ev (kvH d.kn) s.now ex=some x)(dk:fj (s.entr h d k) w ns [x])(r:(s.entr h d k).deed h w ns [x]=(b,s2))(n:b=true->Run h f s2 (kW p) R)(n':b=false->s2=R):Run h (f+1) s p R:=by
 have ee:=wy (k:=k) hd st
 have q:(s.enter h (Sm.pl w k ns [ex]).k).doS h (d.sRow (Sm.pl w k ns [ex]).k) (cy p) (.pl w k ns [ex])=(b,s2,kW p):=by
  show(s.enter h k).doS h (d.sRow k) (cy p) (.pl w k ns [ex])=_
  rw [ee,Gu (s:=s.entr h d k) (d:=d.sRow k) ev,r,pp]
 refine⟨⟨pa,l,o.hn,d,hd,λz=>by (rw [e] at z;cases z),λm z _=>?_⟩,?_⟩
 ·cases e.symm.trans z
  rw [q]
  refine⟨?_,λz=>(n z).1⟩
  show AF h (s.enter h k) (d.sRow k) _
  rw [ee]
  exact Iy o hd sh ev dk
 ·rw [uM e hd (by lia),q]
  cases b with
  | true=>exact(RD rfl).trans (n rfl).2
  | false=>exact(RC (λz=>by cases z)).trans (n' rfl)
end
def dP:List Sm:=[.pl "take" 3 ["jig"] [.num 1],.pl "wait" 4 [] [.name "a"],.pl "give" 5 ["jig"] [.num 1],.pl "say" 6 ["done"] [.now]]
abbrev bv(t:TS):List (Str×TS):=[("jig",t)]
abbrev knA(L:Int):List (Str×Int):=[("a",L)]
def row(m n:Int)(ws:List Nq):Nq:=.tuple (.int m::.int n::ws)
def dW:List Nq:=[.str "takes",.str "jig",.int 1]
def fD:List Nq:=[.str "queues",.str "take",.str "jig",.int 1]
def ji(n:Int):List Nq:=[.str "waits",.int n]
def jj:List Nq:=[.str "gives",.str "jig",.int 1]
def bO(n:Int):List Nq:=[.str "says",.str "done",.int n]
structure Eff(s R:YS)(hd:List (Int×Hd))(lg:List Nq)(ag:List (Int×Int))(ts:List (Str×TS)):Prop where
 done:R.done=s.done
 beg:R.beg=s.beg
 now:R.now=s.now
 hap:R.hap=s.hap
 pl:R.pl=s.pl
 ss:R.ss=s.ss
 st:R.st=s.st
 hd:R.hd=hd
 lg:R.lg=s.lg++lg
 ag:R.ag=ag
 ts:R.ts=ts
theorem Gv:Wo.ev (kvH (knA L)) now (.name "a")=some L:=rfl
section
variable{f j:Nat}{h L:Int}{s:YS}{d:Hd}{t:TS}
theorem fE:bB "jig" (bv t)=some t:=by unfold bB;rw [RD rfl]
theorem mF:hV "jig" t' (bv t)=(bv t'):=by unfold hV;rw [RD rfl]
theorem Gw(h:0<=L):(if 0<L then L else 0)=L:=by split<;>lia
theorem paO(h:i<=bd.length):PaO [(bd,i)]:=λx hx=>by cases List.mem_singleton.mp hx;exact h
theorem oQ(o:Ok0 (j+2) s)(hd:aT h s.hd=some d)(kn:d.kn=(knA L))(st:s.stm<100)(e:dc [(bd,i)]=some (.pl "wait" k [] [.name "a"]))(pp:cy [(bd,i)]= [(bd,i)])(hi:i<=bd.length):∃R,Run h (f+1) s [(bd,i)] R/\Eff s R (K34.setH h (d.sRow k) s.hd) [row s.now h (ji (if 0<L then L else 0))] (Ag.insO s.ag (s.now+(if 0<L then L else 0)) h) s.ts:=
 ⟨_,gF e pp (paO hi) (by simp) o hd st .wait (by rw [kn];exact Gv) .wait pQ (λz=>by cases z) λ_=>rfl,⟨rfl,rfl,rfl,rfl,rfl,rfl,rfl,rfl,rfl,rfl,rfl⟩⟩
theorem nS:nQ [(x,t)]=t.que.length:=by simp [nQ]
theorem Gx(o:Ok0 (j+4) s)(hd:aT h s.hd=some d)(kn:d.kn=(knA L))(st:s.stm=0)(hL:0<=L)(ht:s.ts=(bv t))(q:t.que= [])(fr:1<=t.free):∃R,Run h (f+2) s [(dP,0)] R/\Eff s R (K34.setH h (d.sRow 4) s.hd) [row s.now h dW,row s.now h (ji L)] (Ag.insO s.ag (s.now+L) h) (bv (bn t h 1)):=by
 have o1:Ok0 (j+3) (((s.entr h d 3).sTs (bv (bn t h 1))).lay h dW):=((o.en hd).ts (by simp) (by rw [nS];show t.que.length<=100;rw [q];decide)).lay
 have g1:aT h (((s.entr h d 3).sTs (bv (bn t h 1))).lay h dW).hd=some (d.sRow 3):=dF _ hd
 obtain⟨R,r,E⟩:=oQ (bd:=dP) (i:=1) o1 g1 kn (by show s.stm+1<100;lia) rfl rfl (by decide)
 rw [Gw hL] at E
 refine⟨R,gF (b:=true) rfl rfl (paO (by decide)) (by simp) o hd (by lia) (.one (by decide)) rfl (.ask ⟨rfl,⟨t,by show bB "jig" s.ts=_;rw [ht];exact fE,by rw [q];decide⟩⟩) ?_ (λ_=>r) (λz=>by cases z),⟨E.done,E.beg,E.now,E.hap,E.pl,E.ss,E.st,?_,?_,E.ag,E.ts⟩⟩
 ·rw [mC,RC (by decide)]
  have eh:(s.entr h d 3).had h "take" "jig" 1=(true,[],(s.entr h d 3).sTs (bv (bn t h 1))):=by
   unfold YS.had
   rw [show bB "jig" (s.entr h d 3).ts=some t by show bB "jig" s.ts=_;rw [ht];exact fE]
   dsimp only
   rw [show cz t h 1=(true,bn t h 1) by unfold cz;rw [RC (by rintro(z | z);exact z q;lia)],show(s.entr h d 3).ts=(bv t) from ht,mF]
  unfold YS.ask
  rw [eh]
  rfl
 ·rw [E.hd];exact yE _
 ·rw [E.lg];show(s.lg++[_])++[_]=_;rw [LO];rfl
theorem HG(o:Ok0 (j+4) s)(hd:aT h s.hd=some d)(st:s.stm=0)(ht:s.ts=(bv t))(q:t.que≠[]\/t.free<1)(ql:t.que.length<=100):∃R,Run h (f+2) s [(dP,0)] R/\Eff s R (K34.setH h (d.sRow 3) s.hd) [row s.now h fD] s.ag (bv ⟨t.free,t.held,t.que++[(h,1)]⟩):=by
 refine⟨((s.entr h d 3).sTs (bv ⟨t.free,t.held,t.que++[(h,1)]⟩)).lay h fD,gF (b:=false) rfl rfl (paO (by decide)) (by simp) o hd (by lia) (.one (by decide)) rfl (.ask ⟨rfl,⟨t,by show bB "jig" s.ts=_;rw [ht];exact fE,ql⟩⟩) ?_ (λz=>by cases z) λ_=>rfl,⟨rfl,rfl,rfl,rfl,rfl,rfl,rfl,rfl,rfl,rfl,rfl⟩⟩
 rw [mC,RC (by decide)]
 have eh:(s.entr h d 3).had h "take" "jig" 1=(false,[],(s.entr h d 3).sTs (bv ⟨t.free,t.held,t.que++[(h,1)]⟩)):=by
  unfold YS.had
  rw [show bB "jig" (s.entr h d 3).ts=some t by show bB "jig" s.ts=_;rw [ht];exact fE]
  dsimp only
  rw [show cz t h 1=(false,⟨t.free,t.held,t.que++[(h,1)]⟩) by unfold cz;rw [RD q],show(s.entr h d 3).ts=(bv t) from ht,mF]
 unfold YS.ask
 rw [eh]
 rfl
def bD(t:TS)(h now:Int)(ag:List (Int×Int)):List Nq×List (Int×Int)×TS:=match t.que with
 | []=>([],ag,bn t h (-1))
 | (n,_)::r=>([row now n dW],Ag.insO ag now n,bn ⟨t.free+1,(bn t h (-1)).held,r⟩ n 1)
theorem AI(e:aV t.held h=1)(q1:∀x∈t.que,x.2=1)(fr:t.que≠[]->t.free=0):ci t h 1=((t.que.take 1),(bD t h 0 []).2.2):=by
 unfold ci bD giv
 rw [RC (by rw [e];decide)]
 cases q:t.que with
 | nil=>rfl
 | cons x r=>
  obtain⟨n,m⟩:=x
  obtain rfl:m=1:=q1 (n,m) (by rw [q];exact Ll)
  have f0:=fr (by rw [q];simp)
  rw [jE (by show 1<=t.free- -1;lia)]
  have:srv r (bn ⟨t.free- -1,(bn t h (-1)).held,r⟩ n 1)=([],bn ⟨t.free- -1,(bn t h (-1)).held,r⟩ n 1):=by
   cases r with
   | nil=>rfl
   | cons y r=>
    obtain⟨n',m'⟩:=y
    obtain rfl:m'=1:=q1 (n',m') (by rw [q];exact Lm _ Ll)
    show(if (1:Int)<=t.free- -1-1 then _ else _)=_
    rw [RC (by lia)]
  show((n,1)::(srv r (bn ⟨t.free- -1,(bn t h (-1)).held,r⟩ n 1)).1,(srv r (bn ⟨t.free- -1,(bn t h (-1)).held,r⟩ n 1)).2)=_
  rw [this]
  show([(n,1)],bn ⟨t.free- -1,(bn t h (-1)).held,r⟩ n 1)=([(n,1)],bn ⟨t.free+1,(bn t h (-1)).held,r⟩ n 1)
  rw [Int.sub_neg]
theorem Dq(o:Ok0 (j+9) s)(hd:aT h s.hd=some d)(st:s.stm=0)(ss:s.st=none)(ht:s.ts=(bv t))(e:aV t.held h=1)(q1:∀x∈t.que,x.2=1)(fr:t.que≠[]->t.free=0)(ql:t.que.length<=100)(z0:aV (bD t h 0 []).2.2.held h=0):∃R,Run h (f+3) s [(dP,2)] R/\Eff s R (s.hd.filter λp=>decide (p.1≠h)) (row s.now h jj::(bD t h s.now s.ag).1++[row s.now h (bO s.now),row s.now h [.str "ends"]]) (bD t h s.now s.ag).2.1 (bv (bD t h 0 []).2.2):=by
 let s1:=s.entr h d 5
 let s2:=(s1.sTs (bv (bD t h 0 []).2.2)).given h "jig" 1 (svT (t.que.take 1))
 have ge:s1.give h "jig" 1=s2:=by
  unfold YS.give
  rw [RD (by decide),show bB "jig" s1.ts=some t by show bB "jig" s.ts=_;rw [ht];exact fE]
  dsimp only
  rw [AI e q1 fr,show s1.ts=(bv t) from ht,mF,show giv t h 1=1 by unfold giv;rw [RC (by rw [e];decide)]]
 have tl:(bD t h 0 []).2.2.que.length<=100:=by
  unfold bD
  cases q:t.que with
  | nil=>show t.que.length<=100;exact ql
  | cons x r=>show r.length<=100;rw [q] at ql;simp at ql;lia
 have eff2:Eff s s2 (K34.setH h (d.sRow 5) s.hd) (row s.now h jj::(bD t h s.now s.ag).1) (bD t h s.now s.ag).2.1 (bv (bD t h 0 []).2.2):=by
  show Eff s ((s1.sTs (bv (bD t h 0 []).2.2)).given h "jig" 1 (svT (t.que.take 1))) _ _ _ _
  unfold YS.given
  rw [RD (by decide)]
  unfold bD
  cases q:t.que with
  | nil=>exact⟨rfl,rfl,rfl,rfl,rfl,rfl,rfl,rfl,rfl,rfl,rfl⟩
  | cons x r=>
   obtain⟨n,m⟩:=x
   obtain rfl:m=1:=q1 (n,m) (by rw [q];exact Ll)
   exact⟨rfl,rfl,rfl,rfl,rfl,rfl,rfl,rfl,(LO _ _ _),rfl,rfl⟩
 have o2:Ok0 (j+6) s2:=by
  have a1:Ok0 (j+8) ((s1.sTs (bv (bD t h 0 []).2.2)).lay h jj):=((o.en hd).ts (by simp) (by rw [nS];exact tl)).lay
  show Ok0 (j+6) ((s1.sTs (bv (bD t h 0 []).2.2)).given h "jig" 1 (svT (t.que.take 1)))
  unfold YS.given
  rw [RD (by decide)]
  cases q:t.que with
  | nil=>exact a1.le (by lia)
  | cons x r=>exact(a1.lay).put
 have g2:aT h s2.hd=some (d.sRow 5):=by rw [eff2.hd];exact dF _ hd
 have st2:s2.stm=1:=by
  show((s1.sTs (bv (bD t h 0 []).2.2)).given h "jig" 1 (svT (t.que.take 1))).stm=1
  unfold YS.given
  rw [RD (by decide)]
  cases q:t.que with
  | nil=>show s.stm+1=1;lia
  | cons x r=>show s.stm+1=1;lia
 clear_value s2
 have ge:=ge
 let s3:=(s2.entr h (d.sRow 5) 6).lay h (bO s2.now)
 have o3:Ok0 (j+5) s3:=(o2.en g2).lay
 have g3:aT h s3.hd=some ((d.sRow 5).sRow 6):=dF _ g2
 have e3:s3.ts=(bv (bD t h 0 []).2.2):=eff2.ts
 have l3:s3.lg=s2.lg++[row s2.now h (bO s2.now)]:=rfl
 have h3:s3.hd=K34.setH h ((d.sRow 5).sRow 6) s2.hd:=rfl
 have f3:Eff s2 s3 s3.hd [row s2.now h (bO s2.now)] s2.ag s2.ts:=⟨rfl,rfl,rfl,rfl,rfl,rfl,rfl,rfl,rfl,rfl,rfl⟩
 have ds:(s2.entr h (d.sRow 5) 6).deed h "say" ["done"] [s2.now]=(true,s3):=by
  rw [sH]
  show(s2.st.isNone,s3)=_
  rw [eff2.st,ss];rfl
 clear_value s3
 have r3:Run h (f+1) s3 [(dP,4)] (s3.endH h):=uO rfl (paO (by decide)) (by simp) o3 g3
 have r2:=gF rfl rfl (paO (by decide)) (by simp) o2 g2 (by lia) (.one (by decide)) rfl .say ds (λ_=>r3) (λz=>by cases z)
 have dg:(s.entr h d 5).deed h "give" ["jig"] [1]=(true,s2):=by
  rw [pR,ge,eff2.st,ss];rfl
 refine⟨s3.endH h,gF rfl rfl (paO (by decide)) (by simp) o hd (by lia) (.one (by decide)) rfl (.give (by show bB "jig" s.ts=_;rw [ht];exact fE) ql) dg (λ_=>r2) (λz=>by cases z),?_⟩
 have lv:cS h (bD t h 0 []).2.2=(bD t h 0 []).2.2:=by unfold cS;rw [z0,RC (by decide)]
 have ll:dj h (bv (bD t h 0 []).2.2)= []:=by unfold dj;rw [List.filterMap_cons_none (by dsimp only;rw [z0,RC (by decide)])];rfl
 unfold YS.endH
 rw [e3,ll]
 refine⟨f3.done.trans eff2.done,f3.beg.trans eff2.beg,f3.now.trans eff2.now,f3.hap.trans eff2.hap,f3.pl.trans eff2.pl,f3.ss.trans eff2.ss,f3.st.trans eff2.st,?_,?_,f3.ag.trans eff2.ag,?_⟩
 ·show s3.hd.filter _=_
  rw [h3,iL,eff2.hd,iL]
 ·show s3.lg++[row s3.now h [.str "ends"]]=_
  rw [l3,eff2.lg,f3.now,eff2.now,LO,LO];rfl
 ·show bv (cS h (bD t h 0 []).2.2)=_
  rw [lv]
end
structure Pre(s s':YS)(m:Int):Prop where
 now:s'.now=m
 hap:0<=s'.hap/\s'.hap<=s.hap+1
 done:s'.done=s.done
 beg:s'.beg=s.beg
 pl:s'.pl=s.pl
 ag:s'.ag=s.ag
 ts:s'.ts=s.ts
 ss:s'.ss=s.ss
 hd:s'.hd=s.hd
 lg:s'.lg=s.lg
 st:s'.st=s.st
theorem fY(le:s.now<=m)(h0:0<=s.hap):Pre s (s.clk m).up m:=by
 unfold YS.clk
 by_cases c:s.now<m
 ·rw [RD c]
  exact⟨rfl,by show 0<=(0:Int)+1/\(0:Int)+1<=s.hap+1;lia,rfl,rfl,rfl,rfl,rfl,rfl,rfl,rfl,rfl⟩
 ·rw [RC c]
  exact⟨by show s.now=m;lia,by show 0<=s.hap+1/\s.hap+1<=s.hap+1;lia,rfl,rfl,rfl,rfl,rfl,rfl,rfl,rfl,rfl⟩
theorem uP{s:YS}(h:s.hap<500):¬(s.clk m).hap=500:=by
 unfold YS.clk
 split
 ·show ¬(0:Int)=500;decide
 ·lia
theorem Pre.outNext(p:Pre s s' m):s'.outNext P=s.outNext P:=by unfold YS.outNext YS.first;rw [p.done,p.ag]
section
variable{P:Pr}{s R:YS}{m h t:Int}{r:List (Int×Int)}{d:Hd}{bd:List Sm}{o:Ot}
theorem sN(e:s.next P=some m)(le:s.now<=m)(h0:0<=s.hap)(h5:s.hap<500)(dn:s.done<=P.out.length)(oN:s.outNext P=true)(ho:P.out[s.done]? =some o)(ok:wn P o)(yb:YB (s.clk m).up)(lg:s.lg.length+500<16000000):fX P s/\s.step P=(s.clk m).up.doOut P:=by
 have p:=fY le h0
 refine⟨⟨dn,λm' e' _=>?_⟩,?_⟩
 ·cases e.symm.trans e'
  rw [p.outNext,oN]
  exact⟨λ_=>⟨o,by rw [p.done];exact ho,ok,yb,by rw [p.lg];exact lg⟩,λz=>by cases z⟩
 ·rw [kK e,RC (uP h5),RD (by rw [p.outNext];exact oN)]
theorem uR(e:s.next P=some m)(le:s.now<=m)(h0:0<=s.hap)(h5:s.hap<500)(dn:s.done<=P.out.length)(oN:s.outNext P=false)(ea:s.ag=(t,h)::r)(al:s.ag.length<=900)(hn:HN s.hd)(hd:aT h s.hd=some d)(hb:bB d.nm P.bds=some bd)(bo:mD bd)(rn:Run h 102 (((s.clk m).up.sAg r).sStm 0) (dC bd d.row) R):fX P s/\s.step P=R:=by
 have p:=fY le h0
 have hd':aT h (s.clk m).up.hd=some d:=by rw [p.hd];exact hd
 refine⟨⟨dn,λm' e' _=>?_⟩,?_⟩
 ·cases e.symm.trans e'
  rw [p.outNext,oN]
  exact⟨λz=>by (cases z),λ_=>⟨t,h,r,by rw [p.ag];exact ea,by rw [p.ag];exact al,hn,d,bd,hd',hb,bo,rn.1⟩⟩
 ·rw [kK e,RC (uP h5),RC (by rw [p.outNext,oN];decide),p.ag,ea]
  show YS.goF P (((s.clk m).up.sAg r).sStm 0) h=R
  unfold YS.goF
  rw [show aT h (((s.clk m).up.sAg r).sStm 0).hd=some d from hd']
  dsimp only
  rw [hb]
  exact rn.2
theorem nU(e:s.next P=some m):s.st=none/\((s.outNext P=true/\∃o,P.out[s.done]? =some o/\o.m=m/\∀x∈s.ag.head?,m<=x.1)\/(s.outNext P=false/\∃h r,s.ag=(m,h)::r/\∀o,P.out[s.done]? =some o->m<o.m)):=by
 unfold YS.next at e
 have e0:s.st=none:=by
  cases q:s.st with
  | none=>rfl
  | some x=>rw [q] at e;cases e
 refine⟨e0,?_⟩
 rw [e0,RC (by decide)] at e
 cases on:s.outNext P with
 | true=>
  rw [on] at e
  unfold YS.outNext at on
  cases q:P.out[s.done]? with
  | none=>rw [q] at e;cases e
  | some o=>
   rw [q] at e on
   refine .inl ⟨rfl,o,rfl,Option.some.inj e,λx hx=>?_⟩
   cases Option.some.inj e
   unfold YS.first at on
   rw [hx] at on
   exact of_decide_eq_true on
 | false=>
  rw [on,RC (by decide)] at e
  unfold YS.first at e
  cases q:s.ag with
  | nil=>rw [q] at e;cases e
  | cons x r=>
   obtain⟨x1,x2⟩:=x
   rw [q] at e
   cases e
   refine .inr ⟨rfl,x2,r,rfl,λo ho=>?_⟩
   unfold YS.outNext YS.first at on
   rw [ho,q] at on
   have:¬o.m<=x1:=of_decide_eq_false on
   show x1<o.m
   lia
theorem pT(e:s.next P=none)(st:s.st=none)(dn:s.done<=P.out.length):s.done=P.out.length/\s.ag= []:=by
 unfold YS.next at e
 rw [st,RC (by decide)] at e
 by_cases c:s.done=P.out.length
 ·refine⟨c,?_⟩
  have oN:s.outNext P=false:=by unfold YS.outNext;rw [Mi (by lia)]
  rw [oN,RC (by decide)] at e
  unfold YS.first at e
  cases q:s.ag with
  | nil=>rfl
  | cons x r=>rw [q] at e;cases e
 ·exfalso
  have q:P.out[s.done]? =some (P.out[s.done]'(by lia)):=Lo (by lia)
  unfold YS.outNext YS.first at e
  rw [q] at e
  cases g:s.ag with
  | nil=>rw [g] at e;cases e
  | cons x r=>
   rw [g] at e
   have e:(if decide ((P.out[s.done]'(by lia)).m<=x.1)=true then some (P.out[s.done]'(by lia)).m else some x.1)=none:=e
   by_cases z:(P.out[s.done]'(by lia)).m<=x.1
   ·rw [RD (decide_eq_true z)] at e;cases e
   ·rw [RC (by rw [decide_eq_false z];decide)] at e;cases e
theorem AJ(ho:P.out[s.done]? =some (.start m nm xs))(hn:bB nm P.nms=some ns)(hb:s.beg<60):Eff ((s.sDone (s.done+1)).sBeg (s.beg+1)) (s.doOut P) (s.hd++[((s.beg:Int)+1,Hd.mk nm 0 (ns.zip xs))]) [.tuple [.int s.now,.int ((s.beg:Int)+1),.str "begins",.str nm]] (Ag.insO s.ag s.now ((s.beg:Int)+1)) s.ts:=by
 unfold YS.doOut
 rw [ho]
 dsimp only
 unfold YS.begin
 rw [RC (by show ¬s.beg=60;lia),hn]
 exact⟨rfl,rfl,rfl,rfl,rfl,rfl,rfl,rfl,rfl,rfl,rfl⟩
end
theorem cW(O:List (Int×Int))(m x:Int):(Ag.insO O m x).Perm ((m,x)::O):=by
 refine List.perm_middle.trans (List.Perm.cons _ ?_)
 rw [LM]
theorem insO_mem:e∈Ag.insO O m x↔e=(m,x)\/e∈O:=by
 rw [(cW O m x).mem_iff,Ms]
theorem jk(h:Ag.SO O):Ag.SO (Ag.insO O m x):=by
 unfold Ag.SO at *
 induction O with
 | nil=>exact LU _ _
 | cons a r ih=>
  rw [MB] at h
  unfold Ag.insO
  by_cases c:a.1<=m
  ·rw [List.takeWhile_cons_of_pos (by simpa using c),List.dropWhile_cons_of_pos (by simpa using c)]
   refine List.pairwise_cons.mpr ⟨λb hb=>?_,ih h.2⟩
   rcases insO_mem.mp hb with rfl | hb
   ·exact c
   ·exact h.1 b hb
  ·rw [List.takeWhile_cons_of_neg (by simpa using c),List.dropWhile_cons_of_neg (by simpa using c)]
   refine List.pairwise_cons.mpr ⟨λb hb=>?_,List.pairwise_cons.mpr h⟩
   rcases List.mem_cons.mp hb with rfl | hb
   ·show m<=b.1;lia
   ·have:=h.1 b hb;lia
theorem jm(h:(O.map (·.2)).Nodup)(n:x∉O.map (·.2)):((Ag.insO O m x).map (·.2)).Nodup:=
 ((cW O m x).map (·.2)).nodup_iff.mpr (List.nodup_cons.mpr ⟨n,h⟩)
theorem yF(hx:f (m,x)=true)(h:∀e∈O,f e=true->e.1<=m)(so:Ag.SO O):(Ag.insO O m x).filter f=O.filter f++[(m,x)]:=by
 unfold Ag.insO
 rw [LZ,LP hx]
 have d:((O.dropWhile λp=>decide (p.1<=m)).filter f)= []:=by
  rw [List.filter_eq_nil_iff]
  intro e he fe
  have hm:=List.dropWhile_subset _ he
  have:=h e hm fe
  unfold Ag.SO at so
  induction O with
  | nil=>exact absurd hm Lr
  | cons a r ih=>
   rw [MB] at so
   by_cases c:a.1<=m
   ·rw [List.dropWhile_cons_of_pos (by simpa using c)] at he
    exact ih (λe he=>h e (Lm _ he)) so.2 he (List.dropWhile_subset _ he)
   ·rcases List.mem_cons.mp hm with rfl | hm
    ·exact c this
    ·have:=so.1 e hm;lia
 have t:O.filter f=(O.takeWhile λp=>decide (p.1<=m)).filter f:=by
  conv=>lhs;rw [<-LM (p:=λp:Int×Int=>decide (p.1<=m)) (l:=O),LZ,d,LQ]
 rw [d,t]
theorem kL(hx:f (m,x)=false):(Ag.insO O m x).filter f=O.filter f:=by
 unfold Ag.insO
 rw [LZ,LJ (by rw [hx];decide),<-LZ,LM]
def bF(ms:List Int)(L:Int)(p:Nat)(k:Nat):Int:=
 if h:0<p/\p<=k then (if bF ms L p (k-p)+L>ms.getD k 0 then bF ms L p (k-p)+L else ms.getD k 0) else ms.getD k 0
termination_by k
decreasing_by all_goals lia
structure Sh(ms:List Int)(L:Int)(p:Nat):Prop where
 ln:ms.length<=40
 mo:∀i j,i<=j->j<ms.length->ms.getD i 0<=ms.getD j 0
 m0:∀i,0<=ms.getD i 0/\ms.getD i 0<=480
 l0:0<=L/\L<=29
 p0:0<p
section
variable{ms:List Int}{L:Int}{p:Nat}
theorem nV(h:k<p):bF ms L p k=ms.getD k 0:=by unfold bF;rw [dif_neg (by lia)]
theorem jG(h0:0<p)(h:p<=k):bF ms L p k=if bF ms L p (k-p)+L>ms.getD k 0 then bF ms L p (k-p)+L else ms.getD k 0:=by
 conv=>lhs;unfold bF
 rw [dif_pos ⟨h0,h⟩]
theorem Iz(S:Sh ms L p)(k:Nat):ms.getD k 0<=bF ms L p k:=by
 by_cases c:p<=k
 ·rw [jG S.p0 c];split<;>lia
 ·rw [nV (by lia)];exact Int.le_refl _
theorem HH(S:Sh ms L p)(k:Nat):0<=bF ms L p k/\bF ms L p k<=480+29*k:=by
 have l:=S.l0
 induction k using Nat.strongRecOn with
 | ind k ih=>
  have m:=S.m0 k
  by_cases c:p<=k
  ·have:=ih (k-p) (by have:=S.p0;lia)
   have p0:=S.p0
   rw [jG S.p0 c];split<;>lia
  ·rw [nV (by lia)];lia
theorem AK(S:Sh ms L p)(k:Nat):k+1<ms.length->bF ms L p k<=bF ms L p (k+1):=by
 induction k using Nat.strongRecOn with
 | ind k ih=>
  intro hk
  have m:=S.mo k (k+1) (by lia) hk
  by_cases c:p<=k
  ·have i:=ih (k-p) (by have:=S.p0;lia) (by lia)
   rw [jG S.p0 c,jG S.p0 (by lia:p<=k+1),show k+1-p=k-p+1 by lia]
   split<;>split<;>lia
  ·rw [nV (by lia)]
   exact Int.le_trans m (Iz S _)
theorem Dr(S:Sh ms L p){i:Nat}:∀{j:Nat},i<=j->j<ms.length->bF ms L p i<=bF ms L p j:=by
 intro j
 induction j with
 | zero=>intro h _;rw [show i=0 by lia];exact Int.le_refl _
 | succ j ih=>
  intro h hl
  by_cases c:i=j+1
  ·rw [c];exact Int.le_refl _
  ·exact Int.le_trans (ih (by lia) (by lia)) (AK S j hl)
end
def mI(ms:List Int)(n:Int):Int:=ms.getD (n-1).toNat 0
def bI(ms:List Int)(L:Int)(p:Nat)(n:Int):Int:=bF ms L p (n-1).toNat
theorem oR{k:Nat}:bI ms L p ((k:Int)+1)=bF ms L p k:=by unfold bI;rw [show((k:Int)+1-1).toNat=k by lia]
theorem iM{k:Nat}:mI ms ((k:Int)+1)=ms.getD k 0:=by unfold mI;rw [show((k:Int)+1-1).toNat=k by lia]
def fk(ms:List Int)(L:Int):Pr:=⟨[("main",["a"])],[],[("main",dP)],ms.map λm=>.start m "main" [L]⟩
def wt(d:Hd):Nat:=if d.row=0 then 3 else if d.row=3 then 2 else 1
def sF(f:Hd->Nat)(hd:List (Int×Hd)):Nat:=(hd.map λq=>f q.2).sum
def mu(n:Nat)(s:YS):Nat:=4*(n-s.done)+sF wt s.hd
theorem sO(e:aT h hd=some d):sF f (K34.setH h d' hd)+f d=sF f hd+f d':=by
 induction hd with
 | nil=>cases e
 | cons q r ih=>
  unfold aT at e
  unfold K34.setH
  by_cases c:q.1=h
  ·rw [RD c] at e⊢
   cases e
   simp only [sF,Ls,Mz];lia
  ·rw [RC c] at e⊢
   have:=ih e
   simp only [sF,Ls,Mz] at this⊢;lia
theorem sP(nd:(hd.map (·.1)).Nodup)(e:aT h hd=some d):sF f (hd.filter λq=>decide (q.1≠h))+f d=sF f hd:=by
 induction hd with
 | nil=>cases e
 | cons q r ih=>
  unfold aT at e
  rw [Ls,LV] at nd
  by_cases c:q.1=h
  ·rw [RD c] at e
   cases e
   have:(r.filter λq=>decide (q.1≠h))=r:=by
    rw [List.filter_eq_self]
    intro x hx
    exact decide_eq_true λz=>nd.1 (List.mem_map.mpr ⟨x,hx,z.trans c.symm⟩)
   rw [LJ (by simp [c]),this]
   simp only [sF,Ls,Mz];lia
  ·rw [RC c] at e
   have:=ih nd.2 e
   rw [LP (by simp [c])]
   simp only [sF,Ls,Mz] at this⊢;lia
inductive RowS (ms:List Int) (L:Int) (p:Nat):Nq->Prop
 | begins {m n:Int}:RowS ms L p (row m n [.str "begins",.str "main"])
 | takes {n:Int}:RowS ms L p (row (bI ms L p n) n dW)
 | queues {n:Int}:RowS ms L p (row (mI ms n) n fD)
 | waits {m n:Int}:RowS ms L p (row m n (ji L))
 | gives {m n:Int}:RowS ms L p (row m n jj)
 | says {n:Int}:RowS ms L p (row (bI ms L p n+L) n (bO (bI ms L p n+L)))
 | ends {m n:Int}:RowS ms L p (row m n [.str "ends"])
structure Cm(ms:List Int)(s:YS):Prop where
 beg:s.beg=s.done
 dn:s.done<=ms.length
 ar:∀k,k<s.done->ms.getD k 0<=s.now
 nx:s.done<ms.length->s.now<=ms.getD s.done 0
 pl:s.pl= []
 ss:s.ss= []
 st:s.st=none
 hp:0<=s.hap/\s.hap+mu ms.length s<=160
 ll:s.lg.length+4*mu ms.length s<=640
 nw:0<=s.now/\s.now<=2000000
 nd:(s.hd.map (·.1)).Nodup
 an:(s.ag.map (·.2)).Nodup
 so:Ag.SO s.ag
 lo:∀e∈s.ag,s.now<=e.1
 ah:∀e∈s.ag,e.2∈s.hd.map (·.1)
 hb:∀q∈s.hd,1<=q.1/\q.1<=s.done
structure SI(ms:List Int)(L:Int)(p:Nat)(T C G:Nat)(O:List Int)(t:TS)(s:YS):Prop where
 cm:Cm ms s
 tc:T<=C
 ca:C<=s.done
 gt:G<=T
 hd:∀q∈s.hd,q.2.nm= "main"/\q.2.kn=(knA L)/\((q.2.row=0/\(C:Int)<q.1)\/(q.2.row=3/\q.1<=C)\/(q.2.row=4/\q.1<=T))
 al:∀n:Int,(T:Int)<n->n<=s.done->n∈s.hd.map (·.1)
 ag:∀e∈s.ag,∃d,(e.2,d)∈s.hd/\((d.row=0/\e.1=mI ms e.2)\/(d.row=3/\e.2<=T/\e.1=bI ms L p e.2)\/(d.row=4/\e.1=bI ms L p e.2+L))
 ga:∀n:Int,n∈s.hd.map (·.1)->n<=T\/(C:Int)<n->n∈s.ag.map (·.2)
 na:(s.ag.filter λe=>decide ((C:Int)<e.2)).map (·.2)=(List.range' (C+1) (s.done-C)).map Int.ofNat
 ts:s.ts=(bv t)
 fr:t.free=(p:Int)-((T:Int)-G)
 qu:t.que=(List.range' (T+1) (C-T)).map λn=>(Int.ofNat n,(1:Int))
 he:∀n:Int,aV t.held n=if n∈O then 1 else 0
 od:O.Nodup
 om:∀n:Int,n∈O↔n<=T/\n∈s.hd.map (·.1)
 pm:(O.map (bI ms L p)).Perm ((List.range' G (T-G)).map (bF ms L p))
 pq:T<C->T=G+p
 tp:T<=G+p
 gv:∀j,j<G->bF ms L p j+L<=s.now
 lr:∀d∈s.lg,RowS ms L p d
 lt:∀k,k<T->row (bF ms L p k) ((k:Int)+1) dW∈s.lg
 lq:∀k,k<C->ms.getD k 0<bF ms L p k->row (ms.getD k 0) ((k:Int)+1) fD∈s.lg
 ls:∀k,k<T->((k:Int)+1)∉s.hd.map (·.1)->row (bF ms L p k+L) ((k:Int)+1) (bO (bF ms L p k+L))∈s.lg
section
variable{ms:List Int}{s:YS}
theorem Cm.hn(I:Cm ms s)(ln:ms.length<=40):HN s.hd:=⟨I.nd,λq hq=>by
 have:=I.hb q hq
 have:=I.dn
 lia⟩
theorem Cm.agl(I:Cm ms s)(ln:ms.length<=40):s.ag.length<=40:=by
 have sub:∀n∈s.ag.map (·.2),n∈(List.range' 1 s.done).map Int.ofNat:=λn hn=>by
  obtain⟨e,he,rfl⟩:=List.mem_map.mp hn
  obtain⟨q,hq,eq⟩:=List.mem_map.mp (I.ah e he)
  have:=I.hb q hq
  refine List.mem_map.mpr ⟨e.2.toNat,List.mem_range'_1.mpr ?_,?_⟩
  ·lia
  ·show((e.2.toNat:Nat):Int)=e.2;lia
 have:=qB I.an sub
 rw [Ln,Ln,Mb] at this
 have:=I.dn
 lia
theorem Cm.ok(I:Cm ms s)(ln:ms.length<=40)(t1:s.ts.length<=10)(t2:nQ s.ts<=100)(hd:s'.hd=s.hd)(ts:s'.ts=s.ts)(ag:s'.ag.length<=40)(beg:s'.beg=s.beg)(lg:s'.lg=s.lg):Ok0 20 s':=by
 have h1:=I.dn
 have h3:=I.ll
 have h4:=I.beg
 refine⟨by rw [hd];exact I.hn ln,by rw [ts];exact t1,by rw [ts];exact t2,by lia,by lia,λq hq=>?_,by rw [lg];lia⟩
 ·rw [hd] at hq;rw [beg,h4];exact(I.hb q hq).2
end
theorem kM{hd:List (Int×Hd)}(nd:(hd.map (·.1)).Nodup)(h:(n,d)∈hd)(h':(n,d')∈hd):d=d':=Option.some.inj ((eK nd h).symm.trans (eK nd h'))
theorem memF{hd:List (Int×Hd)}:n∈(hd.filter λq=>decide (q.1≠h)).map (·.1)↔n∈hd.map (·.1)/\n≠h:=by
 constructor
 ·intro z
  obtain⟨q,hq,rfl⟩:=List.mem_map.mp z
  rw [List.mem_filter] at hq
  exact⟨List.mem_map.mpr ⟨q,hq.1,rfl⟩,of_decide_eq_true hq.2⟩
 ·rintro⟨z,ne⟩
  obtain⟨q,hq,rfl⟩:=List.mem_map.mp z
  exact List.mem_map.mpr ⟨q,List.mem_filter.mpr ⟨hq,decide_eq_true ne⟩,rfl⟩
theorem iE(hm:(n,d)∈hd)(ne:n≠h):(n,d)∈K34.setH h x hd:=by
 induction hd with
 | nil=>exact hm
 | cons q r ih=>
  by_cases c:q.1=h
  ·rw [hX c]
   rcases List.mem_cons.mp hm with rfl | hm
   ·exact absurd c ne
   ·exact Lm _ hm
  ·rw [hY c]
   rcases List.mem_cons.mp hm with rfl | hm
   ·exact Ll
   ·exact Lm _ (ih hm)
theorem jH(nd:(hd.map (·.1)).Nodup)(hq:q∈K34.setH h x hd):q=(h,x)\/(q∈hd/\q.1≠h):=by
 induction hd with
 | nil=>cases hq
 | cons a r ih=>
  rw [Ls,LV] at nd
  by_cases c:a.1=h
  ·rw [hX c] at hq
   rcases List.mem_cons.mp hq with rfl | hq
   ·exact .inl (by rw [c])
   ·exact .inr ⟨Lm _ hq,λz=>nd.1 (List.mem_map.mpr ⟨q,hq,z.trans c.symm⟩)⟩
  ·rw [hY c] at hq
   rcases List.mem_cons.mp hq with rfl | hq
   ·exact .inr ⟨Ll,c⟩
   ·exact(ih nd.2 hq).imp id λz=>⟨Lm _ z.1,z.2⟩
theorem dG:aV (c9 l h x) n=if n=h then x else aV l n:=by
 induction l with
 | nil=>
  show(if h=n then x else 0)=_
  by_cases c:n=h
  ·rw [RD c.symm,RD c]
  ·rw [RC (Ne.symm c),RC c];rfl
 | cons a r ih=>
  obtain⟨k,y⟩:=a
  show aV (if k=h then (k,x)::r else (k,y)::c9 r h x) n=if n=h then x else if k=n then y else aV r n
  by_cases c:k=h
  ·rw [RD c]
   show(if k=n then x else aV r n)=_
   by_cases e:n=h
   ·rw [RD (by lia),RD e]
   ·rw [RC (by lia),RC e,RC (by lia)]
  ·rw [RC c]
   show(if k=n then y else aV (c9 r h x) n)=_
   by_cases e:k=n
   ·rw [RD e,RC (by lia),RD e]
   ·rw [RC e,RC e,ih]
structure Aft(s R:YS)(m:Int)(hd:List (Int×Hd))(lg:List Nq)(ag:List (Int×Int))(ts:List (Str×TS)):Prop where
 done:R.done=s.done
 beg:R.beg=s.beg
 now:R.now=m
 hap:0<=R.hap/\R.hap<=s.hap+1
 pl:R.pl=s.pl
 ss:R.ss=s.ss
 st:R.st=s.st
 hd:R.hd=hd
 lg:R.lg=s.lg++lg
 ag:R.ag=ag
 ts:R.ts=ts
section
variable{ms:List Int}{s R:YS}{m h:Int}{r ag:List (Int×Int)}{hd:List (Int×Hd)}{lg:List Nq}{ts:List (Str×TS)}{d d':Hd}
theorem Aft.of(le:s.now<=m)(h0:0<=s.hap)(E:Eff (((s.clk m).up.sAg r).sStm 0) R hd lg ag ts):Aft s R m hd lg ag ts:=by
 have p:=fY le h0
 refine⟨E.done.trans p.done,E.beg.trans p.beg,E.now.trans p.now,?_,E.pl.trans p.pl,E.ss.trans p.ss,E.st.trans p.st,E.hd,?_,E.ag,E.ts⟩
 ·have:=E.hap
  rw [this];exact p.hap
 ·have:=E.lg
  rw [this]
  show(s.clk m).up.lg++lg=_
  rw [p.lg]
theorem Cm.head(I:Cm ms s)(ea:s.ag=(m,h)::r):(∃d,aT h s.hd=some d)/\h∉r.map (·.2)/\(r.map (·.2)).Nodup/\Ag.SO r/\(∀e∈r,m<=e.1)/\s.now<=m:=by
 have an:=I.an
 have so:=I.so
 unfold Ag.SO at so
 rw [ea,Ls,LV] at an
 rw [ea,MB] at so
 obtain⟨q,hq,e⟩:=List.mem_map.mp (I.ah (m,h) (by rw [ea];exact Ll))
 refine⟨⟨q.2,eK I.nd (by rw [show(h,q.2)=q by rw [<-show q.1=h from e]];exact hq)⟩,an.1,an.2,so.2,so.1,I.lo (m,h) (by rw [ea];exact Ll)⟩
theorem Cm.go(I:Cm ms s)(ea:s.ag=(m,h)::r)(e:aT h s.hd=some d)(nx:s.done<ms.length->m<=ms.getD s.done 0)(mb:m<=2000000)(w:wt d'+1<=wt d)(ll:lg.length<=4)(A:Aft s R m (K34.setH h d' s.hd) lg ag ts)(an:(ag.map (·.2)).Nodup)(so:Ag.SO ag)(lo:∀e∈ag,m<=e.1)(ah:∀e∈ag,e.2∈s.hd.map (·.1)):Cm ms R:=by
 obtain⟨_,_,_,_,_,le⟩:=I.head ea
 have wS:=sO (f:=wt) (d':=d') e
 have hn:R.hd.map (·.1)=s.hd.map (·.1):=by rw [A.hd,eM]
 have mm:mu ms.length R+1<=mu ms.length s:=by unfold mu;rw [A.hd,A.done];lia
 have h1:=I.hp
 have h2:=I.ll
 have h3:=I.nw
 have h4:=A.hap
 refine⟨by rw [A.beg,A.done];exact I.beg,by rw [A.done];exact I.dn,λk hk=>?_,?_,A.pl.trans I.pl,A.ss.trans I.ss,A.st.trans I.st,by lia,by rw [A.lg,Lq];lia,by rw [A.now];lia,by rw [hn];exact I.nd,by rw [A.ag];exact an,by rw [A.ag];exact so,by rw [A.ag,A.now];exact lo,by rw [A.ag,hn];exact ah,λq hq=>?_⟩
 ·rw [A.done] at hk;rw [A.now];exact Int.le_trans (I.ar k hk) le
 ·rw [A.done,A.now];exact nx
 ·rw [A.hd] at hq;rw [A.done]
  rcases oP hq with rfl | hq
  ·exact I.hb (h,d) (bt e)
  ·exact I.hb q hq
theorem Cm.last(I:Cm ms s)(ea:s.ag=(m,h)::r)(e:aT h s.hd=some d)(nx:s.done<ms.length->m<=ms.getD s.done 0)(mb:m<=2000000)(ll:lg.length<=4)(A:Aft s R m (s.hd.filter λq=>decide (q.1≠h)) lg ag ts)(an:(ag.map (·.2)).Nodup)(so:Ag.SO ag)(lo:∀e∈ag,m<=e.1)(ah:∀e∈ag,e.2∈s.hd.map (·.1)/\e.2≠h):Cm ms R:=by
 obtain⟨_,_,_,_,_,le⟩:=I.head ea
 have wS:=sP (f:=wt) I.nd e
 have w1:1<=wt d:=by unfold wt;split<;>(try split)<;>lia
 have mm:mu ms.length R+1<=mu ms.length s:=by unfold mu;rw [A.hd,A.done];lia
 have h1:=I.hp
 have h2:=I.ll
 have h3:=I.nw
 have h4:=A.hap
 refine⟨by rw [A.beg,A.done];exact I.beg,by rw [A.done];exact I.dn,λk hk=>?_,?_,A.pl.trans I.pl,A.ss.trans I.ss,A.st.trans I.st,by lia,by rw [A.lg,Lq];lia,by rw [A.now];lia,?_,by rw [A.ag];exact an,by rw [A.ag];exact so,by rw [A.ag,A.now];exact lo,λe he=>?_,λq hq=>?_⟩
 ·rw [A.done] at hk;rw [A.now];exact Int.le_trans (I.ar k hk) le
 ·rw [A.done,A.now];exact nx
 ·rw [A.hd];exact(List.filter_sublist.map _).nodup I.nd
 ·rw [A.ag] at he;rw [A.hd];exact memF.mpr (ah e he)
 ·rw [A.hd] at hq;rw [A.done];exact I.hb q (List.mem_filter.mp hq).1
end
section
variable{ms:List Int}{s R:YS}{m h L:Int}{r ag:List (Int×Int)}{lg:List Nq}{ts:List (Str×TS)}{d d':Hd}{P:Pr}
def YS.come(s:YS):YS:=(s.sDone (s.done+1)).sBeg (s.beg+1)
def kN(s:YS)(L:Int):Int×Hd:=((s.beg:Int)+1,Hd.mk "main" 0 (knA L))
theorem Aft.start(le:s.now<=m)(h0:0<=s.hap)(ho:P.out[s.done]? =some (.start m "main" [L]))(hn:bB "main" P.nms=some ([("a":Str)]))(hb:s.beg<60):Aft s.come ((s.clk m).up.doOut P) m (s.hd++[kN s L]) [row m ((s.beg:Int)+1) [.str "begins",.str "main"]] (Ag.insO s.ag m ((s.beg:Int)+1)) s.ts:=by
 have p:=fY le h0
 have E:=AJ (s:=(s.clk m).up) (by rw [p.done];exact ho) hn (by rw [p.beg];exact hb)
 have e1:=E.done
 have e2:=E.beg
 have e3:=E.hd
 have e4:=E.lg
 have e5:=E.ag
 have e6:=E.hap
 rw [p.hd,p.beg] at e3
 rw [p.ag,p.beg,p.now] at e5
 rw [p.beg,p.now] at e4
 refine⟨e1.trans ?_,e2.trans ?_,E.now.trans p.now,?_,E.pl.trans p.pl,E.ss.trans p.ss,E.st.trans p.st,e3,e4.trans ?_,e5,E.ts.trans p.ts⟩
 ·show(s.clk m).up.done+1=s.done+1;rw [p.done]
 ·show(s.clk m).up.beg+1=s.beg+1;rw [p.beg]
 ·rw [e6];exact p.hap
 ·show(s.clk m).up.lg++_=s.lg++_;rw [p.lg];rfl
theorem jI:(s.hd++[kN s L]).map (·.1)=s.hd.map (·.1)++[(s.beg:Int)+1]:=by rw [Lx];rfl
theorem Cm.start(I:Cm ms s)(mo:∀i j,i<=j->j<ms.length->ms.getD i 0<=ms.getD j 0)(hd:s.done<ms.length)(em:m=ms.getD s.done 0)(mb:m<=2000000)(la:∀e∈s.ag,m<=e.1)(A:Aft s.come R m (s.hd++[kN s L]) [row m ((s.beg:Int)+1) [.str "begins",.str "main"]] (Ag.insO s.ag m ((s.beg:Int)+1)) s.ts):Cm ms R:=by
 have le:s.now<=m:=by rw [em];exact I.nx hd
 have mm:mu ms.length R+1=mu ms.length s:=by
  unfold mu
  rw [A.hd,A.done]
  have:sF wt (s.hd++[kN s L])=sF wt s.hd+3:=by unfold sF;rw [Lx,MU];rfl
  show 4*(ms.length-(s.done+1))+_+1=_
  lia
 have h1:=I.hp
 have h2:=I.ll
 have h3:=I.nw
 have h4:0<=R.hap/\R.hap<=s.hap+1:=A.hap
 have h5:=I.beg
 have d1:R.done=s.done+1:=A.done
 have b1:R.beg=s.beg+1:=A.beg
 have nw:(s.beg:Int)+1∉s.hd.map (·.1):=λz=>by
  obtain⟨q,hq,e⟩:=List.mem_map.mp z
  have:=I.hb q hq
  lia
 refine⟨by lia,by lia,λk hk=>?_,λhk=>?_,A.pl.trans I.pl,A.ss.trans I.ss,A.st.trans I.st,by lia,?_,by rw [A.now];lia,?_,?_,?_,λe he=>?_,λe he=>?_,λq hq=>?_⟩
 ·rw [A.now,em]
  exact mo k s.done (by lia) hd
 ·rw [A.now,em,d1]
  exact mo _ _ (by lia) (by lia)
 ·rw [A.lg,Lq]
  show s.lg.length+1+_<=_
  lia
 ·rw [A.hd,jI]
  exact List.nodup_append.mpr ⟨I.nd,LU _ _,λa ha b hb=>by cases List.mem_singleton.mp hb;exact λz=>nw (z▸ha)⟩
 ·rw [A.ag]
  refine jm I.an λz=>?_
  obtain⟨e,he,ee⟩:=List.mem_map.mp z
  exact nw (ee▸I.ah e he)
 ·rw [A.ag];exact jk I.so
 ·rw [A.ag] at he;rw [A.now]
  rcases insO_mem.mp he with rfl | he
  ·exact Int.le_refl _
  ·exact la e he
 ·rw [A.ag] at he;rw [A.hd,jI]
  rcases insO_mem.mp he with rfl | he
  ·exact Lu _ Ll
  ·exact LD _ (I.ah e he)
 ·rw [A.hd] at hq
  rcases List.mem_append.mp hq with hq | hq
  ·have:=I.hb q hq;lia
  ·cases List.mem_singleton.mp hq
   show 1<=(s.beg:Int)+1/\(s.beg:Int)+1<=_
   lia
end
section
variable{ms:List Int}{L m h:Int}{p T C G:Nat}{O:List Int}{t:TS}{s R:YS}{r:List (Int×Int)}{d:Hd}
theorem SI.start(I:SI ms L p T C G O t s)(S:Sh ms L p)(hd:s.done<ms.length)(em:m=ms.getD s.done 0)(la:∀e∈s.ag,m<=e.1)(A:Aft s.come R m (s.hd++[kN s L]) [row m ((s.beg:Int)+1) [.str "begins",.str "main"]] (Ag.insO s.ag m ((s.beg:Int)+1)) s.ts):SI ms L p T C G O t R:=by
 have m0:=S.m0 s.done
 have le:s.now<=m:=by rw [em];exact I.cm.nx hd
 have d1:R.done=s.done+1:=A.done
 have bg:=I.cm.beg
 have c1:=I.tc
 have c2:=I.ca
 have nn:R.hd.map (·.1)=s.hd.map (·.1)++[(s.beg:Int)+1]:=by rw [A.hd,jI]
 have lg:∀x∈s.lg,x∈R.lg:=λx hx=>by rw [A.lg];exact LD _ hx
 refine⟨I.cm.start S.mo hd em (by lia) la A,I.tc,by lia,I.gt,λq hq=>?_,λn h1 h2=>?_,λe he=>?_,λn h1 h2=>?_,?_,A.ts.trans I.ts,I.fr,I.qu,I.he,I.od,λn=>?_,I.pm,I.pq,I.tp,λj hj=>?_,λx hx=>?_,λk hk=>lg _ (I.lt k hk),λk hk z=>lg _ (I.lq k hk z),λk hk z=>lg _ (I.ls k hk λy=>z ?_)⟩
 ·rw [A.hd] at hq
  rcases List.mem_append.mp hq with hq | hq
  ·exact I.hd q hq
  ·cases List.mem_singleton.mp hq
   exact⟨rfl,rfl,.inl ⟨rfl,by show(C:Int)<(s.beg:Int)+1;lia⟩⟩
 ·rw [nn]
  by_cases c:n<=s.done
  ·exact LD _ (I.al n h1 c)
  ·exact Lu _ (List.mem_singleton.mpr (by lia))
 ·rw [A.ag] at he
  rcases insO_mem.mp he with rfl | he
  ·refine⟨_,by rw [A.hd];exact Lu _ Ll,.inl ⟨rfl,?_⟩⟩
   rw [iM,bg];exact em
  ·obtain⟨d,hm,z⟩:=I.ag e he
   exact⟨d,by rw [A.hd];exact LD _ hm,z⟩
 ·rw [A.ag,((cW _ _ _).map (·.2)).mem_iff]
  rw [nn] at h1
  rcases List.mem_append.mp h1 with h1 | h1
  ·exact Lm _ (I.ga n h1 h2)
  ·cases List.mem_singleton.mp h1;exact Ll
 ·rw [A.ag,yF (decide_eq_true (by show(C:Int)<(s.beg:Int)+1;lia)) (λe he z=>?_) I.cm.so,Lx,I.na,d1,show s.done+1-C=s.done-C+1 by lia,MA,Lx]
  ·show _++[(s.beg:Int)+1]=_++[Int.ofNat (C+1+1*(s.done-C))]
   rw [show((s.beg:Int)+1)=Int.ofNat (C+1+1*(s.done-C)) by simp;lia]
  ·have z:=of_decide_eq_true z
   obtain⟨d,hm,y⟩:=I.ag e he
   have hb:=I.cm.hb _ hm
   have rw0:=I.hd _ hm
   rcases y with ⟨_,y⟩ | ⟨_,y,_⟩ | ⟨y,_⟩
   ·rw [y,em,show e.2=((e.2-1).toNat:Int)+1 by lia,iM]
    exact S.mo _ _ (by lia) hd
   ·lia
   ·rcases rw0.2.2 with ⟨q,_⟩ | ⟨q,_⟩ | ⟨_,q⟩
    ·rw [y] at q;exact absurd q (by decide)
    ·rw [y] at q;exact absurd q (by decide)
    ·dsimp at q;lia
 ·rw [I.om n,nn,List.mem_append]
  refine⟨λz=>⟨z.1,.inl z.2⟩,λz=>⟨z.1,z.2.elim id λy=>?_⟩⟩
  cases List.mem_singleton.mp y;lia
 ·rw [A.now];exact Int.le_trans (I.gv j hj) le
 ·rw [A.lg] at hx
  rcases List.mem_append.mp hx with hx | hx
  ·exact I.lr x hx
  ·cases List.mem_singleton.mp hx;exact .begins
 ·rw [nn];exact LD _ y
theorem SI.mb(I:SI ms L p T C G O t s)(S:Sh ms L p)(ea:s.ag=(m,h)::r):m<=2000000:=by
 obtain⟨d,hm,y⟩:=I.ag (m,h) (by rw [ea];exact Ll)
 have b:=HH S (h-1).toNat
 have hb:=I.cm.hb _ hm
 have l:=S.l0
 have:=I.cm.dn
 have:=S.ln
 have m0:=S.m0 (h-1).toNat
 dsimp only at y hb
 unfold bI mI at y
 lia
theorem SI.first(I:SI ms L p T C G O t s)(ea:s.ag=(m,h)::r)(hh:(C:Int)<h):h=(C:Int)+1/\C<s.done/\(r.filter λe=>decide (((C+1:Nat):Int)<e.2)).map (·.2)=(List.range' (C+2) (s.done-(C+1))).map Int.ofNat:=by
 obtain⟨_,nh,_⟩:=I.cm.head ea
 have na:=I.na
 rw [ea,LP (by simpa using hh),Ls] at na
 have c:C<s.done:=by
  obtain⟨d,hm,_⟩:=I.ag (m,h) (by rw [ea];exact Ll)
  have:=I.cm.hb _ hm
  dsimp only at this;lia
 rw [show s.done-C=s.done-(C+1)+1 by lia,MN,Ls] at na
 obtain⟨e1,e2⟩:=List.cons.inj na
 have e1:h=(C:Int)+1:=e1.trans (by simp)
 refine⟨e1,c,?_⟩
 rw [<-e2]
 refine congrArg (List.map _) (List.filter_congr λe he=>?_)
 have:e.2≠h:=λz=>nh (z▸List.mem_map.mpr ⟨e,he,rfl⟩)
 exact decide_eq_decide.mpr (by lia)
theorem SI.rest(I:SI ms L p T C G O t s)(ea:s.ag=(m,h)::r):∀e∈r,e.2≠h/\e∈s.ag:=λe he=>by
 obtain⟨_,nh,_⟩:=I.cm.head ea
 exact⟨λz=>nh (z▸List.mem_map.mpr ⟨e,he,rfl⟩),by rw [ea];exact Lm _ he⟩
theorem wt3(h:d.row=3):wt d=2:=by unfold wt;rw [h];rfl
theorem wt0(h:d.row=0):wt d=3:=by unfold wt;rw [h];rfl
theorem fZ:wt (d.sRow k)=if k=0 then 3 else if k=3 then 2 else 1:=rfl
theorem SI.goS(I:SI ms L p T C G O t s)(S:Sh ms L p)(ea:s.ag=(m,h)::r)(e:aT h s.hd=some d)(r3:d.row=3)(nx:s.done<ms.length->m<=ms.getD s.done 0)(A:Aft s R m (K34.setH h (d.sRow 4) s.hd) [row m h (ji L)] (Ag.insO r (m+L) h) (bv t)):SI ms L p T C G O t R:=by
 have l0:=S.l0
 obtain⟨_,nh,nr,sr,lr,le⟩:=I.cm.head ea
 have hm:=bt e
 obtain⟨hT,hb⟩:h<=T/\m=bI ms L p h:=by
  obtain⟨d',hm',y⟩:=I.ag (m,h) (by rw [ea];exact Ll)
  cases kM I.cm.nd hm hm'
  rcases y with ⟨y,_⟩ | ⟨_,y⟩ | ⟨y,_⟩
  ·rw [r3] at y;exact absurd y (by decide)
  ·exact y
  ·rw [r3] at y;exact absurd y (by decide)
 have hn:R.hd.map (·.1)=s.hd.map (·.1):=by rw [A.hd,eM]
 have lg:∀x∈s.lg,x∈R.lg:=λx hx=>by rw [A.lg];exact LD _ hx
 have hC:¬(C:Int)<h:=by have:=I.tc;lia
 have rs:=I.rest ea
 refine⟨I.cm.go ea e nx (I.mb S ea) (by rw [wt3 r3,fZ];decide) (Lz rfl) A (jm nr nh) (jk sr) (λe he=>?_) (λe he=>?_),I.tc,by rw [A.done];exact I.ca,I.gt,λq hq=>?_,λn h1 h2=>?_,λe he=>?_,λn h1 h2=>?_,?_,A.ts,I.fr,I.qu,I.he,I.od,λn=>by rw [hn];exact I.om n,I.pm,I.pq,I.tp,λj hj=>?_,λx hx=>?_,λk hk=>lg _ (I.lt k hk),λk hk z=>lg _ (I.lq k hk z),λk hk z=>lg _ (I.ls k hk (by rw [hn] at z;exact z))⟩
 ·rcases insO_mem.mp he with rfl | he
  ·show m<=m+L;lia
  ·exact lr e he
 ·rcases insO_mem.mp he with rfl | he
  ·exact List.mem_map.mpr ⟨_,hm,rfl⟩
  ·exact I.cm.ah e (rs e he).2
 ·rw [A.hd] at hq
  rcases jH I.cm.nd hq with rfl | ⟨hq,_⟩
  ·obtain⟨a,b,_⟩:=I.hd _ hm
   exact⟨a,b,.inr (.inr ⟨rfl,hT⟩)⟩
  ·exact I.hd q hq
 ·rw [hn];exact I.al n h1 (by rw [A.done] at h2;exact h2)
 ·rw [A.ag] at he
  rcases insO_mem.mp he with rfl | he
  ·exact⟨d.sRow 4,by rw [A.hd];exact bt (dF _ e),.inr (.inr ⟨rfl,by show m+L=_;rw [hb]⟩)⟩
  ·obtain⟨d',hm',y⟩:=I.ag e (rs e he).2
   exact⟨d',by rw [A.hd];exact iE hm' (rs e he).1,y⟩
 ·rw [hn] at h1
  rw [A.ag,((cW _ _ _).map (·.2)).mem_iff]
  have:=I.ga n h1 h2
  rw [ea] at this
  exact this
 ·rw [A.ag,kL (decide_eq_false hC),A.done,<-I.na,ea,LJ (by simpa using hC)]
 ·rw [A.now];exact Int.le_trans (I.gv j hj) le
 ·rw [A.lg] at hx
  rcases List.mem_append.mp hx with hx | hx
  ·exact I.lr x hx
  ·cases List.mem_singleton.mp hx;exact .waits
theorem SI.new(I:SI ms L p T C G O t s)(ea:s.ag=(m,h)::r)(e:aT h s.hd=some d)(r0:d.row=0):(C:Int)<h/\m=mI ms h:=by
 have hm:=bt e
 obtain⟨d',hm',y⟩:=I.ag (m,h) (by rw [ea];exact Ll)
 cases kM I.cm.nd hm hm'
 have y1:m=mI ms h:=by
  rcases y with ⟨_,y⟩ | ⟨y,_⟩ | ⟨y,_⟩
  ·exact y
  ·rw [r0] at y;exact absurd y (by decide)
  ·rw [r0] at y;exact absurd y (by decide)
 obtain⟨_,_,q⟩:=I.hd _ hm
 rcases q with ⟨_,q⟩ | ⟨q,_⟩ | ⟨q,_⟩
 ·exact⟨q,y1⟩
 ·dsimp only at q;rw [r0] at q;exact absurd q (by decide)
 ·dsimp only at q;rw [r0] at q;exact absurd q (by decide)
theorem SI.goY(I:SI ms L p T C G O t s)(S:Sh ms L p)(ea:s.ag=(m,h)::r)(e:aT h s.hd=some d)(r0:d.row=0)(nx:s.done<ms.length->m<=ms.getD s.done 0)(q:t.que= [])(fr:1<=t.free)(A:Aft s R m (K34.setH h (d.sRow 4) s.hd) [row m h dW,row m h (ji L)] (Ag.insO r (m+L) h) (bv (bn t h 1))):SI ms L p (T+1) (C+1) G (h::O) (bn t h 1) R:=by
 have l0:=S.l0
 obtain⟨_,nh,nr,sr,lr,le⟩:=I.cm.head ea
 have hm:=bt e
 obtain⟨hC,hmI⟩:=I.new ea e r0
 obtain⟨h1,cd,na⟩:=I.first ea hC
 have tc:T=C:=by
  have:=I.qu
  rw [q] at this
  have:=congrArg List.length this
  rw [Ln,Mb] at this
  have h0:0=C-T:=this
  have:=I.tc;lia
 subst tc
 have gt:=I.gt
 have ifr:=I.fr
 have hb:bF ms L p T=m:=by
  rw [h1,iM] at hmI
  by_cases c:p<=T
  ·rw [jG S.p0 c]
   have:=I.gv (T-p) (by lia)
   rw [RC (by lia)]
   exact hmI.symm
  ·rw [nV (by lia)];exact hmI.symm
 have hbI:bI ms L p h=m:=by rw [h1,oR];exact hb
 have hO:h∉O:=λz=>by have:=(I.om h).mp z;lia
 have hn:R.hd.map (·.1)=s.hd.map (·.1):=by rw [A.hd,eM]
 have lg:∀x∈s.lg,x∈R.lg:=λx hx=>by rw [A.lg];exact LD _ hx
 have rs:=I.rest ea
 have dn:=A.done
 refine⟨I.cm.go ea e nx (I.mb S ea) (by rw [wt0 r0,fZ];decide) (Lz rfl) A (jm nr nh) (jk sr) (λe he=>?_) (λe he=>?_),Nat.le_refl _,by rw [dn];exact cd,by lia,λq hq=>?_,λn h1 h2=>?_,λe he=>?_,λn h2 h3=>?_,?_,A.ts,?_,?_,λn=>?_,List.nodup_cons.mpr ⟨hO,I.od⟩,λn=>?_,?_,λz=>absurd z (L8 _),by lia,λj hj=>?_,λx hx=>?_,λk hk=>?_,λk hk z=>?_,λk hk z=>?_⟩
 ·rcases insO_mem.mp he with rfl | he
  ·show m<=m+L;lia
  ·exact lr e he
 ·rcases insO_mem.mp he with rfl | he
  ·exact List.mem_map.mpr ⟨_,hm,rfl⟩
  ·exact I.cm.ah e (rs e he).2
 ·rw [A.hd] at hq
  rcases jH I.cm.nd hq with rfl | ⟨hq,ne⟩
  ·obtain⟨a,b,_⟩:=I.hd _ hm
   exact⟨a,b,.inr (.inr ⟨rfl,by show h<=((T+1:Nat):Int);lia⟩)⟩
  ·obtain⟨a,b,y⟩:=I.hd q hq
   exact⟨a,b,by rcases y with y | y | y<;>lia⟩
 ·rw [hn];exact I.al n (by lia) (by rw [dn] at h2;exact h2)
 ·rw [A.ag] at he
  rcases insO_mem.mp he with rfl | he
  ·exact⟨d.sRow 4,by rw [A.hd];exact bt (dF _ e),.inr (.inr ⟨rfl,by show m+L=_;rw [hbI]⟩)⟩
  ·obtain⟨d',hm',y⟩:=I.ag e (rs e he).2
   refine⟨d',by rw [A.hd];exact iE hm' (rs e he).1,?_⟩
   rcases y with y | ⟨y1,y2,y3⟩ | y
   ·exact .inl y
   ·exact .inr (.inl ⟨y1,by lia,y3⟩)
   ·exact .inr (.inr y)
 ·rw [hn] at h2
  rw [A.ag,((cW _ _ _).map (·.2)).mem_iff]
  by_cases c:n=h
  ·rw [c];exact Ll
  ·have:=I.ga n h2 (by lia)
   rw [ea] at this
   exact this
 ·rw [A.ag,kL (decide_eq_false (by show ¬((T+1:Nat):Int)<h;lia)),dn];exact na
 ·show t.free-1=_;lia
 ·show t.que=_;rw [q,MI];rfl
 ·show aV (c9 t.held h (aV t.held h+1)) n=_
  rw [dG,I.he h,RC hO]
  by_cases c:n=h
  ·rw [RD c,c,RD Ll];rfl
  ·rw [RC c,I.he n]
   by_cases y:n∈O
   ·rw [RD y,RD (Lm _ y)]
   ·rw [RC y,RC (λz=>(List.mem_cons.mp z).elim c y)]
 ·rw [hn]
  constructor
  ·intro z
   rcases List.mem_cons.mp z with rfl | z
   ·exact⟨by lia,List.mem_map.mpr ⟨_,hm,rfl⟩⟩
   ·have:=(I.om n).mp z;exact⟨by lia,this.2⟩
  ·rintro⟨z,y⟩
   by_cases c:n=h
   ·rw [c];exact Ll
   ·exact Lm _ ((I.om n).mpr ⟨by lia,y⟩)
 ·rw [Ls,show T+1-G=T-G+1 by lia,MA,Lx,show G+1*(T-G)=T by lia,hbI,<-hb]
  exact(List.Perm.cons _ I.pm).trans (List.perm_append_singleton _ _).symm
 ·rw [A.now];exact Int.le_trans (I.gv j hj) le
 ·rw [A.lg] at hx
  rcases List.mem_append.mp hx with hx | hx
  ·exact I.lr x hx
  ·rcases List.mem_cons.mp hx with rfl | hx
   ·have:=RowS.takes (ms:=ms) (L:=L) (p:=p) (n:=h)
    rw [hbI] at this;exact this
   ·cases List.mem_singleton.mp hx;exact .waits
 ·by_cases c:k=T
  ·rw [c,A.lg,hb,show(T:Int)+1=h from h1.symm]
   exact Lu _ Ll
  ·exact lg _ (I.lt k (by lia))
 ·by_cases c:k=T
  ·rw [c,hb,show ms.getD T 0=m by rw [hmI,h1,iM]] at z;exact absurd z (Int.lt_irrefl _)
  ·exact lg _ (I.lq k (by lia) z)
 ·by_cases c:k=T
  ·rw [hn,c,show(T:Int)+1=h from h1.symm] at z
   exact absurd (List.mem_map.mpr ⟨_,hm,rfl⟩) z
  ·exact lg _ (I.ls k (by lia) (by rw [hn] at z;exact z))
theorem SI.goQ(I:SI ms L p T C G O t s)(S:Sh ms L p)(ea:s.ag=(m,h)::r)(e:aT h s.hd=some d)(r0:d.row=0)(nx:s.done<ms.length->m<=ms.getD s.done 0)(q:t.que≠[]\/t.free<1)(A:Aft s R m (K34.setH h (d.sRow 3) s.hd) [row m h fD] r (bv ⟨t.free,t.held,t.que++[(h,1)]⟩)):SI ms L p T (C+1) G O ⟨t.free,t.held,t.que++[(h,1)]⟩ R:=by
 obtain⟨_,nh,nr,sr,lr,le⟩:=I.cm.head ea
 have hm:=bt e
 obtain⟨hC,hmI⟩:=I.new ea e r0
 obtain⟨h1,cd,na⟩:=I.first ea hC
 have tc:=I.tc
 have ifr:=I.fr
 have hn:R.hd.map (·.1)=s.hd.map (·.1):=by rw [A.hd,eM]
 have lg:∀x∈s.lg,x∈R.lg:=λx hx=>by rw [A.lg];exact LD _ hx
 have rs:=I.rest ea
 have dn:=A.done
 have tg:T=G+p:=by
  have tp:=I.tp
  rcases q with q | q
  ·refine I.pq (Mv tc λz=>q ?_)
   rw [I.qu,z,MI];rfl
  ·lia
 refine⟨I.cm.go ea e nx (I.mb S ea) (by rw [wt0 r0,fZ];decide) (Lz rfl) A nr sr lr (λe he=>I.cm.ah e (rs e he).2),by lia,by rw [dn];exact cd,I.gt,λq hq=>?_,λn h1 h2=>?_,λe he=>?_,λn h2 h3=>?_,?_,A.ts,I.fr,?_,I.he,I.od,λn=>by rw [hn];exact I.om n,I.pm,λ_=>tg,I.tp,λj hj=>?_,λx hx=>?_,λk hk=>lg _ (I.lt k hk),λk hk z=>?_,λk hk z=>lg _ (I.ls k hk (by rw [hn] at z;exact z))⟩
 ·rw [A.hd] at hq
  rcases jH I.cm.nd hq with rfl | ⟨hq,ne⟩
  ·obtain⟨a,b,_⟩:=I.hd _ hm
   exact⟨a,b,.inr (.inl ⟨rfl,by show h<=((C+1:Nat):Int);lia⟩)⟩
  ·obtain⟨a,b,y⟩:=I.hd q hq
   exact⟨a,b,by rcases y with y | y | y<;>lia⟩
 ·rw [hn];exact I.al n (by lia) (by rw [dn] at h2;exact h2)
 ·rw [A.ag] at he
  obtain⟨d',hm',y⟩:=I.ag e (rs e he).2
  exact⟨d',by rw [A.hd];exact iE hm' (rs e he).1,y⟩
 ·rw [hn] at h2
  rw [A.ag]
  have:=I.ga n h2 (by lia)
  rw [ea] at this
  rcases List.mem_cons.mp this with z | z
  ·dsimp only at z;lia
  ·exact z
 ·rw [A.ag,dn];exact na
 ·show t.que++[(h,1)]=_
  rw [I.qu,show C+1-T=C-T+1 by lia,MA,Lx,show T+1+1*(C-T)=C+1 by lia,h1]
  rfl
 ·rw [A.now];exact Int.le_trans (I.gv j hj) le
 ·rw [A.lg] at hx
  rcases List.mem_append.mp hx with hx | hx
  ·exact I.lr x hx
  ·cases List.mem_singleton.mp hx
   have:=RowS.queues (ms:=ms) (L:=L) (p:=p) (n:=h)
   rw [<-hmI] at this;exact this
 ·by_cases c:k=C
  ·rw [c,A.lg,show ms.getD C 0=m by rw [hmI,h1,iM],show(C:Int)+1=h from h1.symm]
   exact Lu _ Ll
  ·exact lg _ (I.lq k (by lia) z)
theorem SI.back(I:SI ms L p T C G O t s)(S:Sh ms L p)(ea:s.ag=(m,h)::r)(e:aT h s.hd=some d)(r4:d.row=4):h∈O/\h<=T/\G<T/\bI ms L p h=bF ms L p G/\m=bF ms L p G+L/\((O.erase h).map (bI ms L p)).Perm ((List.range' (G+1) (T-(G+1))).map (bF ms L p)):=by
 have l0:=S.l0
 have hm:=bt e
 have dn:=I.cm.dn
 have ca:=I.ca
 have tc:=I.tc
 obtain⟨d',hm',y⟩:=I.ag (m,h) (by rw [ea];exact Ll)
 cases kM I.cm.nd hm hm'
 have y1:m=bI ms L p h+L:=by
  rcases y with ⟨y,_⟩ | ⟨y,_⟩ | ⟨_,y⟩
  ·rw [r4] at y;exact absurd y (by decide)
  ·rw [r4] at y;exact absurd y (by decide)
  ·exact y
 have hT:h<=T:=by
  obtain⟨_,_,q⟩:=I.hd _ hm
  rcases q with ⟨q,_⟩ | ⟨q,_⟩ | ⟨_,q⟩
  ·dsimp only at q;rw [r4] at q;exact absurd q (by decide)
  ·dsimp only at q;rw [r4] at q;exact absurd q (by decide)
  ·exact q
 have hO:=(I.om h).mpr ⟨hT,List.mem_map.mpr ⟨_,hm,rfl⟩⟩
 have mem:∀x,x∈O.map (bI ms L p)↔x∈(List.range' G (T-G)).map (bF ms L p):=λx=>I.pm.mem_iff
 obtain⟨j,hj,ej⟩:=List.mem_map.mp ((mem _).mp (List.mem_map.mpr ⟨h,hO,rfl⟩))
 rw [List.mem_range'_1] at hj
 have gT:G<T:=by lia
 have lo:bF ms L p G<=bI ms L p h:=by rw [<-ej];exact Dr S (by lia) (by lia)
 have hi:bI ms L p h<=bF ms L p G:=by
  obtain⟨n,hn,en⟩:=List.mem_map.mp ((mem _).mpr (List.mem_map.mpr ⟨G,List.mem_range'_1.mpr ⟨Nat.le_refl _,by lia⟩,rfl⟩))
  obtain⟨nT,nm⟩:=(I.om n).mp hn
  obtain⟨x,hx,ex⟩:=List.mem_map.mp (I.ga n nm (.inl nT))
  obtain⟨d2,hm2,y2⟩:=I.ag x hx
  have hd2:=I.hd _ hm2
  have le:m<=x.1:=by
   rw [ea] at hx
   rcases List.mem_cons.mp hx with rfl | hx
   ·exact Int.le_refl _
   ·exact(I.cm.head ea).2.2.2.2.1 x hx
  rw [ex] at y2
  rcases y2 with ⟨y2,_⟩ | ⟨_,_,y2⟩ | ⟨_,y2⟩
  ·dsimp only at hd2
   rcases hd2.2.2 with ⟨_,q⟩ | ⟨q,_⟩ | ⟨q,_⟩
   ·lia
   ·rw [y2] at q;exact absurd q (by decide)
   ·rw [y2] at q;exact absurd q (by decide)
  ·lia
  ·lia
 have eb:bI ms L p h=bF ms L p G:=by lia
 refine⟨hO,hT,gT,eb,by lia,?_⟩
 have p1:=((List.perm_cons_erase hO).map (bI ms L p)).symm.trans I.pm
 rw [Ls,eb,show T-G=T-(G+1)+1 by lia,MN,Ls] at p1
 exact p1.cons_inv
theorem fm(od:O.Nodup):n∈O.erase h↔n∈O/\n≠h:=by rw [od.mem_erase_iff];exact And.comm
theorem SI.goB(I:SI ms L p T C G O t s)(S:Sh ms L p)(ea:s.ag=(m,h)::r)(e:aT h s.hd=some d)(r4:d.row=4)(nx:s.done<ms.length->m<=ms.getD s.done 0)(q:t.que= [])(A:Aft s R m (s.hd.filter λq=>decide (q.1≠h)) [row m h jj,row m h (bO m),row m h [.str "ends"]] r (bv (bn t h (-1)))):SI ms L p T C (G+1) (O.erase h) (bn t h (-1)) R:=by
 obtain⟨_,nh,nr,sr,lr,le⟩:=I.cm.head ea
 obtain⟨hO,hT,gT,eb,em,pm⟩:=I.back S ea e r4
 have tc:=I.tc
 have ifr:=I.fr
 have hC:¬(C:Int)<h:=by lia
 have lg:∀x∈s.lg,x∈R.lg:=λx hx=>by rw [A.lg];exact LD _ hx
 have rs:=I.rest ea
 have dn:=A.done
 have cT:T=C:=by
  have:=I.qu
  rw [q] at this
  have:=congrArg List.length this
  rw [Ln,Mb] at this
  have h0:0=C-T:=this
  lia
 refine⟨I.cm.last ea e nx (I.mb S ea) (Lz rfl) A nr sr lr (λe he=>⟨I.cm.ah e (rs e he).2,(rs e he).1⟩),I.tc,by rw [dn];exact I.ca,by lia,λq hq=>?_,λn h1 h2=>?_,λe he=>?_,λn h1 h2=>?_,?_,A.ts,?_,I.qu,λn=>?_,I.od.erase _,λn=>?_,pm,λz=>by lia,by have:=I.tp;lia,λj hj=>?_,λx hx=>?_,λk hk=>lg _ (I.lt k hk),λk hk z=>lg _ (I.lq k hk z),λk hk z=>?_⟩
 ·rw [A.hd] at hq;exact I.hd q (List.mem_filter.mp hq).1
 ·rw [A.hd];exact memF.mpr ⟨I.al n h1 (by rw [dn] at h2;exact h2),by lia⟩
 ·rw [A.ag] at he
  obtain⟨d',hm',y⟩:=I.ag e (rs e he).2
  exact⟨d',by rw [A.hd];exact List.mem_filter.mpr ⟨hm',decide_eq_true (rs e he).1⟩,y⟩
 ·rw [A.hd] at h1
  obtain⟨h1,ne⟩:=memF.mp h1
  have:=I.ga n h1 h2
  rw [ea] at this
  rw [A.ag]
  exact(List.mem_cons.mp this).resolve_left ne
 ·rw [A.ag,dn,<-I.na,ea,LJ (by simpa using hC)]
 ·show t.free- -1=_;lia
 ·show aV (c9 t.held h (aV t.held h+ -1)) n=_
  rw [dG,I.he h,RD hO]
  by_cases c:n=h
  ·rw [RD c,RC (λz=>((fm I.od).mp z).2 c)];rfl
  ·rw [RC c,I.he n]
   by_cases y:n∈O
   ·rw [RD y,RD ((fm I.od).mpr ⟨y,c⟩)]
   ·rw [RC y,RC (λz=>y ((fm I.od).mp z).1)]
 ·rw [A.hd,memF,fm I.od,I.om n];exact and_assoc
 ·rw [A.now]
  by_cases c:j=G
  ·rw [c,em];exact Int.le_refl _
  ·exact Int.le_trans (I.gv j (by lia)) le
 ·rw [A.lg] at hx
  rcases List.mem_append.mp hx with hx | hx
  ·exact I.lr x hx
  ·rcases List.mem_cons.mp hx with rfl | hx
   ·exact .gives
   ·rcases List.mem_cons.mp hx with rfl | hx
    ·have:=RowS.says (ms:=ms) (L:=L) (p:=p) (n:=h)
     rw [eb,<-em] at this;exact this
    ·cases List.mem_singleton.mp hx;exact .ends
 ·rw [A.hd,memF] at z
  by_cases c:(k:Int)+1=h
  ·have ek:bF ms L p k+L=m:=by rw [em,<-eb,<-c,oR]
   rw [ek,c,A.lg]
   exact Lu _ (Lm _ Ll)
  ·exact lg _ (I.ls k hk λy=>z ⟨y,c⟩)
theorem SI.goV(I:SI ms L p T C G O t s)(S:Sh ms L p)(ea:s.ag=(m,h)::r)(e:aT h s.hd=some d)(r4:d.row=4)(nx:s.done<ms.length->m<=ms.getD s.done 0)(q:t.que=(n1,c1)::qr)(A:Aft s R m (s.hd.filter λq=>decide (q.1≠h)) [row m h jj,row m n1 dW,row m h (bO m),row m h [.str "ends"]] (Ag.insO r m n1) (bv (bn ⟨t.free+1,(bn t h (-1)).held,qr⟩ n1 1))):SI ms L p (T+1) C (G+1) (n1::O.erase h) (bn ⟨t.free+1,(bn t h (-1)).held,qr⟩ n1 1) R:=by
 obtain⟨_,nh,nr,sr,lr,le⟩:=I.cm.head ea
 have hm:=bt e
 obtain⟨hO,hT,gT,eb,em,pm⟩:=I.back S ea e r4
 have tc:=I.tc
 have ca:=I.ca
 have ifr:=I.fr
 have lg:∀x∈s.lg,x∈R.lg:=λx hx=>by rw [A.lg];exact LD _ hx
 have rs:=I.rest ea
 have dn:=A.done
 have dm:=I.cm.dn
 have cT:T<C:=by
  refine Mv tc λz=>?_
  have:=I.qu
  rw [q,z,MI] at this
  cases this
 have qq:=I.qu
 rw [q,show C-T=C-(T+1)+1 by lia,MN,Ls] at qq
 obtain⟨q1,q2⟩:=List.cons.inj qq
 have en:n1=(T:Int)+1:=(congrArg Prod.fst q1).trans (by simp)
 have tg:=I.pq cT
 have hb:bF ms L p T=m:=by
  rw [jG S.p0 (by lia),show T-p=G by lia,<-em]
  have:=I.cm.ar T (by lia)
  split<;>lia
 have hbI:bI ms L p n1=m:=by rw [en,oR];exact hb
 have nO:n1∉O:=λz=>by have:=(I.om n1).mp z;lia
 have nh1:n1≠h:=by lia
 have nhd:=I.al n1 (by lia) (by lia)
 have nag:n1∉r.map (·.2):=λz=>by
  obtain⟨x,hx,ex⟩:=List.mem_map.mp z
  obtain⟨d2,hm2,y2⟩:=I.ag x (rs x hx).2
  have hd2:=(I.hd _ hm2).2.2
  dsimp only at hd2
  rcases y2 with ⟨y2,_⟩ | ⟨_,y2,_⟩ | ⟨y2,_⟩
  ·rw [y2] at hd2;lia
  ·lia
  ·rw [y2] at hd2;lia
 refine⟨I.cm.last ea e nx (I.mb S ea) (Lz rfl) A (jm nr nag) (jk sr) (λe he=>?_) (λe he=>?_),by lia,by rw [dn];exact I.ca,by lia,λq hq=>?_,λn h1 h2=>?_,λe he=>?_,λn h1 h2=>?_,?_,A.ts,?_,?_,λn=>?_,List.nodup_cons.mpr ⟨λz=>nO ((fm I.od).mp z).1,I.od.erase _⟩,λn=>?_,?_,λz=>by lia,by lia,λj hj=>?_,λx hx=>?_,λk hk=>?_,λk hk z=>lg _ (I.lq k hk z),λk hk z=>?_⟩
 ·rcases insO_mem.mp he with rfl | he
  ·exact Int.le_refl _
  ·exact lr e he
 ·rcases insO_mem.mp he with rfl | he
  ·exact⟨nhd,nh1⟩
  ·exact⟨I.cm.ah e (rs e he).2,(rs e he).1⟩
 ·rw [A.hd] at hq
  obtain⟨a,b,y⟩:=I.hd q (List.mem_filter.mp hq).1
  exact⟨a,b,by lia⟩
 ·rw [A.hd];exact memF.mpr ⟨I.al n (by lia) (by rw [dn] at h2;exact h2),by lia⟩
 ·rw [A.ag] at he
  rcases insO_mem.mp he with rfl | he
  ·obtain⟨q,hq,eq⟩:=List.mem_map.mp nhd
   refine⟨q.2,?_,.inr (.inl ⟨?_,by show n1<=((T+1:Nat):Int);lia,hbI.symm⟩)⟩
   ·rw [A.hd];exact List.mem_filter.mpr ⟨by show(n1,q.2)∈s.hd;rw [<-eq];exact hq,decide_eq_true nh1⟩
   ·have:=(I.hd q hq).2.2
    lia
  ·obtain⟨d',hm',y⟩:=I.ag e (rs e he).2
   refine⟨d',by rw [A.hd];exact List.mem_filter.mpr ⟨hm',decide_eq_true (rs e he).1⟩,?_⟩
   rcases y with y | ⟨y1,y2,y3⟩ | y
   ·exact .inl y
   ·exact .inr (.inl ⟨y1,by lia,y3⟩)
   ·exact .inr (.inr y)
 ·rw [A.hd] at h1
  obtain⟨h1,ne⟩:=memF.mp h1
  rw [A.ag,((cW _ _ _).map (·.2)).mem_iff]
  by_cases c:n=n1
  ·rw [c];exact Ll
  ·have:=I.ga n h1 (by lia)
   rw [ea] at this
   exact Lm _ ((List.mem_cons.mp this).resolve_left ne)
 ·rw [A.ag,kL (decide_eq_false (by show ¬(C:Int)<n1;lia)),dn,<-I.na,ea,LJ (by simp;lia)]
 ·show t.free+1-1=_;lia
 ·show qr=_;rw [q2,show C-(T+1)=C-(T+1) from rfl]
 ·show aV (c9 (c9 t.held h (aV t.held h+ -1)) n1 (aV (c9 t.held h (aV t.held h+ -1)) n1+1)) n=_
  rw [dG,dG,dG,RC nh1,I.he h,RD hO,I.he n1,RC nO]
  by_cases c:n=n1
  ·rw [RD c,c,RD Ll];rfl
  ·rw [RC c]
   by_cases c2:n=h
   ·rw [RD c2,RC (λz=>(List.mem_cons.mp z).elim c λz=>((fm I.od).mp z).2 c2)];rfl
   ·rw [RC c2,I.he n]
    by_cases y:n∈O
    ·rw [RD y,RD (Lm _ ((fm I.od).mpr ⟨y,c2⟩))]
    ·rw [RC y,RC (λz=>(List.mem_cons.mp z).elim c λz=>y ((fm I.od).mp z).1)]
 ·rw [A.hd,memF,Ms,fm I.od,I.om n]
  constructor
  ·rintro(rfl | ⟨⟨z1,z2⟩,z3⟩)
   ·exact⟨by lia,nhd,nh1⟩
   ·exact⟨by lia,z2,z3⟩
  ·rintro⟨z1,z2,z3⟩
   by_cases c:n=n1
   ·exact .inl c
   ·exact .inr ⟨⟨by lia,z2⟩,z3⟩
 ·rw [Ls,show T+1-(G+1)=T-(G+1)+1 by lia,MA,Lx,show G+1+1*(T-(G+1))=T by lia,hbI,<-hb]
  exact(List.Perm.cons _ pm).trans (List.perm_append_singleton _ _).symm
 ·rw [A.now]
  by_cases c:j=G
  ·rw [c,em];exact Int.le_refl _
  ·exact Int.le_trans (I.gv j (by lia)) le
 ·rw [A.lg] at hx
  rcases List.mem_append.mp hx with hx | hx
  ·exact I.lr x hx
  ·rcases List.mem_cons.mp hx with rfl | hx
   ·exact .gives
   ·rcases List.mem_cons.mp hx with rfl | hx
    ·have:=RowS.takes (ms:=ms) (L:=L) (p:=p) (n:=n1)
     rw [hbI] at this;exact this
    ·rcases List.mem_cons.mp hx with rfl | hx
     ·have:=RowS.says (ms:=ms) (L:=L) (p:=p) (n:=h)
      rw [eb,<-em] at this;exact this
     ·cases List.mem_singleton.mp hx;exact .ends
 ·by_cases c:k=T
  ·rw [c,A.lg,hb,show(T:Int)+1=n1 from en.symm]
   exact Lu _ (Lm _ Ll)
  ·exact lg _ (I.lt k (by lia))
 ·rw [A.hd,memF] at z
  by_cases c0:k=T
  ·rw [c0,show(T:Int)+1=n1 from en.symm] at z;exact absurd ⟨nhd,nh1⟩ z
  ·by_cases c:(k:Int)+1=h
   ·have ek:bF ms L p k+L=m:=by rw [em,<-eb,<-c,oR]
    rw [ek,c,A.lg]
    exact Lu _ (Lm _ (Lm _ Ll))
   ·exact lg _ (I.ls k (by lia) λy=>z ⟨y,c⟩)
end
def HI(p:Nat):YS:=⟨0,0,0,0,0,[],[],bv ⟨p,[],[]⟩,[],[],[],none⟩
def ShI(ms:List Int)(L:Int)(p:Nat)(n:Nat)(s:YS):Prop:=∃T C G O t,SI ms L p T C G O t s/\mu ms.length s<=n
section
variable{ms:List Int}{L:Int}{p:Nat}{s:YS}
theorem wz(S:Sh ms L p):ShI ms L p 160 (HI p):=by
 have ln:=S.ln
 refine⟨0,0,0,[],⟨p,[],[]⟩,⟨⟨rfl,Mf _,λk hk=>absurd hk (Mq _),λ_=>(S.m0 0).1,rfl,rfl,rfl,?_,?_,⟨Int.le_refl _,by show(0:Int)<=2000000;decide⟩,.nil,.nil,.nil,λe he=>absurd he Lr,λe he=>absurd he Lr,λe he=>absurd he Lr⟩,Nat.le_refl _,Nat.le_refl _,Nat.le_refl _,λe he=>absurd he Lr,λn h1 h2=>?_,λe he=>absurd he Lr,λn h=>absurd h Lr,rfl,rfl,by simp,rfl,λn=>rfl,.nil,λn=>⟨λh=>absurd h Lr,λh=>absurd h.2 Lr⟩,.refl _,λz=>absurd z (L8 _),Mf _,λj hj=>absurd hj (Mq _),λe he=>absurd he Lr,λj hj=>absurd hj (Mq _),λj hj=>absurd hj (Mq _),λj hj=>absurd hj (Mq _)⟩,?_⟩
 ·show(0:Int)<=0/\(0:Int)+((4*(ms.length-0)+0:Nat):Int)<=160;lia
 ·show 0+4*(4*(ms.length-0)+0)<=640;lia
 ·have h2:n<=((0:Nat):Int):=h2
  lia
 ·show 4*(ms.length-0)+0<=160;lia
theorem AL:mD dP:=⟨.one (by decide),.wait,.one (by decide),.one (by decide),trivial⟩
theorem qG(e:aT h s.hd=some d)(w:wt d'+1<=wt d)(A:Aft s R m (K34.setH h d' s.hd) lg ag ts):mu ms.length R<mu ms.length s:=by
 have:=sO (f:=wt) (d':=d') e
 unfold mu;rw [A.hd,A.done];lia
theorem sQ(nd:(s.hd.map (·.1)).Nodup)(e:aT h s.hd=some d)(A:Aft s R m (s.hd.filter λq=>decide (q.1≠h)) lg ag ts):mu ms.length R<mu ms.length s:=by
 have:=sP (f:=wt) nd e
 have w1:1<=wt d:=by unfold wt;split<;>(try split)<;>lia
 unfold mu;rw [A.hd,A.done];lia
theorem Gz(h:(fk ms L).out[k]? =some o):k<ms.length/\o= .start (ms.getD k 0) "main" [L]:=by
 have h:(ms.map λm=>Ot.start m "main" [L])[k]? =some o:=h
 rw [LF] at h
 cases q:ms[k]? with
 | none=>rw [q] at h;cases h
 | some x=>
  rw [q] at h
  cases h
  exact⟨(List.getElem?_eq_some_iff.mp q).1,by rw [Lv,q];rfl⟩
theorem yG(S:Sh ms L p)(I:ShI ms L p n s):fX (fk ms L) s/\(s.next (fk ms L)≠none->∃n',n'<n/\ShI ms L p n' (s.step (fk ms L))):=by
 obtain⟨T,C,G,O,t,I,hmu⟩:=I
 have ln:=S.ln
 have l0:=S.l0
 have hp:=I.cm.hp
 have dn:s.done<=(fk ms L).out.length:=by show _<=(ms.map _).length;rw [Ln];exact I.cm.dn
 cases en:s.next (fk ms L) with
 | none=>exact⟨⟨dn,λm z=>by rw [en] at z;cases z⟩,λz=>absurd rfl z⟩
 | some m=>
  obtain⟨_,ho | ⟨oN,h,r,ea,lo⟩⟩:=nU en
  ·obtain⟨oN,o,eo,em,la⟩:=ho
   obtain⟨hl,rfl⟩:=Gz eo
   have em:ms.getD s.done 0=m:=em
   have le:s.now<=m:=by rw [<-em];exact I.cm.nx hl
   have pr:=fY le hp.1
   have m0:=S.m0 s.done
   have la':∀e∈s.ag,m<=e.1:=λe he=>by
    have so:=I.cm.so
    unfold Ag.SO at so
    cases q:s.ag with
    | nil=>rw [q] at he;cases he
    | cons x r=>
     have h1:=la x (by rw [q];rfl)
     rw [q] at he so
     rcases List.mem_cons.mp he with rfl | he
     ·exact h1
     ·exact Int.le_trans h1 ((List.pairwise_cons.mp so).1 e he)
   have ok0:=I.cm.ok ln (by rw [I.ts];exact Lz rfl) (by rw [I.ts,nS,I.qu,Ln,Mb];have:=I.ca;have:=I.cm.dn;lia) pr.hd pr.ts (by rw [pr.ag];exact I.cm.agl ln) pr.beg pr.lg
   obtain⟨h1,h2⟩:=sN en le hp.1 (by lia) dn oN eo ⟨[("a":Str)],rfl,by simp,by simp⟩ ok0.yb (by have:=ok0.lg;rw [pr.lg] at this;lia)
   refine⟨h1,λ_=>?_⟩
   have A:=Aft.start le hp.1 (by rw [eo,em]) rfl (by have:=I.cm.beg;have:=I.cm.dn;lia)
   rw [h2]
   refine⟨n-1,?_,T,C,G,O,t,I.start S hl em.symm la' A,?_⟩<;>
   ·have:mu ms.length ((s.clk m).up.doOut (fk ms L))+1=mu ms.length s:=by
     unfold mu
     rw [A.hd,A.done]
     have:sF wt (s.hd++[kN s L])=sF wt s.hd+3:=by unfold sF;rw [Lx,MU];rfl
     show 4*(ms.length-(s.done+1))+_+1=_
     lia
    lia
  ·obtain⟨⟨d,e⟩,nh,nr,sr,lr,le⟩:=I.cm.head ea
   have pr:=fY le hp.1
   have mb:=I.mb S ea
   have agl:=I.cm.agl ln
   have nx:=λz=>by
    have:=lo (.start (ms.getD s.done 0) "main" [L]) (by show(ms.map _)[s.done]? =_;rw [LF,Lo z,Lv,Lo z];rfl)
    exact Int.le_of_lt this
   have hm:=bt e
   obtain⟨dn1,kn,rows⟩:=I.hd _ hm
   have hmI:=I.ag (m,h) (by rw [ea];exact Ll)
   have ok0:Ok0 20 (((s.clk m).up.sAg r).sStm 0):=I.cm.ok ln (by rw [I.ts];exact Lz rfl) (by rw [I.ts,nS,I.qu,Ln,Mb];have:=I.ca;have:=I.cm.dn;lia) pr.hd pr.ts (by show r.length<=40;rw [ea] at agl;simp at agl;lia) pr.beg pr.lg
   have e':aT h (((s.clk m).up.sAg r).sStm 0).hd=some d:=by show aT h (s.clk m).up.hd=_;rw [pr.hd];exact e
   have ts':(((s.clk m).up.sAg r).sStm 0).ts=bv t:=pr.ts.trans I.ts
   have st':=pr.st.trans I.cm.st
   have nw':(((s.clk m).up.sAg r).sStm 0).now=m:=pr.now
   have hd':(((s.clk m).up.sAg r).sStm 0).hd=s.hd:=pr.hd
   have go:∀{i:Nat} {R:YS},dC dP d.row= [(dP,i)]->Run h 102 (((s.clk m).up.sAg r).sStm 0) [(dP,i)] R->fX (fk ms L) s/\s.step (fk ms L)=R:=λep rn=>uR en le hp.1 (by lia) dn oN ea (by lia) (I.cm.hn ln) e (by dsimp only at dn1;rw [dn1];rfl) AL (by rw [ep];exact rn)
   have ql:t.que.length<=100:=by rw [I.qu,Ln,Mb];have:=I.ca;have:=I.cm.dn;lia
   rcases rows with ⟨r0,hC⟩ | ⟨r3,_⟩ | ⟨r4,_⟩
   ·dsimp only at r0
    by_cases q:t.que≠[]\/t.free<1
    ·obtain⟨R,rn,E⟩:=HG (ok0.le (i:=14) (by decide)) e' rfl ts' q ql
     rw [nw',hd'] at E
     have A:=Aft.of le hp.1 E
     obtain⟨h1,h2⟩:=go (by rw [r0];rfl) rn
     refine⟨h1,λ_=>?_⟩
     rw [h2]
     exact⟨mu ms.length R,Ly (qG e (by rw [wt0 r0,fZ];decide) A) hmu,T,C+1,G,O,_,I.goQ S ea e r0 nx q A,Nat.le_refl _⟩
    ·have q1:=Classical.byContradiction λz=>q (.inl z)
     obtain⟨R,rn,E⟩:=Gx (ok0.le (i:=14) (by decide)) e' kn rfl l0.1 ts' q1 (by lia)
     rw [nw',hd'] at E
     have A:=Aft.of le hp.1 E
     obtain⟨h1,h2⟩:=go (by rw [r0];rfl) rn
     refine⟨h1,λ_=>?_⟩
     rw [h2]
     exact⟨mu ms.length R,Ly (qG e (by rw [wt0 r0,fZ];decide) A) hmu,T+1,C+1,G,h::O,_,I.goY S ea e r0 nx q1 (by lia) A,Nat.le_refl _⟩
   ·dsimp only at r3
    obtain⟨R,rn,E⟩:=oQ (bd:=dP) (i:=1) (ok0.le (i:=14) (by decide)) e' kn (by show(0:Int)<100;decide) rfl rfl (by decide)
    rw [Gw l0.1,nw',hd',ts'] at E
    have A:=Aft.of le hp.1 E
    obtain⟨h1,h2⟩:=go (by rw [r3];rfl) rn
    refine⟨h1,λ_=>?_⟩
    rw [h2]
    exact⟨mu ms.length R,Ly (qG e (by rw [wt3 r3,fZ];decide) A) hmu,T,C,G,O,_,I.goS S ea e r3 nx A,Nat.le_refl _⟩
   ·dsimp only at r4
    obtain⟨hO,hT,gT,eb,em,pm⟩:=I.back S ea e r4
    have gI:aV t.held h=1:=by rw [I.he h,RD hO]
    have q1:∀x∈t.que,x.2=1:=λx hx=>by
     rw [I.qu] at hx
     obtain⟨_,_,rfl⟩:=List.mem_map.mp hx
     rfl
    have cT:t.que≠[]->T<C:=λz=>Mv I.tc λy=>z (by rw [I.qu,y,MI];rfl)
    have fr:t.que≠[]->t.free=0:=λz=>by
     have:=I.pq (cT z)
     have:=I.fr
     lia
    have z0:aV (bD t h 0 []).2.2.held h=0:=by
     unfold bD
     cases q:t.que with
     | nil=>
      show aV (c9 t.held h (aV t.held h+ -1)) h=0
      rw [dG,RD rfl,gI];rfl
     | cons x y=>
      obtain⟨n1,c1⟩:=x
      show aV (c9 (c9 t.held h (aV t.held h+ -1)) n1 _) h=0
      have qq:=I.qu
      have:=cT (by rw [q];simp)
      rw [q,show C-T=C-(T+1)+1 by lia,MN,Ls] at qq
      have en:n1=(T:Int)+1:=(congrArg Prod.fst (List.cons.inj qq).1).trans (by simp)
      rw [dG,RC (by lia),dG,RD rfl,gI];rfl
    obtain⟨R,rn,E⟩:=Dq (ok0.le (i:=14) (by decide)) e' rfl st' ts' gI q1 fr ql z0
    rw [nw',hd'] at E
    obtain⟨h1,h2⟩:=go (by rw [r4];rfl) rn
    refine⟨h1,λ_=>?_⟩
    rw [h2]
    unfold bD at E
    cases q:t.que with
    | nil=>
     rw [q] at E
     have A:=Aft.of le hp.1 E
     exact⟨mu ms.length R,Ly (sQ I.cm.nd e A) hmu,T,C,G+1,_,_,I.goB S ea e r4 nx q A,Nat.le_refl _⟩
    | cons x qr=>
     rw [q] at E
     have A:=Aft.of le hp.1 E
     exact⟨mu ms.length R,Ly (sQ I.cm.nd e A) hmu,T+1,C,G+1,_,_,I.goV S ea e r4 nx q A,Nat.le_refl _⟩
theorem AM(S:Sh ms L p)(I:ShI ms L p n s)(e:s.next (fk ms L)=none):s.hd= []/\s.ag= []/\s.ss= []/\s.pl= []/\s.st=none/\(∃t,s.ts=bv t/\t.free=p/\t.que= []/\∀k,aV t.held k=0)/\s.lg.length<=640/\(∀d∈s.lg,RowS ms L p d)/\∀k,k<ms.length->row (bF ms L p k) ((k:Int)+1) dW∈s.lg/\row (bF ms L p k+L) ((k:Int)+1) (bO (bF ms L p k+L))∈s.lg/\(ms.getD k 0<bF ms L p k->row (ms.getD k 0) ((k:Int)+1) fD∈s.lg):=by
 obtain⟨T,C,G,O,t,I,hmu⟩:=I
 have p0:=S.p0
 have tc:=I.tc
 have ca:=I.ca
 have gt:=I.gt
 have fr:=I.fr
 have dn:s.done<=(fk ms L).out.length:=by show _<=(ms.map _).length;rw [Ln];exact I.cm.dn
 obtain⟨ed,ea⟩:=pT e I.cm.st dn
 have ed:=ed.trans (by show(ms.map _).length=_;rw [Ln])
 have noA:∀n:Int,n∈s.hd.map (·.1)->¬(n<=T\/(C:Int)<n):=λn hn z=>by
  have:=I.ga n hn z
  rw [ea] at this;cases this
 have eO:O= []:=by
  cases q:O with
  | nil=>rfl
  | cons n r=>
   have:=(I.om n).mp (by rw [q];exact Ll)
   exact absurd (.inl this.1) (noA n this.2)
 have gT:T=G:=by
  have:=I.pm.length_eq
  rw [eO,Ln,Ln,Mb] at this
  have h0:0=T-G:=this
  lia
 have cT:T=C:=by
  by_cases c:T<C
  ·have:=I.pq c;lia
  ·lia
 have cD:C=s.done:=by
  by_cases c:C<s.done
  ·exact absurd (.inr (by lia)) (noA ((C:Int)+1) (I.al _ (by lia) (by lia)))
  ·lia
 have eh:s.hd= []:=by
  cases q:s.hd with
  | nil=>rfl
  | cons x r=>
   have h1:=I.cm.hb x (by rw [q];exact Ll)
   exact absurd (.inl (by lia)) (noA x.1 (by rw [q];exact Ll))
 refine⟨eh,ea,I.cm.ss,I.cm.pl,I.cm.st,⟨t,I.ts,by lia,by rw [I.qu,cT,MI];rfl,λk=>by rw [I.he k,eO];rfl⟩,by have:=I.cm.ll;lia,I.lr,λk hk=>⟨I.lt k (by lia),I.ls k (by lia) (by rw [eh];exact Lr),I.lq k (by lia)⟩⟩
end
def fM:List Sm:=[.pl "wait" 2 [] [.name "a"],.pl "say" 3 ["done"] [.name "a"]]
def fo(ms ls:List Int):Pr:=⟨[("main",["a"])],[],[("main",fM)],(ms.zip ls).map λp=>.start p.1 "main" [p.2]⟩
def HJ:YS:=⟨0,0,0,0,0,[],[],[],[],[],[],none⟩
def mx0(n:Int):Int:=if 0<n then n else 0
def due(ms ls:List Int)(n:Int):Nq:=row (mI ms n+mx0 (mI ls n)) n (bO (mI ls n))
def jJ:Nq->Int
 | .tuple (.int m::_)=>m
 | _=>0
def jK:Nq->Bool
 | .tuple (_::_::.str w::_)=>decide (w= "says")
 | _=>false
structure Wh(ms ls:List Int):Prop where
 ln:ms.length<=40
 ll:ls.length=ms.length
 mo:∀i j,i<=j->j<ms.length->ms.getD i 0<=ms.getD j 0
 m0:∀i,0<=ms.getD i 0/\ms.getD i 0<=480
 l0:∀i, -1<=ls.getD i 0/\ls.getD i 0<=1000000
def cw(d:Hd):Nat:=if d.row=0 then 3 else 2
structure WI(ms ls:List Int)(s:YS):Prop where
 cm:Cm ms s
 hd:∀q∈s.hd,q.2.nm= "main"/\q.2.kn=knA (mI ls q.1)/\(q.2.row=0\/q.2.row=2)
 ag:∀e∈s.ag,∃d,(e.2,d)∈s.hd/\((d.row=0/\e.1=mI ms e.2)\/(d.row=2/\e.1=mI ms e.2+mx0 (mI ls e.2)))
 ga:∀n:Int,n∈s.hd.map (·.1)->n∈s.ag.map (·.2)
 ts:s.ts= []
 lr:∀d∈s.lg,∃m n w ws,d=row m n (.str w::ws)/\m<=s.now
 lp:(s.lg.map jJ).Pairwise (· <= ·)
 sy:((s.lg.filter jK)++s.hd.map λq=>due ms ls q.1).Perm ((List.range s.done).map λ(k:Nat)=>due ms ls ((k:Int)+1))
 ct:s.lg.length+sF cw s.hd=4*s.done
theorem pU:jK (row m n (.str w::ws))=decide (w= "says"):=rfl
theorem rowM_row:jJ (row m n ws)=m:=rfl
section
variable{ms ls:List Int}{m h L:Int}{s R:YS}{r:List (Int×Int)}{d:Hd}{P:Pr}{N f j:Nat}
theorem GA(o:Ok0 (j+4) s)(hd:aT h s.hd=some d)(kn:d.kn=knA L)(st:s.stm=0)(ss:s.st=none)(ht:s.ts= []):∃R,Run h (f+2) s [(fM,1)] R/\Eff s R (s.hd.filter λp=>decide (p.1≠h)) [row s.now h (bO L),row s.now h [.str "ends"]] s.ag []:=by
 have o1:Ok0 (j+3) ((s.entr h d 3).lay h (bO L)):=(o.en hd).lay
 have g1:aT h ((s.entr h d 3).lay h (bO L)).hd=some (d.sRow 3):=dF _ hd
 have r1:Run h (f+1) ((s.entr h d 3).lay h (bO L)) [(fM,2)] (((s.entr h d 3).lay h (bO L)).endH h):=uO rfl (paO (by decide)) (by simp) o1 g1
 refine⟨_,gF (b:=true) rfl rfl (paO (by decide)) (by simp) o hd (by lia) (.one (by decide)) (by rw [kn];exact Gv) .say ?_ (λ_=>r1) (λz=>by cases z),?_⟩
 ·rw [sH]
  show(s.st.isNone,_)=_
  rw [ss];rfl
 ·have e3:((s.entr h d 3).lay h (bO L)).ts= []:=ht
  unfold YS.endH
  rw [e3]
  refine⟨rfl,rfl,rfl,rfl,rfl,rfl,rfl,?_,?_,rfl,rfl⟩
  ·show(K34.setH h (d.sRow 3) s.hd).filter _=_
   rw [iL]
  ·show(s.lg++[_])++[_]=_
   rw [LO];rfl
theorem sR{l':List Nq}(lp:(l.map jJ).Pairwise (· <= ·))(lr:∀d∈l,∃m' n w ws,d=row m' n (.str w::ws)/\m'<=m)(h:∀d∈l',jJ d=m):((l++l').map jJ).Pairwise (· <= ·):=by
 rw [Lx,Ml]
 refine⟨lp,?_,λa ha b hb=>?_⟩
 ·rw [MR]
  exact List.pairwise_of_forall_mem_list λa ha b hb=>by rw [h a ha,h b hb];exact Int.le_refl _
 ·obtain⟨x,hx,rfl⟩:=List.mem_map.mp ha
  obtain⟨y,hy,rfl⟩:=List.mem_map.mp hb
  obtain⟨m',n,w,ws,rfl,le⟩:=lr x hx
  rw [h y hy];exact le
theorem WI.mb(I:WI ms ls s)(S:Wh ms ls)(ea:s.ag=(m,h)::r):m<=2000000:=by
 obtain⟨d,hm,y⟩:=I.ag (m,h) (by rw [ea];exact Ll)
 have m0:=S.m0 (h-1).toNat
 have l0:=S.l0 (h-1).toNat
 dsimp only at y
 unfold mI mx0 at y
 split at y<;>lia
theorem WI.start(I:WI ms ls s)(S:Wh ms ls)(hd:s.done<ms.length)(em:m=ms.getD s.done 0)(la:∀e∈s.ag,m<=e.1)(A:Aft s.come R m (s.hd++[kN s (ls.getD s.done 0)]) [row m ((s.beg:Int)+1) [.str "begins",.str "main"]] (Ag.insO s.ag m ((s.beg:Int)+1)) s.ts):WI ms ls R:=by
 have m0:=S.m0 s.done
 have le:s.now<=m:=by rw [em];exact I.cm.nx hd
 have d1:R.done=s.done+1:=A.done
 have bg:=I.cm.beg
 have nn:R.hd.map (·.1)=s.hd.map (·.1)++[(s.beg:Int)+1]:=by rw [A.hd,jI]
 have lr:∀d∈s.lg,∃m' n w ws,d=row m' n (.str w::ws)/\m'<=m:=λx hx=>by
  obtain⟨m',n,w,ws,e,h⟩:=I.lr x hx
  exact⟨m',n,w,ws,e,Int.le_trans h le⟩
 refine⟨I.cm.start S.mo hd em (by lia) la A,λq hq=>?_,λe he=>?_,λn h1=>?_,A.ts.trans I.ts,λx hx=>?_,?_,?_,?_⟩
 ·rw [A.hd] at hq
  rcases List.mem_append.mp hq with hq | hq
  ·exact I.hd q hq
  ·cases List.mem_singleton.mp hq
   exact⟨rfl,by show knA _=knA (mI ls ((s.beg:Int)+1));rw [iM,bg],.inl rfl⟩
 ·rw [A.ag] at he
  rcases insO_mem.mp he with rfl | he
  ·refine⟨_,by rw [A.hd];exact Lu _ Ll,.inl ⟨rfl,?_⟩⟩
   rw [iM,bg];exact em
  ·obtain⟨d,hm,z⟩:=I.ag e he
   exact⟨d,by rw [A.hd];exact LD _ hm,z⟩
 ·rw [A.ag,((cW _ _ _).map (·.2)).mem_iff]
  rw [nn] at h1
  rcases List.mem_append.mp h1 with h1 | h1
  ·exact Lm _ (I.ga n h1)
  ·cases List.mem_singleton.mp h1;exact Ll
 ·rw [A.lg] at hx;rw [A.now]
  rcases List.mem_append.mp hx with hx | hx
  ·exact lr x hx
  ·cases List.mem_singleton.mp hx;exact⟨_,_,_,_,rfl,Int.le_refl _⟩
 ·rw [A.lg];exact sR I.lp lr λx hx=>by cases List.mem_singleton.mp hx;rfl
 ·rw [A.lg,A.hd,d1,LZ,MV,Lx,Lx]
  show((s.lg.filter jK++[])++(s.hd.map (λ(q:Int×Hd)=>due ms ls q.1)++[due ms ls ((s.beg:Int)+1)])).Perm (_++[due ms ls ((s.done:Int)+1)])
  rw [LQ,<-LO,bg]
  exact I.sy.append_right _
 ·rw [A.lg,A.hd]
  have:=I.ct
  unfold sF at *
  rw [Lq,Lx,MU]
  show s.lg.length+1+(_+(3+0))=_
  lia
theorem cw2(h:d.row=2):cw d=2:=by unfold cw;rw [h];rfl
theorem cw0(h:d.row=0):cw d=3:=by unfold cw;rw [h];rfl
theorem WI.rest(I:WI ms ls s)(ea:s.ag=(m,h)::r):∀e∈r,e.2≠h/\e∈s.ag:=λe he=>by
 obtain⟨_,nh,_⟩:=I.cm.head ea
 exact⟨λz=>nh (z▸List.mem_map.mpr ⟨e,he,rfl⟩),by rw [ea];exact Lm _ he⟩
theorem WI.goN(I:WI ms ls s)(S:Wh ms ls)(ea:s.ag=(m,h)::r)(e:aT h s.hd=some d)(r0:d.row=0)(nx:s.done<ms.length->m<=ms.getD s.done 0)(A:Aft s R m (K34.setH h (d.sRow 2) s.hd) [row m h (ji (mx0 (mI ls h)))] (Ag.insO r (m+mx0 (mI ls h)) h) []):WI ms ls R:=by
 obtain⟨_,nh,nr,sr,lo,le⟩:=I.cm.head ea
 have hm:=bt e
 have hb:m=mI ms h:=by
  obtain⟨d',hm',y⟩:=I.ag (m,h) (by rw [ea];exact Ll)
  cases kM I.cm.nd hm hm'
  rcases y with ⟨_,y⟩ | ⟨y,_⟩
  ·exact y
  ·rw [r0] at y;exact absurd y (by decide)
 have hn:R.hd.map (·.1)=s.hd.map (·.1):=by rw [A.hd,eM]
 have m0:0<=mx0 (mI ls h):=by unfold mx0;split<;>lia
 have rs:=I.rest ea
 have lr:∀d∈s.lg,∃m' n w ws,d=row m' n (.str w::ws)/\m'<=m:=λx hx=>by
  obtain⟨m',n,w,ws,e,h⟩:=I.lr x hx
  exact⟨m',n,w,ws,e,Int.le_trans h le⟩
 refine⟨I.cm.go ea e nx (I.mb S ea) (by rw [wt0 r0,fZ];decide) (Lz rfl) A (jm nr nh) (jk sr) (λe he=>?_) (λe he=>?_),λq hq=>?_,λe he=>?_,λn h1=>?_,A.ts,λx hx=>?_,?_,?_,?_⟩
 ·rcases insO_mem.mp he with rfl | he
  ·show m<=m+_;lia
  ·exact lo e he
 ·rcases insO_mem.mp he with rfl | he
  ·exact List.mem_map.mpr ⟨_,hm,rfl⟩
  ·exact I.cm.ah e (rs e he).2
 ·rw [A.hd] at hq
  rcases jH I.cm.nd hq with rfl | ⟨hq,_⟩
  ·obtain⟨a,b,_⟩:=I.hd _ hm
   exact⟨a,b,.inr rfl⟩
  ·exact I.hd q hq
 ·rw [A.ag] at he
  rcases insO_mem.mp he with rfl | he
  ·exact⟨d.sRow 2,by rw [A.hd];exact bt (dF _ e),.inr ⟨rfl,by show m+_=_;rw [hb]⟩⟩
  ·obtain⟨d',hm',y⟩:=I.ag e (rs e he).2
   exact⟨d',by rw [A.hd];exact iE hm' (rs e he).1,y⟩
 ·rw [hn] at h1
  rw [A.ag,((cW _ _ _).map (·.2)).mem_iff]
  have:=I.ga n h1
  rw [ea] at this
  exact this
 ·rw [A.lg] at hx;rw [A.now]
  rcases List.mem_append.mp hx with hx | hx
  ·exact lr x hx
  ·cases List.mem_singleton.mp hx;exact⟨_,_,_,_,rfl,Int.le_refl _⟩
 ·rw [A.lg];exact sR I.lp lr λx hx=>by cases List.mem_singleton.mp hx;rfl
 ·have e1:(R.hd.map λq=>due ms ls q.1)=s.hd.map λq=>due ms ls q.1:=by
   have:∀l:List (Int×Hd),(l.map λq=>due ms ls q.1)=(l.map (·.1)).map (due ms ls):=λl=>by rw [LW];rfl
   rw [this,this,hn]
  rw [A.lg,e1,A.done,LZ]
  show((s.lg.filter jK++[])++_).Perm _
  rw [LQ]
  exact I.sy
 ·rw [A.lg,A.hd,A.done,Lq]
  have:=I.ct
  have w:=sO (f:=cw) (d':=d.sRow 2) e
  rw [cw0 r0,cw2 rfl] at w
  show s.lg.length+1+_=_
  lia
theorem GB{hd:List (Int×Hd)}{F:Int->Nq}(nd:(hd.map (·.1)).Nodup)(hm:(h,d)∈hd):(F h::(hd.filter λq=>decide (q.1≠h)).map λq=>F q.1).Perm (hd.map λq=>F q.1):=by
 induction hd with
 | nil=>cases hm
 | cons x r ih=>
  rw [Ls,LV] at nd
  rcases List.mem_cons.mp hm with rfl | hm
  ·rw [LJ (by simp),show(r.filter λq=>decide (q.1≠h))=r from List.filter_eq_self.mpr λx hx=>decide_eq_true λz=>nd.1 (List.mem_map.mpr ⟨x,hx,z⟩)]
   exact .refl _
  ·have ne:x.1≠h:=λz=>nd.1 (List.mem_map.mpr ⟨_,hm,z.symm⟩)
   rw [LP (by simpa using ne),Ls,Ls]
   exact(List.Perm.swap _ _ _).trans ((ih nd.2 hm).cons _)
theorem WI.goE(I:WI ms ls s)(S:Wh ms ls)(ea:s.ag=(m,h)::r)(e:aT h s.hd=some d)(r2:d.row=2)(nx:s.done<ms.length->m<=ms.getD s.done 0)(A:Aft s R m (s.hd.filter λq=>decide (q.1≠h)) [row m h (bO (mI ls h)),row m h [.str "ends"]] r []):WI ms ls R:=by
 obtain⟨_,nh,nr,sr,lo,le⟩:=I.cm.head ea
 have hm:=bt e
 have hb:m=mI ms h+mx0 (mI ls h):=by
  obtain⟨d',hm',y⟩:=I.ag (m,h) (by rw [ea];exact Ll)
  cases kM I.cm.nd hm hm'
  rcases y with ⟨y,_⟩ | ⟨_,y⟩
  ·rw [r2] at y;exact absurd y (by decide)
  ·exact y
 have rs:=I.rest ea
 have lr:∀d∈s.lg,∃m' n w ws,d=row m' n (.str w::ws)/\m'<=m:=λx hx=>by
  obtain⟨m',n,w,ws,e,h⟩:=I.lr x hx
  exact⟨m',n,w,ws,e,Int.le_trans h le⟩
 have two:∀x∈[row m h (bO (mI ls h)),row m h [.str "ends"]],∃w ws,x=row m h (.str w::ws):=λx hx=>by
  rcases List.mem_cons.mp hx with rfl | hx
  ·exact⟨_,_,rfl⟩
  ·cases List.mem_singleton.mp hx;exact⟨_,_,rfl⟩
 refine⟨I.cm.last ea e nx (I.mb S ea) (Lz rfl) A nr sr lo (λe he=>⟨I.cm.ah e (rs e he).2,(rs e he).1⟩),λq hq=>?_,λe he=>?_,λn h1=>?_,A.ts,λx hx=>?_,?_,?_,?_⟩
 ·rw [A.hd] at hq;exact I.hd q (List.mem_filter.mp hq).1
 ·rw [A.ag] at he
  obtain⟨d',hm',y⟩:=I.ag e (rs e he).2
  exact⟨d',by rw [A.hd];exact List.mem_filter.mpr ⟨hm',decide_eq_true (rs e he).1⟩,y⟩
 ·rw [A.hd] at h1
  obtain⟨h1,ne⟩:=memF.mp h1
  have:=I.ga n h1
  rw [ea] at this
  rw [A.ag]
  exact(List.mem_cons.mp this).resolve_left ne
 ·rw [A.lg] at hx;rw [A.now]
  rcases List.mem_append.mp hx with hx | hx
  ·exact lr x hx
  ·obtain⟨w,ws,rfl⟩:=two x hx
   exact⟨_,_,_,_,rfl,Int.le_refl _⟩
 ·rw [A.lg];exact sR I.lp lr λx hx=>by obtain⟨w,ws,rfl⟩:=two x hx;rfl
 ·have pm:=I.sy
  rw [A.lg,A.hd,A.done,LZ]
  rw [hb,LO]
  exact(List.Perm.append_left _ (GB I.cm.nd hm)).trans pm
 ·rw [A.lg,A.hd,A.done,Lq]
  have:=I.ct
  have w:=sP (f:=cw) I.cm.nd e
  rw [cw2 r2] at w
  show s.lg.length+2+_=_
  lia
end
def WhI(ms ls:List Int)(n:Nat)(s:YS):Prop:=WI ms ls s/\mu ms.length s<=n
section
variable{ms ls:List Int}{s:YS}
theorem wA(S:Wh ms ls):WhI ms ls 160 HJ:=by
 have ln:=S.ln
 refine⟨⟨⟨rfl,Mf _,λk hk=>absurd hk (Mq _),λ_=>(S.m0 0).1,rfl,rfl,rfl,?_,?_,⟨Int.le_refl _,by show(0:Int)<=2000000;decide⟩,.nil,.nil,.nil,λe he=>absurd he Lr,λe he=>absurd he Lr,λe he=>absurd he Lr⟩,λe he=>absurd he Lr,λe he=>absurd he Lr,λn h=>absurd h Lr,rfl,λe he=>absurd he Lr,.nil,.refl _,rfl⟩,?_⟩
 ·show(0:Int)<=0/\(0:Int)+((4*(ms.length-0)+0:Nat):Int)<=160;lia
 ·show 0+4*(4*(ms.length-0)+0)<=640;lia
 ·show 4*(ms.length-0)+0<=160;lia
theorem AN:mD fM:=⟨.wait,.one (by decide),trivial⟩
theorem BH(S:Wh ms ls)(h:k<ms.length):(fo ms ls).out[k]? =some (.start (ms.getD k 0) "main" [ls.getD k 0]):=by
 have e:(ms.zip ls)[k]? =some (ms.getD k 0,ls.getD k 0):=by
  rw [Lo (by rw [MW,S.ll];lia),MZ,Lv,Lv,Lo h,Lo (by rw [S.ll];exact h)];rfl
 show((ms.zip ls).map λp=>Ot.start p.1 "main" [p.2])[k]? =_
 rw [LF,e];rfl
theorem wB(S:Wh ms ls):(fo ms ls).out.length=ms.length:=by
 show((ms.zip ls).map _).length=_
 rw [Ln,MW,S.ll,Nat.min_self]
theorem yH(S:Wh ms ls)(I:WhI ms ls n s):fX (fo ms ls) s/\(s.next (fo ms ls)≠none->∃n',n'<n/\WhI ms ls n' (s.step (fo ms ls))):=by
 obtain⟨I,hmu⟩:=I
 have ln:=S.ln
 have hp:=I.cm.hp
 have dn:s.done<=(fo ms ls).out.length:=by rw [wB S];exact I.cm.dn
 have kn':∀q∈s.hd,∃L,q.2.kn=knA L/\ -1<=L/\L<=1000000:=λq hq=>⟨_,(I.hd q hq).2.1,(S.l0 _).1,(S.l0 _).2⟩
 cases en:s.next (fo ms ls) with
 | none=>exact⟨⟨dn,λm z=>by rw [en] at z;cases z⟩,λz=>absurd rfl z⟩
 | some m=>
  obtain⟨_,ho | ⟨oN,h,r,ea,lo⟩⟩:=nU en
  ·obtain⟨oN,o,eo,em,la⟩:=ho
   have hl:s.done<ms.length:=by rw [<-wB S];exact(List.getElem?_eq_some_iff.mp eo).1
   cases (BH S hl).symm.trans eo
   have em:ms.getD s.done 0=m:=em
   have le:s.now<=m:=by rw [<-em];exact I.cm.nx hl
   have pr:=fY le hp.1
   have m0:=S.m0 s.done
   have la':∀e∈s.ag,m<=e.1:=λe he=>by
    have so:=I.cm.so
    unfold Ag.SO at so
    cases q:s.ag with
    | nil=>rw [q] at he;cases he
    | cons x r=>
     have h1:=la x (by rw [q];rfl)
     rw [q] at he so
     rcases List.mem_cons.mp he with rfl | he
     ·exact h1
     ·exact Int.le_trans h1 ((List.pairwise_cons.mp so).1 e he)
   have ok0:=I.cm.ok ln (by rw [I.ts];decide) (by rw [I.ts];decide) pr.hd pr.ts (by rw [pr.ag];exact I.cm.agl ln) pr.beg pr.lg
   obtain⟨h1,h2⟩:=sN en le hp.1 (by lia) dn oN eo ⟨[("a":Str)],rfl,by simp,by simp⟩ ok0.yb (by have:=ok0.lg;rw [pr.lg] at this;lia)
   refine⟨h1,λ_=>?_⟩
   have A:=Aft.start le hp.1 (by rw [eo,em]) rfl (by have:=I.cm.beg;have:=I.cm.dn;lia)
   rw [h2]
   have mm:mu ms.length ((s.clk m).up.doOut (fo ms ls))+1=mu ms.length s:=by
    unfold mu
    rw [A.hd,A.done]
    have:sF wt (s.hd++[kN s (ls.getD s.done 0)])=sF wt s.hd+3:=by unfold sF;rw [Lx,MU];rfl
    show 4*(ms.length-(s.done+1))+_+1=_
    lia
   exact⟨n-1,by lia,I.start S hl em.symm la' A,by lia⟩
  ·obtain⟨⟨d,e⟩,nh,nr,sr,lr,le⟩:=I.cm.head ea
   have pr:=fY le hp.1
   have mb:=I.mb S ea
   have agl:=I.cm.agl ln
   have nx:=λz=>Int.le_of_lt (lo _ (BH S z))
   have hm:=bt e
   obtain⟨dn1,kn,rows⟩:=I.hd _ hm
   have ok0:Ok0 20 (((s.clk m).up.sAg r).sStm 0):=I.cm.ok ln (by rw [I.ts];decide) (by rw [I.ts];decide) pr.hd pr.ts (by show r.length<=40;rw [ea] at agl;simp at agl;lia) pr.beg pr.lg
   have e':aT h (((s.clk m).up.sAg r).sStm 0).hd=some d:=by show aT h (s.clk m).up.hd=_;rw [pr.hd];exact e
   have ts':(((s.clk m).up.sAg r).sStm 0).ts= []:=pr.ts.trans I.ts
   have st':=pr.st.trans I.cm.st
   have nw':(((s.clk m).up.sAg r).sStm 0).now=m:=pr.now
   have hd':(((s.clk m).up.sAg r).sStm 0).hd=s.hd:=pr.hd
   have go:∀{i:Nat} {R:YS},dC fM d.row= [(fM,i)]->Run h 102 (((s.clk m).up.sAg r).sStm 0) [(fM,i)] R->fX (fo ms ls) s/\s.step (fo ms ls)=R:=λep rn=>uR en le hp.1 (by lia) dn oN ea (by lia) (I.cm.hn ln) e (by dsimp only at dn1;rw [dn1];rfl) AN (by rw [ep];exact rn)
   rcases rows with r0 | r2
   ·dsimp only at r0
    obtain⟨R,rn,E⟩:=oQ (bd:=fM) (i:=0) (ok0.le (i:=14) (by decide)) e' kn (by show(0:Int)<100;decide) rfl rfl (by decide)
    rw [nw',hd',ts'] at E
    have A:=Aft.of le hp.1 E
    obtain⟨h1,h2⟩:=go (by rw [r0];rfl) rn
    refine⟨h1,λ_=>?_⟩
    rw [h2]
    exact⟨mu ms.length R,Ly (qG e (by rw [wt0 r0,fZ];decide) A) hmu,I.goN S ea e r0 nx A,Nat.le_refl _⟩
   ·dsimp only at r2
    obtain⟨R,rn,E⟩:=GA (ok0.le (i:=14) (by decide)) e' kn rfl st' ts'
    rw [nw',hd'] at E
    have A:=Aft.of le hp.1 E
    obtain⟨h1,h2⟩:=go (by rw [r2];rfl) rn
    refine⟨h1,λ_=>?_⟩
    rw [h2]
    exact⟨mu ms.length R,Ly (sQ I.cm.nd e A) hmu,I.goE S ea e r2 nx A,Nat.le_refl _⟩
theorem AQ(S:Wh ms ls)(I:WhI ms ls n s)(e:s.next (fo ms ls)=none):s.hd= []/\s.ag= []/\s.ss= []/\s.pl= []/\s.st=none/\s.ts= []/\s.lg.length=4*ms.length/\(∀d∈s.lg,∃m n w ws,d=row m n (.str w::ws))/\(s.lg.map jJ).Pairwise (· <= ·)/\(s.lg.filter jK).Perm ((List.range ms.length).map λ(k:Nat)=>due ms ls ((k:Int)+1)):=by
 obtain⟨I,hmu⟩:=I
 obtain⟨ed,ea⟩:=pT e I.cm.st (by rw [wB S];exact I.cm.dn)
 have ed:=ed.trans (wB S)
 have eh:s.hd= []:=by
  cases q:s.hd with
  | nil=>rfl
  | cons x r=>
   have:=I.ga x.1 (by rw [q];exact Ll)
   rw [ea] at this;cases this
 have ct:=I.ct
 have sy:=I.sy
 rw [eh,ed] at ct sy
 refine⟨eh,ea,I.cm.ss,I.cm.pl,I.cm.st,I.ts,ct,λd hd=>?_,I.lp,?_⟩
 ·obtain⟨m,n,w,ws,h,_⟩:=I.lr d hd
  exact⟨m,n,w,ws,h⟩
 ·rw [Ni,LQ] at sy;exact sy
end
def PrgH(K:MF)(H:Hp)(pp:Addr)(pr0:List (Str×Int))(sm:List Sm):Prop:=∃p0 p1 p2 p3 ph pn pb ys0 bd,H pp=some (.tup [.ref p0,.ref p1,.ref p2,.ref p3])/\H p0=some (.lst ys0)/\PrN H ys0 pr0/\(pr0.length<=10/\(pr0.map (·.1)).Nodup)/\H p1=some (.lst [])/\H p2=some (.lst [])/\H p3=some (.lst [.ref ph])/\H ph=some (.tup [.str "main",.ref pn,.ref pb])/\H pn=some (.lst [.str "a"])/\Rp K H (.ref pb) (.list bd)/\Sz 5 (.list bd)/\frz (.list bd)= .tuple (bdD sm)
def St(y:Addr)(H H':Hp):Prop:=(∃C dx fs,H y=some (.ins C dx fs))/\∀a o,a≠y->H a=some o->H' a=some o
theorem St.kt(s:St y H H'):Kt H H':=λc xs h=>s.2 c _ (λz=>by
 obtain⟨C,dx,fs,e⟩:=s.1
 rw [<-z,h] at e;cases e) h
structure Bn(H0 H:Hp)(y:Addr)(tg:Addr->Nat)(F:Hp->Prop):Prop where
 s0:Same H0 H
 ty:tg y=1
 ins:∃C dx fs,H y=some (.ins C dx fs)
 own:∀a,tg a≠0->∃o,H a=some o/\nt o
 new:∀a,tg a≠0->H0 a=none
 fs:∀G G',St y G G'->F G->F G'
 f:F H
section
variable{H0 H H':Hp}{y:Addr}{tg:Addr->Nat}{F F2:Hp->Prop}
theorem Bn.same(b:Bn H0 H y tg F)(g:Same H H'):Bn H0 H' y tg F:=by
 obtain⟨C,dx,fs,e⟩:=b.ins
 exact⟨b.s0.trans g,b.ty,⟨C,dx,fs,g _ _ e⟩,(λa h=>by obtain⟨o,h1,h2⟩:=b.own a h;exact⟨o,g _ _ h1,h2⟩),b.new,b.fs,b.fs H H' ⟨b.ins,λa o _ h=>g _ _ h⟩ b.f⟩
theorem Bn.mu(b:Bn H0 H y tg F){fs:List (Str×V)}(m:Mu H y (.ins C dx fs) H'):Bn H0 H' y tg F:=by
 have ny:=b.new y (by rw [b.ty];decide)
 exact⟨λa o h=>m.old (b.s0 _ _ h) (λz=>by (rw [z,ny] at h;cases h)),b.ty,⟨_,_,_,m.at_⟩,(λa h=>by
  by_cases c:a=y
  ·rw [c];exact⟨_,m.at_,trivial⟩
  ·obtain⟨o,h1,h2⟩:=b.own a h;exact⟨o,m.old h1 c,h2⟩),b.new,b.fs,b.fs H H' ⟨b.ins,λa o h e=>m.old e h⟩ b.f⟩
theorem Bn.add(b:Bn H0 H y tg F)(g:Same H H')(n:H a=none)(e:H' a=some o)(t:nt o)(hk:k≠0)(s2:∀G G',St y G G'->F2 G->F2 G')(f2:F2 H'):∃tg',Bn H0 H' y tg' (λG=>F G/\F2 G)/\tg' a=k/\∀c,tg c≠0->tg' c=tg c:=by
 have old:∀c,tg c≠0->c≠a:=λc h z=>by
  obtain⟨o,h1,_⟩:=b.own c h
  rw [z,n] at h1;cases h1
 have b':=b.same g
 have ya:=old y (by rw [b.ty];decide)
 refine⟨λc=>if c=a then k else tg c,⟨b'.s0,by (rw [RC ya];exact b.ty),b'.ins,λc h=>?_,λc h=>?_,λG G' s z=>⟨b.fs G G' s z.1,s2 G G' s z.2⟩,⟨b'.f,f2⟩⟩,RD rfl,λc h=>RC (old c h)⟩
 ·by_cases z:c=a
  ·rw [z];exact⟨o,e,t⟩
  ·rw [RC z] at h;exact b'.own c h
 ·by_cases z:c=a
  ·rw [z];exact b.s0.free n
  ·rw [RC z] at h;exact b.new c h
end
theorem kX{a:Addr}{o:HO}(h:a≠y):∀G G',St y G G'->G a=some o->G' a=some o:=λ_ _ s e=>s.2 a o h e
section
variable{H0 H H':Hp}{y:Addr}{tg:Addr->Nat}{F F2:Hp->Prop}
theorem Bn.more(b:Bn H0 H y tg F)(s2:∀G G',St y G G'->F2 G->F2 G')(f2:F2 H):Bn H0 H y tg (λG=>F G/\F2 G):=⟨b.s0,b.ty,b.ins,b.own,b.new,λG G' s z=>⟨b.fs G G' s z.1,s2 G G' s z.2⟩,b.f,f2⟩
theorem Bn.many(b:Bn H0 H y tg F)(g:Same H H'){l:List Addr}(n:∀a∈l,H a=none)(e:∀a∈l,∃o,H' a=some o/\nt o)(s2:∀G G',St y G G'->F2 G->F2 G')(f2:F2 H'):∃tg',Bn H0 H' y tg' (λG=>F G/\F2 G)/\(∀c∈l,tg' c=k)/\∀c,tg c≠0->tg' c=tg c:=by
 have old:∀c,tg c≠0->c∉l:=λc h z=>by
  obtain⟨o,h1,_⟩:=b.own c h
  rw [n c z] at h1;cases h1
 have b':=b.same g
 have ya:=old y (by rw [b.ty];decide)
 refine⟨λc=>if c∈l then k else tg c,⟨b'.s0,by (rw [RC ya];exact b.ty),b'.ins,λc h=>?_,λc h=>?_,λG G' s z=>⟨b.fs G G' s z.1,s2 G G' s z.2⟩,⟨b'.f,f2⟩⟩,λc h=>RD h,λc h=>RC (old c h)⟩
 ·by_cases z:c∈l
  ·exact e c z
  ·rw [RC z] at h;exact b'.own c h
 ·by_cases z:c∈l
  ·exact b.s0.free (n c z)
  ·rw [RC z] at h;exact b.new c h
end
def BI(c:Ce):List (Str×V):=[("names",.ref c.dn),("drawn",.ref c.dd),("places",.ref c.dp),("outer",.ref c.to),("outer_done",.int 0),("agenda",.ref c.ag),("goods",.ref c.g),("hands",.ref c.dh),("begun",.int 0),("now",.int 0),("happenings",.int 0),("statements",.int 0),("laid",.ref c.ll),("stopped",.non)]
def YF(C:CA)(K:MF)(out:List Ot)(c:Ce)(G:Hp):Prop:=(((((((Ag.AO C.l C.h G c.kd c.ag c.al []/\∃v,G c.dn=some (.dK [(Sum.inr "main",v)])/\Fz K G v (.tuple [.str "a"]))/\G c.dd=some (.dK []))/\G c.dp=some (.dK []))/\∃vs,G c.to=some (.tup vs)/\FzL K G vs (out.map Ot.D))/\GoA C.g C.t G c.g c.dt c.ds c.es)/\G c.dh=some (.dK []))/\G c.ll=some (.lst []))
structure YT(c:Ce)(tg:Addr->Nat):Prop where
 y:tg c.y=1
 st:tg c.dn=2/\tg c.dd=2
 p:tg c.dp=3
 l:tg c.ll=4
 a:tg c.ag=5/\tg c.al=5
 g:∀a∈gcs c,tg a=6
 dh:tg c.dh=7
structure YA where
 y:Addr
 dx:Addr
 pp:Addr
 po:Addr
 ag:Addr
 al:Addr
 kd:Bool
 H0:Hp
 pr0:List (Str×Int)
 sm:List Sm
 out:List Ot
 od:List Nq
 tg:Addr->Nat
def YaP(C:CA)(K:MF)(a:YA)(H:Hp):Prop:=Bn a.H0 H a.y a.tg (λG=>Ag.AO C.l C.h G a.kd a.ag a.al [])/\H a.y=some (.ins C.y a.dx [])/\a.tg a.ag=5/\a.tg a.al=5/\PrgH K a.H0 a.pp a.pr0 a.sm/\Rp K a.H0 (.ref a.po) (.list a.od)/\Sz 5 (.list a.od)/\frz (.list a.od)= .tuple (a.out.map Ot.D)
def YaQ(C:CA)(K:MF)(a:YA)(v:V)(H':Hp)(fl:Ce->List (Str×V))(F:Ce->Hp->Prop)(T:Ce->(Addr->Nat)->Prop):Prop:=v= .non/\∃(c:Ce) (tg:Addr->Nat),c.y=a.y/\c.dx=a.dx/\Bn a.H0 H' a.y tg (F c)/\H' a.y=some (.ins C.y a.dx (fl c))/\T c tg/\c.hs= []/\c.sv= .non/\c.es.map (λe=>(e.name,e.t))=a.pr0.map (λp=>(p.1,⟨p.2,[],[]⟩))
def GC(C:CA)(K:MF):Sp:=spG (A:=YA) (λa=>[.ref a.y,.ref a.pp,.ref a.po,.ref a.ag]) (λa H=>YaP C K a H) (λa _ v H'=>YaQ C K a v H' BI (YF C K a.out) YT)
section
variable{P:Np}{w:Nu}{K:MF}{mg:Str->Option Nk}{base:Heap}
structure InitAt(K:MF)(mg:Str->Option Nk)(x:Str)(st:Stmt)(q:Str)(ps:List Str):Prop where
 ex:∃C f fd,mg x=some (.ref C)/\OT K (.ref C)=some (.type "type")/\PySem.W.nsIn K Pg "thirdparty.any" =some none/\lW K C "__init__" f/\Fun K "__init__" q st f fd/\Binds K fd ps []
theorem InitAt.okG{args:A->List V}{pre:A->Hp->Prop}{post:A->Hp->V->Hp->Prop}(D:InitAt K mg x st q ps)(sc:am N ps (aj st))(hl:∀a,(args a).length=ps.length)
 (body:∀(a:A) (f:Addr) (cdv:Nk) (A':Nw) (outer:List Env) (s:Nn) (H:Hp) (Q:VK) (E:XK),Room k (A'.deeper (N0 q (aj st) s.heap.objs.size f cdv))->pre a H->(∀v H',post a H v H'->Q v H')->∃t,PSs (eU CX0 P w K mg base N q (aj st) f cdv A' outer s H E).nox (bS st) t/\t {nx:=λ_ H'=>Q V.non H',rt:=Q} (start N (args a)) H):
 OkI P w K mg base (k+1) x ps (spG args pre post):=by
 obtain⟨C,f,fd,h1,h2,h3,h4,F,h5⟩:=D.ex
 refine⟨C,f,fd,h1,h2,h3,h4,h5,F.ok sc (λvs H Q E h=>?_) (λcdv A' outer s H vs Q E hr h=>?_)⟩
 ·obtain⟨a,rfl,_⟩:=h;exact hl a
 ·obtain⟨a,rfl,p,q⟩:=h;exact body a f cdv A' outer s H Q E hr p q
theorem tgU{tg tg':Addr->Nat}(o:∀c,tg c≠0->tg' c=tg c)(e:tg c=k)(nk:k≠0):tg' c=k:=by rw [o c (by rw [e];exact nk),e]
def NmP(i:Nat)(ys:List V)(σ:L2.St)(H':Hp):Prop:=(∃v0,σ= [v0])/\(i=0->ys= [])/\(i=1->∃t u,ys= [.ref t]/\H' t=some (.tup [.str "main",.ref u])/\H' u=some (.tup [.str "a"]))
theorem HK(D:InitAt K mg "Yard" ix "Yard.__init__" ["self","program","outer","agenda"])(IC:Cls K C.y)(Js:NoAttr K C.y "names")(JQ:NoAttr K C.y "drawn")(Jp:NoAttr K C.y "places")(IU:NoAttr K C.y "outer")(IK:NoAttr K C.y "outer_done")(IE:NoAttr K C.y "agenda")(IQ:NoAttr K C.y "goods")(IP:NoAttr K C.y "hands")(IW:NoAttr K C.y "begun")(IH:NoAttr K C.y "now")(IX:NoAttr K C.y "happenings")(IR:NoAttr K C.y "statements")(Je:NoAttr K C.y "laid")(IF:NoAttr K C.y "stopped")(JB:mg "dict" =none)(JI:mg "tuple" =none)(JK:OkD P w K mg base 7 "frozen" ["thing"] (sM K 5))(Kz:OkC P w K mg base 4 "Goods" C.g ["self","program"] (rZ C.g C.t)):OkI P w K mg base 8 "Yard" ["self","program","outer","agenda"] (GC C K):=by
 refine D.okG mw (λ_=>rfl) λa f cdv A outer s0 H Q E hr p q=>?_
 obtain⟨b,hy,ta,tl,prg,po,pz,pf⟩:=p
 obtain⟨p0,p1,p2,p3,ph,pn,pb,ys0,bd,k1,k2,k3,k4,k5,k6,k7,k8,k9,k10,k11,k12⟩:=id prg
 have big:100000<=Nm:=by unfold Nm;decide
 have h1:=b.s0 _ _ k1
 have h7:=b.s0 _ _ k7
 have h8:=b.s0 _ _ k8
 have h9:=b.s0 _ _ k9
 refine⟨_,(aa (aI IC Js (pvM 0) (dA dM JB (aG (cQ 1 ["hand"] [] (bp (aq (pvM 1) ac)) (λn _ _ _ _=>(cY 0 n)) (λ_ _ _ _=>cc) (λ_ _ _ _=>(au (aD (aq (pvM 0) ac) (dA ke JI (aG (aq (pvM 0) ac)))))))))) (aa (aI IC JQ (pvM 0) (dA dM JB (aG (cQ 1 ["row"] [] (bp (aq (pvM 1) ac)) (λn _ _ _ _=>(cY 0 n)) (λ_ _ _ _=>cc) (λ_ _ _ _=>(au (aD (aq (pvM 0) ac) (dA ke JI (aG (aq (pvM 0) ac)))))))))) (aa (aI IC Jp (pvM 0) (dA dM JB (aG (cQ 1 ["row"] [] (bp (aq (pvM 1) ac)) (λn _ _ _ _=>(cY 0 n)) (λ_ _ _ _=>cc) (λ_ _ _ _=>(au (aD (aq (pvM 0) ac) ac))))))) (aa (aI IC IU (pvM 0) (aR JK hr rfl (aG (pvM 2)))) (aa (aI IC IK (pvM 0) ac) (aa (aI IC IE (pvM 0) (pvM 3)) (aa (aI IC IQ (pvM 0) (jA Kz hr rfl (aG (pvM 1)))) (aa (aI IC IP (pvM 0) lZ) (aa (aI IC IW (pvM 0) ac) (aa (aI IC IH (pvM 0) ac) (aa (aI IC IX (pvM 0) ac) (aa (aI IC IR (pvM 0) ac) (aa (aI IC Je (pvM 0) (aE a0)) (ae (aI IC IF (pvM 0) bV))))))))))))))),?_⟩
 symm
 refine br ?_
 simp only [bU]
 symm
 refine⟨⟨_,SqL.of h7⟩,eX h7 (by unfold Nm;simp) NmP (λ_ _=>⟨⟨_,rfl⟩,λ_=>rfl,λz=>by cases z⟩) ?_ ?_⟩
 ·rintro D' i x ys σ1 H1 hx at1 ⟨⟨v0,rfl⟩,e0,_⟩
  have i0:i=0:=by have:=at1.lt;simp at this;lia
  subst i0
  cases e0 rfl
  cases hx
  have h8':=at1.same _ _ h8
  have h9':=at1.same _ _ h9
  have lD:=at1.lst
  have at1':=PLift.up at1
  clear at1 e0
  symm
  intro u H2 n2 g2 e2
  have h8'':=g2 _ _ h8'
  symm
  intro t H3 n3 g3 e3
  refine at1'.down.put (g2.trans g3) λH5 mu=>⟨⟨_,rfl⟩,(λz=>by cases z),λ_=>⟨t,u,rfl,mu.old e3 λz=>?_,mu.old (g3 _ _ e2) λz=>?_⟩⟩
  ·rw [z,(g2.trans g3) _ _ lD] at e3;cases e3
  ·rw [z,g2 _ _ lD] at e2;cases e2
 ·rintro D1 ys σ1 H1 hD1 g1 hys _ ⟨_,_,e1⟩
  obtain⟨t,u,rfl,et,eu⟩:=e1 rfl
  symm
  refine⟨[(Sum.inr "main",.ref u)],.cons et .nil,by simp,λdn H2 n2 g2 e2=>?_⟩
  have e2:H2 dn=some (.dK [(Sum.inr "main",.ref u)]):=e2
  have ny1:dn≠a.y:=λz=>by
   rw [z,g1 _ _ hy] at n2;cases n2
  obtain⟨tg2,b2,t2,o2⟩:=(b.same g1).add g2 (k:=2) (F2:=λG=>∃v,G dn=some (.dK [(Sum.inr "main",v)])/\Fz K G v (.tuple [.str "a"])) n2 e2 trivial (by decide) (λG G' s z=>by
   obtain⟨v,z1,z2⟩:=z
   exact⟨v,s.2 _ _ ny1 z1,bj s.kt z2⟩) ⟨_,e2,.tup (fh (g2 _ _ eu)) (.cons (.str _) .nil)⟩
  have hy2:=g2 _ _ (g1 _ _ hy)
  symm
  intro H3 m3
  have b3:=b2.mu m3
  have hy3:=m3.at_
  have h13:=b3.s0 _ _ k1
  have h63:=b3.s0 _ _ k6
  clear hy2 h1 h7 h8 h9 e2 et eu hy
  symm
  refine br ?_
  simp only [bU]
  symm
  refine⟨⟨_,SqL.of h63⟩,fC h63 λD4 H4 n4 g4 e4=>?_⟩
  symm
  refine⟨[],.nil,by simp,λdd H5 n5 g5 e5=>?_⟩
  have e5:H5 dd=some (.dK []):=e5
  have hy5:=g5 _ _ (g4 _ _ hy3)
  obtain⟨tg5,b5,t5,o5⟩:=(b3.same g4).add g5 (k:=2) (F2:=λG=>G dd=some (.dK [])) n5 e5 trivial (by decide) (kX (λz=>by rw [z,g4 _ _ hy3] at n5;cases n5)) e5
  clear hy3 h13 h63
  symm
  intro H6 m6
  have b6:=b5.mu m6
  have hy6:=m6.at_
  have h16:=b6.s0 _ _ k1
  have h66:=b6.s0 _ _ k6
  clear hy5 e5
  symm
  apply br
  simp only [bU]
  symm
  refine⟨⟨_,SqL.of h66⟩,fC h66 λD7 H7 n7 g7 e7=>?_⟩
  symm
  refine⟨[],.nil,by simp,λdp H8 n8 g8 e8=>?_⟩
  have e8:H8 dp=some (.dK []):=e8
  have hy8:=g8 _ _ (g7 _ _ hy6)
  obtain⟨tg8,b8,t8,o8⟩:=(b6.same g7).add g8 (k:=3) (F2:=λG=>G dp=some (.dK [])) n8 e8 trivial (by decide) (kX (λz=>by rw [z,g7 _ _ hy6] at n8;cases n8)) e8
  clear hy6 h16 h66
  symm
  intro H9 m9
  have b9:=b8.mu m9
  have hy9:=m9.at_
  have po9:=Rp.mono b9.s0 po
  clear hy8 e8
  symm
  refine⟨.ref a.po,.list a.od,rfl,po9,pz,λH10 v10 g10 z10=>?_⟩
  rw [pf] at z10
  have hy10:=g10 _ _ hy9
  have b10:=b9.same g10
  clear hy9 po9
  cases z10 with
  | @tup to vs _ ht rt=>
   have ht:=tp_same _ _ ht
   have yto:to≠a.y:=λz=>by rw [z,hy10] at ht;cases ht
   have b10':=b10.more (F2:=λG=>∃vs,G to=some (.tup vs)/\FzL K G vs (a.out.map Ot.D)) (λG G' s z=>by
    obtain⟨vs,z1,z2⟩:=z
    exact⟨vs,s.2 _ _ yto z1,bi s.kt z2⟩) ⟨vs,ht,rt⟩
   clear ht
   symm
   intro H11 m11
   have b11:=b10'.mu m11
   have hy11:=m11.at_
   clear hy10
   symm
   intro H12 m12
   have b12:=b11.mu m12
   have hy12:=m12.at_
   clear hy11
   symm
   intro H13 m13
   have b13:=b12.mu m13
   have hy13:=m13.at_
   clear hy12
   symm
   intro g gx H14 ng ngx g14 hg hgx
   have b14:=b13.same g14
   refine⟨g,gx,a.pp,p0,p1,.ref p2,.ref p3,ys0,a.pr0,rfl,hg,b14.s0 _ _ k1,b14.s0 _ _ k2,k3.mono b14.s0,k4,b14.s0 _ _ k5,λH15 dt ds es fr go me nc=>⟨rfl,?_⟩⟩
   have S15:Same H13 H15:=λc u h=>fr c u (λz=>by rw [z,ng] at h;cases h) (g14 _ _ h)
   have nn:∀c∈g::dt::ds::adE es,H13 c=none:=λc hc=>by
    rcases List.mem_cons.mp hc with rfl | hc
    ·exact ng
    ·exact g14.free (nc c hc)
   have gy:∀c∈g::dt::ds::adE es,c≠a.y:=λc hc z=>by
    rw [z] at hc
    rw [nn _ hc] at hy13;cases hy13
   have hy15:=S15 _ _ hy13
   obtain⟨tg15,b15,t15,o15⟩:=b13.many S15 (k:=6) (F2:=λG=>GoA C.g C.t G g dt ds es) nn (λx hx=>BC go x hx) (λG G' s z=>z.grow λc u hc hu=>by
    rcases hc with hc | ⟨xs,rfl⟩
    ·exact s.2 c u (gy c hc) hu
    ·exact s.kt _ _ hu) go
   clear hy13 hg hgx
   symm
   intro H16 m16
   have b16:=b15.mu m16
   have hy16:=m16.at_
   clear hy15
   symm
   intro dh H17 n17 g17 e17
   have hy17:=g17 _ _ hy16
   obtain⟨tg17,b17,t17,o17⟩:=b16.add g17 (k:=7) (F2:=λG=>G dh=some (.dK [])) n17 e17 trivial (by decide) (kX (λz=>by rw [z,hy16] at n17;cases n17)) e17
   clear hy16 e17
   symm
   intro H18 m18
   have b18:=b17.mu m18
   have hy18:=m18.at_
   clear hy17
   symm
   intro H19 m19
   have b19:=b18.mu m19
   have hy19:=m19.at_
   clear hy18
   symm
   intro H20 m20
   have b20:=b19.mu m20
   have hy20:=m20.at_
   clear hy19
   symm
   intro H21 m21
   have b21:=b20.mu m21
   have hy21:=m21.at_
   clear hy20
   symm
   intro H22 m22
   have b22:=b21.mu m22
   have hy22:=m22.at_
   clear hy21
   symm
   intro ll H23 n23 g23 e23
   have hy23:=g23 _ _ hy22
   obtain⟨tg23,b23,t23,o23⟩:=b22.add g23 (k:=4) (F2:=λG=>G ll=some (.lst [])) n23 e23 trivial (by decide) (kX (λz=>by rw [z,hy22] at n23;cases n23)) e23
   clear hy22 e23
   symm
   intro H24 m24
   have b24:=b23.mu m24
   have hy24:=m24.at_
   clear hy23
   symm
   intro H25 m25
   have b25:=b24.mu m25
   have hy25:=m25.at_
   refine q _ _ ⟨rfl,⟨a.y,a.dx,dn,dd,dp,0,to,a.kd,a.ag,a.al,g,dt,ds,es,dh,ll,[],.non⟩,tg23,rfl,rfl,b25,hy25,⟨b25.ty,⟨tgU o23 (tgU o17 (tgU o15 (tgU o8 (tgU o5 t2 (by decide)) (by decide)) (by decide)) (by decide)) (by decide),tgU o23 (tgU o17 (tgU o15 (tgU o8 t5 (by decide)) (by decide)) (by decide)) (by decide)⟩,tgU o23 (tgU o17 (tgU o15 t8 (by decide)) (by decide)) (by decide),t23,⟨tgU o23 (tgU o17 (tgU o15 (tgU o8 (tgU o5 (tgU o2 ta (by decide)) (by decide)) (by decide)) (by decide)) (by decide)) (by decide),tgU o23 (tgU o17 (tgU o15 (tgU o8 (tgU o5 (tgU o2 tl (by decide)) (by decide)) (by decide)) (by decide)) (by decide)) (by decide)⟩,λc hc=>tgU o23 (tgU o17 (t15 c hc) (by decide)) (by decide),tgU o23 t17 (by decide)⟩,rfl,rfl,?_⟩
   have e:=congrArg (List.map (λx:Str×Int×TS=>(x.1,x.2.2))) me
   rw [LW,LW] at e
   exact e
def gh(sm:List Sm)(out:List Ot):Pr:=⟨[("main",["a"])],[],[("main",sm)],out⟩
def ys0(pr0:List (Str×Int)):YS:=⟨0,0,0,0,0,[],[],pr0.map (λp=>(p.1,⟨p.2,[],[]⟩)),[],[],[],none⟩
def GD(C:CA)(K:MF):Sp:=spG (A:=YA) (λa=>[.ref a.y,.ref a.pp,.ref a.po,.ref a.ag]) (λa H=>YaP C K a H) (λa _ v H'=>v= .non/\Same a.H0 H'/\∃c tg,c.y=a.y/\Yd C K (gh a.sm a.out) H' c (ys0 a.pr0) tg/\∀x,tg x≠0->a.H0 x=none)
def BdP(K:MF)(sm:List Sm)(i:Nat)(ys:List V)(σ:L2.St)(H':Hp):Prop:=(∃v0,σ= [v0])/\(i=0->ys= [])/\(i=1->∃t u,ys= [.ref t]/\H' t=some (.tup [.str "main",.ref u])/\Fz K H' (.ref u) (.tuple (bdD sm)))
theorem HM(D:MakeAt K mg "PlainYard" C.y "PlainYard.__init__" ff ["self","program","outer","agenda"])(IC:Cls K C.y)(Jo:NoAttr K C.y "bodies")(JB:mg "dict" =none)(JK:OkD P w K mg base 7 "frozen" ["thing"] (sM K 5))(Kg:OkI P w K mg base 8 "Yard" ["self","program","outer","agenda"] (GC C K)):OkC P w K mg base 9 "PlainYard" C.y ["self","program","outer","agenda"] (GD C K):=by
 refine MakeAt.okG D jc (λ_=>rfl) λa f cdv A outer s0 H Q E hr p q=>?_
 refine⟨_,(aa (aC (Cq Kg hr rfl (cg (pvM 0) (pvM 1) (pvM 2) (pvM 3)))) (ae (aI IC Jo (pvM 0) (dA dM JB (aG (cQ 1 ["hand"] [] (bp (aq (pvM 1) ac)) (λn _ _ _ _=>(cY 0 n)) (λ_ _ _ _=>cc) (λ_ _ _ _=>(au (aD (aq (pvM 0) ac) (aR JK hr rfl (aG (aq (pvM 0) ac)))))))))))),?_⟩
 symm
 refine⟨a,rfl,p,λv H1 q1=>?_⟩
 obtain⟨_,_,_,_,prg,_⟩:=p
 obtain⟨p0,p1,p2,p3,ph,pn,pb,zs0,bd,k1,k2,k3,k4,k5,k6,k7,k8,k9,k10,k11,k12⟩:=id prg
 obtain⟨rfl,c,tg,ey,ex,b,hy,T,ehs,esv,ees⟩:=q1
 have h1:=b.s0 _ _ k1
 have h7:=b.s0 _ _ k7
 have h8:=b.s0 _ _ k8
 have h10:=Rp.mono b.s0 k10
 symm
 apply br
 simp only [bU]
 symm
 refine⟨⟨_,SqL.of h7⟩,eX h7 (by unfold Nm;simp) (BdP K a.sm) (λ_ _=>⟨⟨_,rfl⟩,λ_=>rfl,λz=>by cases z⟩) ?_ ?_⟩
 ·rintro D' i x ys σ1 H1 hx at1 ⟨⟨v0,rfl⟩,e0,_⟩
  have i0:i=0:=by have:=at1.lt;simp at this;lia
  subst i0
  cases e0 rfl
  cases hx
  have h8':=at1.same _ _ h8
  have h10':=Rp.mono at1.same h10
  have lD:=at1.lst
  have at1':=PLift.up at1
  clear at1 e0
  symm
  refine⟨.ref pb,.list bd,rfl,h10',k11,λH2 v2 g2 z2=>?_⟩
  rw [k12] at z2
  cases z2 with
  | @tup u vs _ hu ru=>
   symm
   intro t H3 n3 g3 e3
   refine at1'.down.put (g2.trans g3) λH5 mu=>⟨⟨_,rfl⟩,(λz=>by cases z),λ_=>⟨t,u,rfl,mu.old e3 λz=>?_,?_⟩⟩
   ·rw [z,(g2.trans g3) _ _ lD] at e3;cases e3
   ·have kt:Kt H3 H5:=λc' xs h=>mu.old h λz=>by rw [z,(g2.trans g3) _ _ lD] at h;cases h
    exact bj ((Kt.of g3).trans kt) (.tup hu ru)
 ·rintro D1 ys σ1 H2 hD1 g2 hys _ ⟨_,_,e1⟩
  obtain⟨t,u,rfl,et,zu⟩:=e1 rfl
  symm
  refine⟨[(Sum.inr "main",.ref u)],.cons et .nil,by simp,λdb H3 n3 g3 e3=>?_⟩
  have e3:=e3
  have ny3:db≠a.y:=λz=>by
   rw [z,g2 _ _ hy] at n3;cases n3
  have hy3:=g3 _ _ (g2 _ _ hy)
  obtain⟨tg3,b3,t3,o3⟩:=(b.same g2).add g3 (k:=2) (F2:=λG=>∃v,G db=some (.dK [(Sum.inr "main",v)])/\Fz K G v (.tuple (bdD a.sm))) n3 e3 trivial (by decide) (λG G' s z=>by
   obtain⟨v,z1,z2⟩:=z
   exact⟨v,s.2 _ _ ny3 z1,bj s.kt z2⟩) ⟨_,e3,bj (Kt.of g3) zu⟩
  unfold BI at hy3
  symm
  intro H4 m4
  have b4:=b3.mu m4
  have hy4:=m4.at_
  obtain⟨⟨⟨⟨⟨⟨⟨⟨ao,vn,en,zn⟩,ed⟩,ep⟩,vo,eo,zo⟩,go⟩,edh⟩,el⟩,vb,eb,zb⟩:=b4.f
  have ob:H4 c.y=some (HO.ins C.y c.dx (aM {c with db:=db} (ys0 a.pr0))):=by
   rw [ey,ex,hy4]
   rw [esv]
   rfl
  refine q _ _ ⟨rfl,b4.s0,{c with db:=db},tg3,ey,⟨ob,⟨_,en,.cons zn .nil⟩,⟨_,ed,.nil⟩,⟨_,eb,.cons zb .nil⟩,⟨vo,eo,zo⟩,ep,ao,go,ees,by show H4 c.dh=some (.dK (c.hs.map _));rw [ehs];exact edh,by show HdL C H4 c.hs _;rw [ehs];exact .nil,⟨_,el,.nil⟩,by show Fz K H4 c.sv _;rw [esv];exact .non,?_⟩,b4.new⟩
  exact⟨tgU o3 T.y (by decide),⟨tgU o3 T.st.1 (by decide),tgU o3 T.st.2 (by decide),t3⟩,tgU o3 T.p (by decide),tgU o3 T.l (by decide),⟨tgU o3 T.a.1 (by decide),tgU o3 T.a.2 (by decide)⟩,λx hx=>tgU o3 (T.g x hx) (by decide),tgU o3 T.dh (by decide),λh hh=>by (have:h∈c.hs:=hh;rw [ehs] at this;cases this),b4.own⟩
end
def BJ(p:Str×TS):Nq:=.tuple [.int p.2.free,.list [],.list []]
def sS(C:CA)(K:MF):Sp:=spG (A:=Gy) (λg=>[.ref g.c.y]) (λg H=>Yd C K g.P H g.c g.s g.tg/\g.s.hd= []/\g.s.ag= []/\g.s.ss= []/\g.s.pl= []/\(∀p∈g.s.ts,p.2.que= []/\∀k,aV p.2.held k=0)/\g.s.ts.length<=10) (λg H v H'=>Same H H'/\∃r l1 l2 l3 l4 l5,v= .ref r/\H' r=some (.tup [.int g.s.now,.ref l1,.ref l2,.ref l3,.ref l4,.ref l5])/\H' l1=some (.lst [])/\Rp K H' (.ref l2) (.list (g.s.ts.map BJ))/\H' l3=some (.lst [])/\H' l4=some (.lst [])/\H' l5=some (.lst []))
section
variable{C:CA}{K:MF}{P:Np}{w:Nu}{mg:Str->Option Nk}{base:Heap}
theorem Dt(nd:(l.map (·.1)).Nodup)(h:p∈l):aV l p.1=p.2:=by
 induction l with
 | nil=>cases h
 | cons a r ih=>
  obtain⟨k,x⟩:=a
  rw [Ls,LV] at nd
  show(if k=p.1 then x else aV r p.1)=_
  rcases List.mem_cons.mp h with rfl | h
  ·exact RD rfl
  ·rw [RC (λz=>nd.1 (List.mem_map.mpr ⟨p,h,z.symm⟩))];exact ih nd.2 h
theorem Du(h:TlL H0 H vs ts):RpL K H vs (ts.map λt=>.tuple [.int t.free,.list [],.list []]):=by
 induction h with
 | nil=>exact .nil
 | cons h1 _ ih=>
  obtain⟨p,ph,pq,rfl,a1,a2,a4,_⟩:=h1
  exact .cons (.tup a1 (.cons (.int _) (.cons (.lst a2 .nil) (.cons (.lst a4 .nil) .nil)))) ih
theorem Dv(D:MethAt K C.y "view" "Yard.view" lK ["self"])(IC:Cls K C.y)(IM:Cls K C.d)(ID:NoAttr K C.d "number")(Jw:NoAttr K C.d "name")(Jl:NoAttr K C.d "row")(IP:NoAttr K C.y "hands")(IH:NoAttr K C.y "now")(IQ:NoAttr K C.y "goods")(Jp:NoAttr K C.y "places")(IE:NoAttr K C.y "agenda")(Jz:mg "sorted" =none)(Jq:mg "list" =none)(J7:OkM P w K mg base 2 C.g "tools" ["self"] (uz C.g C.t))(J3:OkM P w K mg base 2 C.g "stores" ["self"] (r6 C.g))(JD:OkM P w K mg base 1 C.l "in_order" ["self"] (Ag.spLOrd C.l))(JE:OkM P w K mg base 1 C.h "in_order" ["self"] (Ag.spHOrd C.h)):OkM P w K mg base 3 C.y "view" ["self"] (sS C K):=by
 refine D.okG IC sc_Yard_view (λ_=>rfl) λg f cdv A outer s0 H Q E hr p q=>?_
 obtain⟨Y,z1,z2,z3,z4,z5,z6⟩:=p
 have hu:=cJ hr
 have h0:=Y.obj
 have ehs:g.c.hs= []:=by
  have:=Y.hd
  rw [z1] at this
  cases h:g.c.hs with
  | nil=>rfl
  | cons a r=>rw [h] at this;cases this
 have hdh:=Y.dh
 rw [ehs] at hdh
 have hdh:=hdh
 refine⟨_,(aa (l7 (i:=1) sc_Yard_view.nd rfl (Or.inl rfl) (fI 1 (N:=["number","self"]) (cap:=[0]) rfl rfl rfl rfl (by decide) rfl rfl rfl) rfl (bp (gc (tD rfl) Jz (aG (ai IC IP (pvM 0))))) (λ_ _ _ _=>(iR (i:=0) (show List.Nodup (α:=Str) ["number","self"] by decide) rfl (Or.inl (NI rfl)) (Or.inr (NI rfl)))) (λ_ _ _ _=>cc) (λ_ _ _ _=>(cL hu (ai IC IP (pvM 1)) (pvM 0) (λ_ _=>rfl)))) (aa (l7 (i:=2) sc_Yard_view.nd rfl (Or.inl rfl) (fI 1 (N:=["hand"]) (cap:=[]) rfl rfl rfl rfl (by decide) rfl rfl rfl) rfl (bp (pvM 1)) (λ_ _ _ _=>(iR (i:=0) (show List.Nodup (α:=Str) ["hand"] by decide) rfl (Or.inl (NI rfl)) (Or.inr (NI rfl)))) (λ_ _ _ _=>cc) (λ_ _ _ _=>(au (cg (ai IM ID (pvM 0)) (ai IM Jw (pvM 0)) (ai IM Jl (pvM 0)) mf)))) (ae (ax (au (gJ (ai IC IH (pvM 0)) (gJ (pvM 2) (cg (bq J7 hr (ai IC IQ (pvM 0))) (bq J3 hr (ai IC IQ (pvM 0))) (dA vL Jq (aG (zE (ai IC Jp (pvM 0))))) (gA JD JE hr (ai IC IE (pvM 0))))))))))),?_⟩
 symm
 apply br
 simp only [bU]
 symm
 refine⟨[],rfl,by simp,λD1 H1 ms n1 g1 e1 pm _=>?_⟩
 cases pm.eq_nil
 have e1:=e1
 symm
 refine⟨⟨_,SqL.of e1⟩,fC e1 λD2 H2 n2 g2 e2=>?_⟩
 clear hdh e1
 symm
 apply br
 simp only [bU]
 symm
 refine⟨⟨_,SqL.of e2⟩,fC e2 λD3 H3 n3 g3 e3=>?_⟩
 have Y3:=Y.same ((g1.trans g2).trans g3)
 have h03:=Y3.obj
 clear e2
 obtain⟨⟨gdx,hg⟩,hdt,hds,hts,_⟩:=Y3.go
 have le:g.c.es.length<=10:=by
  have:=congrArg List.length Y.ts
  rw [Ln] at this
  lia
 symm
 refine⟨g.c.g,gdx,g.c.dt,.ref g.c.ds,g.c.es,rfl,hg,hdt,hts,λe he=>?ez,by lia,λl2 H4 vs4 n4 g4 e4 tl4=>?_⟩
 case ez=>
  have hm:(e.name,e.t)∈g.s.ts:=by rw [<-Y.ts];exact List.mem_map.mpr ⟨e,he,rfl⟩
  obtain⟨_,_,_,_,_,_,nd,_⟩:=hts e he
  refine⟨(z5 _ hm).1,λp hp=>?_⟩
  have:=Dt nd hp
  rw [(z5 _ hm).2] at this
  lia
 have Y4:=Y3.same g4
 have h04:=Y4.obj
 have hg4:=g4 _ _ hg
 clear h03 hg hdt hts
 symm
 refine⟨g.c.g,gdx,g.c.ds,.ref g.c.dt,rfl,hg4,g4 _ _ hds,λl3 H5 n5 g5 e5=>?_⟩
 have Y5:=Y4.same g5
 have h05:=Y5.obj
 have pl5:=Y5.pl
 rw [z4] at pl5
 have pl5:=pl5
 clear h04 hg4
 symm
 intro pv H6 n6 g6 e6
 have pl6:=g6 _ _ pl5
 clear pl5
 dsimp only
 symm
 refine⟨g.c.dp,rfl,_,pl6,by simp,λl4 H7 n7 g7 e7=>?_⟩
 have e7:=e7
 have Y7:=(Y5.same g6).same g7
 have h07:=Y7.obj
 clear h05 pl6
 symm
 have ya:=Y7.ag
 rw [z2] at ya
 refine F5 ya λl5 H8 n8 g8 e8=>?_
 symm
 intro r H9 n9 g9 e9
 have S49:=(((g5.trans g6).trans g7).trans g8).trans g9
 refine q _ _ ⟨((g1.trans g2).trans g3).trans (g4.trans S49),r,D3,l2,l3,l4,l5,rfl,e9,S49 _ _ (g4 _ _ e3),?_,(((g6.trans g7).trans g8).trans g9) _ _ e5,(g8.trans g9) _ _ e7,g9 _ _ e8⟩
 have rp:=Du (K:=K) tl4
 have ee:(g.c.es.map (·.t)).map (λt=>Nq.tuple [.int t.free,.list [],.list []])=g.s.ts.map BJ:=by
  rw [<-Y.ts,LW,LW];rfl
 rw [ee] at rp
 exact .lst (S49 _ _ e4) (RpL.mono (hide_le.trans S49) rp)
end
section
variable{P:Np}{w:Nu}{K:MF}{mg:Str->Option Nk}{base:Heap}
def sT:Sp:=λvs H Q _=>∃c k:Int,vs= [.int c,.int k]/\0<=k/\k<=1000/\∀m:Int,0<=m->m<2^28->Q (.int m) H
theorem Dw(D:DefAt K mg "_law_stir" lP ["cell","k"])(J8:mg "range" =none):OkD P w K mg base 1 "_law_stir" ["cell","k"] sT:=by
 refine D.ok cR (λvs H Q E h=>?_) (λf cdv A outer s H vs Q E hr h=>?_)
 ·obtain⟨c,k,rfl,_⟩:=h;rfl
 obtain⟨c,k,rfl,h0,h1,q⟩:=h
 refine⟨_,(aa (aJ (aO A5 (pv 0) (az wO ac ac)) (aa (cH NE.never rfl (jW rfl J8 (aG (az cI (pv 1) ac))) (bw 2 cR) (ae (aQ 0 cR (az iS (pv 0) ac)))) (ae (ax (az cI (pv 0) ac)))) aA) (aa (aQ 3 cR (az cI (az eP (az bc (az bc (pv 0) (az eP ac (pv 1))) ac) ac) ac)) (aa (aQ 3 cR (az cI (az eP (pv 3) (pv 3)) ac)) (aa (aQ 3 cR (az cI (az bc (az eP (pv 3) ac) (az eP ac (pv 1))) ac)) (ae (ax (az iS (az cI (az eP (pv 3) (pv 3)) ac) ac))))))),?_⟩
 walk_at "rd"
 refine cv (λc1=>?_) λc1=>?_
 ·apply cE
  simp only [qx]
  walk_at "rd"
  refine⟨by lia,by lia,jY (λi σ H'=>H'=H/\∃(c':Int) (v2:Option V),σ= [some (.int c'),some (.int k),v2,none]) ⟨rfl,c,_,rfl⟩ ?_ ?_⟩
  ·rintro i σ H' hi ⟨rfl,c',v2,rfl⟩
   walk_at "rd"
  ·rintro σ H' ⟨rfl,c',v2,rfl⟩
   walk_at "rd"
   exact q _ (Mg _ (by decide)) (Int.lt_trans (L4 _ (by decide)) (by decide))
 ·have e1:=Mg ((c+977*k+1)*48271) (show(2147483647:Int)≠0 by decide)
  have e2:=L4 ((c+977*k+1)*48271) (show(0:Int)<2147483647 by decide)
  generalize (c+977*k+1)*48271%2147483647=x at e1 e2
  have e3:=Mg (x*x%2147483629*69621+13*k) (show(2147483587:Int)≠0 by decide)
  have e4:=L4 (x*x%2147483629*69621+13*k) (show(0:Int)<2147483587 by decide)
  generalize (x*x%2147483629*69621+13*k)%2147483587=y at e3 e4
  refine⟨.inl ⟨by lia,by lia⟩,.inl ⟨by lia,by lia⟩,q _ ?_ ?_⟩
  ·have:=Mg (y*y) (show(2147483579:Int)≠0 by decide)
   lia
  ·have:=L4 (y*y) (show(0:Int)<2147483579 by decide)
   lia
end
structure Rn where
 pp:Addr
 po:Addr
 hp:Bool
 pr0:List (Str×Int)
 sm:List Sm
 out:List Ot
 od:List Nq
 I:Nat->YS->Prop
 n0:Nat
structure RnP(K:MF)(a:Rn)(H:Hp):Prop where
 prg:PrgH K H a.pp a.pr0 a.sm
 ou:Rp K H (.ref a.po) (.list a.od)
 sz:Sz 5 (.list a.od)
 fz:frz (.list a.od)= .tuple (a.out.map Ot.D)
 i0:a.I a.n0 (ys0 a.pr0)
 st:∀n s,a.I n s->fX (gh a.sm a.out) s/\(s.next (gh a.sm a.out)≠none->∃n',n'<n/\a.I n' (s.step (gh a.sm a.out)))
def RnQ(C:CA)(K:MF)(a:Rn)(H:Hp)(v:V)(H':Hp):Prop:=Same H H'/\∃c s tg n,v= .ref c.y/\Yd C K (gh a.sm a.out) H' c s tg/\a.I n s/\s.next (gh a.sm a.out)=none/\∀x,tg x≠0->H x=none
def sU(C:CA)(K:MF):Sp:=spG (A:=Rn) (λa=>[.ref a.pp,.ref a.po,.bl a.hp]) (λa H=>RnP K a H) (λa H v H'=>RnQ C K a H v H')
def DnI(C:CA)(K:MF)(a:Rn)(ag y:Addr)(H:Hp)(m:Nat)(σ:L2.St)(H':Hp):Prop:=σ= [some (.ref a.pp),some (.ref a.po),some (.bl a.hp),some (.ref ag),some (.ref y)]/\Same H H'/\∃c s tg,c.y=y/\Yd C K (gh a.sm a.out) H' c s tg/\a.I m s/\∀x,tg x≠0->H x=none
def AgZ(C:CA)(a:Rn)(H:Hp)(σ:L2.St)(H':Hp):Prop:=∃ag al kd,σ= [some (.ref a.pp),some (.ref a.po),some (.bl a.hp),some (.ref ag),none]/\Same H H'/\Ag.AO C.l C.h H' kd ag al []/\H ag=none/\H al=none
section
variable{C:CA}{P:Np}{w:Nu}{K:MF}{mg:Str->Option Nk}{base:Heap}
theorem AR(g1:Same H H1)(ao:Ag.AO C.l C.h H1 kd ag al [])(na:H ag=none)(nl:H al=none)(ny:H1 y=none)(g2:Same H1 H2)(hy:H2 y=some (.ins C.y dx [])):∃tg,Bn H H2 y tg (λG=>Ag.AO C.l C.h G kd ag al [])/\tg ag=5/\tg al=5:=by
 have nt1:=wg ao
 obtain⟨o1,e1,_⟩:=nt1 ag Ll
 obtain⟨o2,e2,_⟩:=nt1 al (Lm _ Ll)
 have n1:ag≠y:=λz=>by rw [z,ny] at e1;cases e1
 have n2:al≠y:=λz=>by rw [z,ny] at e2;cases e2
 have ao2:=qD ao λc u _ h=>g2 _ _ h
 refine⟨λa=>if a=y then 1 else if a=ag\/a=al then 5 else 0,⟨g1.trans g2,RD rfl,⟨_,_,_,hy⟩,λa h=>?_,λa h=>?_,λG G' s z=>qD z λc u hc hu=>?_,ao2⟩,(RC n1).trans (RD (.inl rfl)),(RC n2).trans (RD (.inr rfl))⟩
 ·by_cases c:a=y
  ·rw [c];exact⟨_,hy,trivial⟩
  ·by_cases c2:a=ag\/a=al
   ·exact wg ao2 a (by rcases c2 with rfl | rfl<;>simp)
   ·rw [RC c,RC c2] at h;exact absurd rfl h
 ·by_cases c:a=y
  ·rw [c];exact g1.free ny
  ·by_cases c2:a=ag\/a=al
   ·rcases c2 with rfl | rfl
    ·exact na
    ·exact nl
   ·rw [RC c,RC c2] at h;exact absurd rfl h
 ·rcases hc with rfl | rfl | ⟨xs,rfl⟩
  ·exact s.2 _ _ n1 hu
  ·exact s.2 _ _ n2 hu
  ·exact s.kt _ _ hu
theorem Dx(D:DefAt K mg "_law_done" lQ ["program","outer","heap"])(Ka:OkC P w K mg base 1 "ListAgenda" C.l ["self"] (Ag.spLI C.l))(Kb:OkC P w K mg base 1 "HeapAgenda" C.h ["self"] (Ag.spHI C.h))(Kh:OkC P w K mg base 9 "PlainYard" C.y ["self","program","outer","agenda"] (GD C K))(Jd:OkM P w K mg base 3 C.y "next_moment" ["self"] (spR C K (λg=>g.s.done<=g.P.out.length) λg=>kI (g.s.next g.P)))(JX:OkM P w K mg base 10 C.y "step" ["self"] (yD C K)):OkD P w K mg base 18 "_law_done" ["program","outer","heap"] (sU C K):=by
 refine D.okG fg (λ_=>rfl) λa f cdv A outer s0 H Q E hr p q=>?_
 refine⟨_,(aa (aQ 3 fg (pC Ka hr rfl)) (aa (gu (aJ (fN (pvM 2)) (ae (aQ 3 fg (pC Kb hr rfl))) aA)) (aa (aQ 4 fg (jA Kh hr rfl (bJ (pvM 0) (pvM 1) (pvM 3)))) (aa (d7 NE.never (aO nX (bq Jd hr (pvM 4)) bV) (ae (aC (bq JX hr (pvM 4))))) (ae (ax (pvM 4))))))),?_⟩
 symm
 intro a1 dx1 H1 n1 nd1 g1 h1 hd1
 refine⟨a1,dx1,rfl,h1,λl1 H2 n2 k2 la=>⟨rfl,?_⟩⟩
 have S2:Same H H2:=λc u h=>k2 c u (λz=>by rw [z,n1] at h;cases h) (g1 _ _ h)
 symm
 refine⟨AgZ C a H,?_,?_⟩
 ·by_cases c:a.hp=true
  ·apply ce c
   intro a2 dx2 H3 n3 nd3 g3 h3 hd3
   refine⟨a2,dx2,rfl,h3,λl2 H4 n4 k4 ha=>⟨rfl,?_⟩⟩
   have S4:=λc u h=>k4 c u (λz=>by rw [z,S2.free n3] at h;cases h) (g3 _ _ (S2 _ _ h))
   have e4:=(S2.trans g3).free n4
   exact⟨a2,l2,false,rfl,S4,Ag.HA.ao ha,S2.free n3,e4⟩
  ·apply bH c
   exact⟨a1,l1,true,rfl,S2,Ag.LA.ao la,n1,g1.free n2⟩
 ·rintro σ H3 ⟨ag,al,kd,rfl,S3,ao,na,nl⟩
  symm
  intro y dx H4 ny ndx g4 hy hdx
  obtain⟨tg0,b,t1,t2⟩:=AR S3 ao na nl ny g4 hy
  refine⟨⟨y,dx,a.pp,a.po,ag,al,kd,H,a.pr0,a.sm,a.out,a.od,tg0⟩,rfl,⟨b,hy,t1,t2,p.prg,p.ou,p.sz,p.fz⟩,λv H5 w5=>?_⟩
  obtain⟨rfl,S5,c,tg,ey,Y,nw⟩:=w5
  refine⟨rfl,?_⟩
  dsimp only at S5 ey Y nw
  refine⟨DnI C K a ag y H,⟨a.n0,rfl,S5,c,_,tg,ey,Y,p.i0,nw⟩,λm σ H6 z=>?_⟩
  obtain⟨rfl,S6,c6,s6,tg6,ey6,Y6,i6,nw6⟩:=z
  obtain⟨so,sn⟩:=p.st m s6 i6
  subst ey6
  have h06:=Y6.obj
  symm
  refine⟨⟨gh a.sm a.out,c6,s6,tg6⟩,rfl,⟨Y6,so.1⟩,λv H7 w7=>?_⟩
  obtain⟨rfl,e7⟩:=w7
  have two:s6.next (gh a.sm a.out)=none\/∃k,s6.next (gh a.sm a.out)=some k:=by
   cases s6.next (gh a.sm a.out) with
   | none=>exact .inl rfl
   | some k=>exact .inr ⟨k,rfl⟩
  rcases two with en | ⟨k,en⟩
  ·have fin:=q _ _ ⟨S6,c6,s6,tg6,m,rfl,Y6,i6,en,nw6⟩
   simp only [en,kI]
   symm
  ·obtain⟨m',lt,i'⟩:=sn (by rw [en];simp)
   simp only [en,kI]
   refine⟨DnI C K a ag c6.y H m',λσ' H' z=>⟨m',lt,z⟩,?_⟩
   symm
   refine⟨⟨gh a.sm a.out,c6,s6,tg6⟩,rfl,⟨Y6,so⟩,λv H8 w8=>?_⟩
   obtain⟨rfl,c8,tg8,ey8,Y8,gr8⟩:=w8
   refine⟨rfl,λx o h=>gr8.1 x o ?_ (S6 _ _ h),c8,_,tg8,ey8,Y8,i',λx h=>?_⟩
   ·rcases LR (tg6 x) with z | z
    ·exact z
    ·rw [nw6 x (L5 z)] at h;cases h
   ·rcases gr8.2 x h with z | z
    ·exact nw6 x z
    ·exact S6.free z
end
def isR(w:Str)(n:Int)(d:Nq):Prop:=∃m ws,d=row m n (.str w::ws)
def RwG(K:MF)(w:Str)(ds:List Nq)(kvs:List (Key×V))(H:Hp):Prop:=(∀n u,aZ kvs (Sum.inl n)=some u->∃d∈ds,isR w n d/\Fz K H u d)/\∀n d,d∈ds->isR w n d->∃u,aZ kvs (Sum.inl n)=some u
def yI(K:MF):Sp:=spG (A:=Addr×Str×List V×List Nq) (λa=>[.ref a.1,.str a.2.1]) (λa H=>H a.1=some (.lst a.2.2.1)/\FzL K H a.2.2.1 a.2.2.2/\(∀d∈a.2.2.2,∃w n,isR w n d)/\a.2.2.1.length<=1000) (λa H v H'=>Same H H'/\∃r kvs,v= .ref r/\H' r=some (.dK kvs)/\RwG K a.2.1 a.2.2.2 kvs H')
section
variable{P:Np}{w:Nu}{K:MF}{mg:Str->Option Nk}{base:Heap}
def RwI(K:MF)(l:Addr)(wd:Str)(vs:List V)(ds:List Nq)(d:Addr)(H:Hp)(i:Nat)(σ:L2.St)(H':Hp):Prop:=(∃v3,σ= [some (.ref l),some (.str wd),some (.ref d),v3])/\Same H H'/\∃kvs,H' d=some (.dK kvs)/\kvs.length<=i/\RwG K wd (ds.take i) kvs H'
theorem RwG.mono(k:Kt H H')(h:RwG K wd ds kvs H):RwG K wd ds kvs H':=⟨λn u e=>by
 obtain⟨d,hd,hr,hf⟩:=h.1 n u e
 exact⟨d,hd,hr,bj k hf⟩,h.2⟩
theorem Dy(D:DefAt K mg "_law_rows" lR ["log","word"]):OkD P w K mg base 1 "_law_rows" ["log","word"] (yI K):=by
 refine D.okG hU (λ_=>rfl) λa f cdv A outer s0 H Q E hr p q=>?_
 obtain⟨l,wd,vs,ds⟩:=a
 dsimp only at p q⊢
 obtain⟨hl,fz,rows,ln⟩:=p
 have hu:=cJ hr
 have big:100000<=Nm:=by unfold Nm;decide
 have lv:=bT fz
 refine⟨_,(aa (aQ 2 hU lZ) (aa (cH NE.never rfl (bp (pvM 0)) (bw 3 hU) (ae (aJ (aO bz (aq (pvM 3) ac) (pvM 1)) (ae (j5 hu (pvM 2) (aq (pvM 3) ac) (pvM 3))) aA))) (ae (ax (pvM 2))))),?_⟩
 intro d H1 n1 g1 e1
 symm
 apply cE
 simp only [bU]
 have l1:=g1 _ _ hl
 symm
 refine⟨⟨_,SqL.of l1⟩,dD (RwI K l wd vs ds d H) ⟨⟨_,rfl⟩,g1,[],e1,Nat.le_refl _,(λn u z=>by cases z),λn d hd=>absurd hd Lr⟩ (λi σ H' _ z=>SqL.of (z.2.1 _ _ hl)) ?_ ?_⟩
 ·rintro i x σ H2 hx ⟨⟨v3,rfl⟩,S2,kvs,e2,le2,G2⟩
  obtain⟨dd,ed,rv⟩:=jh fz hx
  obtain⟨wd',n,m,ws,rfl⟩:=rows dd (LC ed)
  have hi:=(List.getElem?_eq_some_iff.mp hx).1
  have rv2:=bj (Kt.of S2) rv
  obtain⟨t,xs,rfl,ht,rx⟩:=dq rv2
  cases rx with
  | cons r1 rx=>cases rx with
   | cons r2 rx=>cases rx with
    | cons r3 rx=>
     cases r1;cases r2;cases r3
     have tk:=bY ed
     symm
     by_cases c:wd'=wd
     ·subst c
      apply ce rfl
      symm
      refine⟨by lia,λH3 m3=>?_⟩
      have kt:Kt H2 H3:=λc xs h=>m3.old h λz=>by rw [z,e2] at h;cases h
      refine⟨⟨_,rfl⟩,m3.same S2 n1,_,m3.at_,?_,?_⟩
      ·have:=fG kvs (Sum.inl n) (.ref t)
       lia
      ·rw [tk]
       refine⟨λn' u z=>?_,λn' d' hd hr=>?_⟩
       ·rw [qP] at z
        by_cases cn:(Sum.inl n':Key)=Sum.inl n
        ·rw [RD cn] at z
         cases z
         cases cn
         exact⟨_,Lu _ Ll,⟨m,ws,rfl⟩,bj kt rv2⟩
        ·rw [RC cn] at z
         obtain⟨d',h1,h2,h3⟩:=G2.1 n' u z
         exact⟨d',LD _ h1,h2,bj kt h3⟩
       ·rw [qP]
        by_cases cn:(Sum.inl n':Key)=Sum.inl n
        ·exact⟨_,RD cn⟩
        ·rw [RC cn]
         rcases List.mem_append.mp hd with hd | hd
         ·exact G2.2 n' d' hd hr
         ·cases List.mem_singleton.mp hd
          obtain⟨m2,ws2,e⟩:=hr
          cases e
          exact absurd rfl cn
     ·apply bH (by simpa using c)
      refine⟨⟨_,rfl⟩,S2,kvs,e2,by lia,?_⟩
      rw [tk]
      refine⟨λn' u z=>?_,λn' d' hd hr=>?_⟩
      ·obtain⟨d',h1,h2,h3⟩:=G2.1 n' u z
       exact⟨d',LD _ h1,h2,h3⟩
      ·rcases List.mem_append.mp hd with hd | hd
       ·exact G2.2 n' d' hd hr
       ·cases List.mem_singleton.mp hd
        obtain⟨m2,ws2,e⟩:=hr
        cases e
        exact absurd rfl c
 ·rintro σ H2 ⟨⟨v3,rfl⟩,S2,kvs,e2,_,G2⟩
  rw [LH (by lia)] at G2
  symm
end
def yJ(K:MF):Sp:=spG (A:=Addr×Bool×List Int) (λa=>[.ref a.1,.bl a.2.1]) (λa H=>SqL K H a.1 (a.2.2.map V.int)) (λ_ H v H'=>Same H H'/\v= .bl true)
section
variable{C:CA}{P:Np}{w:Nu}{K:MF}{mg:Str->Option Nk}{base:Heap}
def SzA(n:Nat):List Nq->Prop
 | []=>True
 | x::r=>Sz n x/\SzA n r
theorem SzA.all:∀{l:List Nq},SzA n l->∀x∈l,Sz n x
 | [],_,x,hx=>absurd hx Lr
 | y::r,h,x,hx=>by
  rcases List.mem_cons.mp hx with rfl | hx
  ·exact h.1
  ·exact SzA.all h.2 x hx
def odD(L m:Int):Nq:=.tuple [.int m,.str "start",.str "main",.list [.int L]]
structure OuM(K:MF)(po:Addr)(H0:Hp)(i:Nat)(od:List Nq)(ms:List Int)(mo:Int)(H':Hp):Prop where
 fr:∀a o,a≠po->H0 a=some o->H' a=some o
 li:∃vs,H' po=some (.lst vs)/\RpL K (cB po H') vs od/\vs.length=i
 ln:ms.length=i
 pw:ms.Pairwise (· <= ·)
 le:∀m∈ms,0<=m/\m<=mo
 mo:0<=mo/\mo<=12*i
theorem OuM.snoc{mo:Int}(o:OuM K po H0 i od ms mo H1)(g:Same H1 H2)(hm:mo<=m)(hM:m<=mo+12)(nt:H1 t=none)(nl:H1 l=none)(ht:H2 t=some (.tup [.int m,.str "start",.str "main",.ref l]))(hl:H2 l=some (.lst [.int L]))(hv:H1 po=some (.lst vs))(mu:Mu H2 po (.lst (vs++[.ref t])) H3):OuM K po H0 (i+1) (od++[odD L m]) (ms++[m]) m H3:=by
 have lo:=o.mo
 obtain⟨vs',e1,e2,e3⟩:=o.li
 rw [hv] at e1
 cases e1
 have n1:t≠po:=λz=>by rw [z,hv] at nt;cases nt
 have n2:l≠po:=λz=>by rw [z,hv] at nl;cases nl
 refine⟨λa u na h=>mu.old (g _ _ (o.fr a u na h)) na,⟨_,mu.at_,dO (RpL.mono ((bW g).trans (gD mu)) e2) (.cons (.tup (bL n1 (mu.old ht n1)) (.cons (.int _) (.cons (.str _) (.cons (.str _) (.cons (.lst (bL n2 (mu.old hl n2)) (.cons (.int _) .nil)) .nil))))) .nil),by rw [Lq,e3];rfl⟩,by rw [Lq,o.ln];rfl,List.pairwise_append.mpr ⟨o.pw,LU _ _,λa ha b hb=>?_⟩,λx hx=>?_,by lia⟩
 ·cases List.mem_singleton.mp hb
  have:=o.le a ha;lia
 ·rcases List.mem_append.mp hx with hx | hx
  ·have:=o.le x hx;lia
  ·cases List.mem_singleton.mp hx;lia
theorem BK{ms:List Int}(pw:ms.Pairwise (· <= ·)):∀i j,i<=j->j<ms.length->ms.getD i 0<=ms.getD j 0:=λi j h hj=>by
 rw [Lv,Lv,Lo (by lia:i<ms.length),Lo hj]
 by_cases c:i=j
 ·subst c;exact Int.le_refl _
 ·exact List.pairwise_iff_getElem.mp pw i j (by lia) hj (by lia)
theorem wC{ms:List Int}(h:∀m∈ms,a<=m/\m<=b)(z:a<=0/\0<=b)(i:Nat):a<=ms.getD i 0/\ms.getD i 0<=b:=by
 rw [Lv]
 cases e:ms[i]? with
 | none=>exact z
 | some x=>exact h x (LC e)
def OuI(K:MF)(sc:Addr)(hp:Bool)(hd0 pn L:Int)(x1 xb u12 po:Addr)(H0:Hp)(i:Nat)(σ:L2.St)(H':Hp):Prop:=∃ms mo v10,σ= [some (.ref sc),some (.bl hp),some (.int hd0),some (.int pn),some (.int L),some (.ref x1),some (.ref xb),some (.ref u12),some (.ref po),some (.int mo),v10,none,none,none,none,none,none,none,none,none]/\OuM K po H0 i (ms.map (odD L)) ms mo H'
theorem PrgH.mono(g:Same H H')(h:PrgH K H pp pr0 sm):PrgH K H' pp pr0 sm:=by
 obtain⟨p0,p1,p2,p3,ph,pn,pb,ys0,bd,k1,k2,k3,k4,k5,k6,k7,k8,k9,k10,k11,k12⟩:=h
 exact⟨p0,p1,p2,p3,ph,pn,pb,ys0,bd,g _ _ k1,g _ _ k2,k3.mono g,k4,g _ _ k5,g _ _ k6,g _ _ k7,g _ _ k8,g _ _ k9,k10.mono g,k11,k12⟩
theorem HQ{ms:List Int}(h:ms.length<=1000):Sz 5 (.list (ms.map (odD L))):=.list (by rw [Ln];exact h) λx hx=>by
 obtain⟨m,_,rfl⟩:=List.mem_map.mp hx
 exact .tuple (by simp) (SzA.all ⟨.int _,.str _,.str _,.list (by simp) (SzA.all ⟨.int _,trivial⟩),trivial⟩)
theorem HR{ms:List Int}:frz (.list (ms.map (odD L)))= .tuple ((ms.map λm=>Ot.start m "main" [L]).map Ot.D):=by
 unfold frz
 rw [hW,LW,LW]
 rfl
def BgL(ms:List Int)(L:Int)(p i:Nat):List V:=(List.range i).map λk=>V.int (bF ms L p k)
theorem BgL.len:(BgL ms L p i).length=i:=by unfold BgL;rw [Ln,List.length_range]
theorem BgL.succ:BgL ms L p (i+1)=BgL ms L p i++[V.int (bF ms L p i)]:=by unfold BgL;rw [MV,Lx];rfl
theorem BgL.at(h:k<i):(BgL ms L p i)[k]? =some (.int (bF ms L p k)):=by unfold BgL;rw [LF,List.getElem?_range h];rfl
def BgI(sc:Addr)(hp:Bool)(hd0:Int)(pn:Nat)(L:Int)(x1 xb u12 po:Addr)(mo:Int)(v10:Option V)(y rl bg:Addr)(ms:List Int)(H0:Hp)(i:Nat)(σ:L2.St)(H':Hp):Prop:=∃v14,σ= [some (.ref sc),some (.bl hp),some (.int hd0),some (.int pn),some (.int L),some (.ref x1),some (.ref xb),some (.ref u12),some (.ref po),some (.int mo),v10,some (.ref y),some (.ref rl),some (.ref bg),v14,none,none,none,none,none]/\Same H0 H'/\H' bg=some (.lst (BgL ms L pn i))
def CkI(sc:Addr)(hp:Bool)(hd0:Int)(pn:Nat)(L:Int)(x1 xb u12 po:Addr)(mo:Int)(v10:Option V)(y rl bg rT rQ rS:Addr)(H0:Hp)(_:Nat)(σ:L2.St)(H':Hp):Prop:=∃v14 v18,σ= [some (.ref sc),some (.bl hp),some (.int hd0),some (.int pn),some (.int L),some (.ref x1),some (.ref xb),some (.ref u12),some (.ref po),some (.int mo),v10,some (.ref y),some (.ref rl),some (.ref bg),v14,some (.ref rT),some (.ref rQ),some (.ref rS),v18,none]/\Same H0 H'
theorem kY(hx:Rp K H x d)(hy:Rp K H y d)(sh:SeqAt.shaped d=true)(k:Kx (.bl false) H):Ew K x y H Kx:=by
 refine⟨d,d,hx,hy,sh,sh,?_⟩
 have h:=sh
 unfold SeqAt.shaped at h
 rw [Mc] at h
 rw [PN d h.1]
 exact k
theorem kZ(hx:Rp K H x d)(hy:Rp K H y d)(sh:SeqAt.shaped d=true)(k:Kx (.bl true) H):Ev K x y H Kx:=by
 refine⟨d,d,hx,hy,sh,sh,?_⟩
 have h:=sh
 unfold SeqAt.shaped at h
 rw [Mc] at h
 rw [PN d h.1]
 exact k
theorem GE{w:Str}(hw:Nq.strOk w=true)(hx:Nq.strOk x=true):SeqAt.shaped (.tuple [.int m,.int n,.str w,.str x,.int k])=true:=by
 unfold SeqAt.shaped
 simp only [Nq.canLay0,Nq.canLayAll0,hw,hx]
 rfl
theorem IA{w:Str}(hw:Nq.strOk w=true)(hx:Nq.strOk x=true)(hy:Nq.strOk y=true):SeqAt.shaped (.tuple [.int m,.int n,.str w,.str x,.str y,.int k])=true:=by
 unfold SeqAt.shaped
 simp only [Nq.canLay0,Nq.canLayAll0,hw,hx,hy]
 rfl
theorem sV{w:Str}(r:RowS ms L p d)(h:isR w n d):(w= "takes"->d=row (bI ms L p n) n dW)/\(w= "queues"->d=row (mI ms n) n fD)/\(w= "says"->d=row (bI ms L p n+L) n (bO (bI ms L p n+L))):=by
 obtain⟨m,ws,e⟩:=h
 cases r<;>cases e<;>refine⟨λz=>?_,λz=>?_,λz=>?_⟩<;>first | rfl | exact absurd z (by decide)
theorem sW{w:Str}(G:RwG K w lg kvs H)(s7:∀d∈lg,RowS ms L p d)(m:d0∈lg)(i0:isR w n d0)(un:∀d,RowS ms L p d->isR w n d->d=d0):∃u,aZ kvs (Sum.inl n)=some u/\Rp K H u d0:=by
 obtain⟨u,e⟩:=G.2 n d0 m i0
 obtain⟨d,h1,h2,h3⟩:=G.1 n u e
 cases un d (s7 d h1) h2
 exact⟨u,e,h3.mono tp_same⟩
theorem eB(g:Same H H')(h:SqL K H a xs):SqL K H' a xs:=by
 rcases h with (h | ⟨o,h⟩) | h
 ·exact .inl (.inl (g _ _ h))
 ·exact .inl (.inr ⟨o,g _ _ h⟩)
 ·exact .inr h
theorem at2(m:Int):∃d,(d=x\/d=y)/\atI [V.int x,V.int y] (m%2)=some (.int d):=by
 rcases (show m%2=0\/m%2=1 by lia) with e | e
 ·rw [e];exact⟨x,.inl rfl,rfl⟩
 ·rw [e];exact⟨y,.inr rfl,rfl⟩
theorem wD(ns:List Int):∃ms:List Int,ms.length<=40/\gb (ns.map V.int) none (some 40)=ms.map V.int:=by
 refine⟨(ns.drop (HT.sIx (ns.map V.int).length 0 none)).take (HT.sIx (ns.map V.int).length (ns.map V.int).length (some 40)-HT.sIx (ns.map V.int).length 0 none),?_,?_⟩
 ·rw [Ma]
  unfold HT.sIx
  simp
  lia
 ·unfold gb
  rw [M5,M6]
theorem Dz(D:DefAt K mg "_law_shop" lS ["script","heap"])(Jk:OkD P w K mg base 1 "_law_stir" ["cell","k"] sT)(JJ:OkD P w K mg base 18 "_law_done" ["program","outer","heap"] (sU C K))(JR:OkD P w K mg base 1 "_law_rows" ["log","word"] (yI K))(Ji:OkM P w K mg base 1 C.y "log" ["self"] (wx C K))(Jv:OkM P w K mg base 3 C.y "view" ["self"] (sS C K))(J0:OkM P w K mg base 1 C.y "end" ["self"] (spR C K (λ_=>True) λg=>g.c.sv))(K4:mg "Yard" =some (.ref aYd))(kYd:No K (.ref C.y) (.ref aYd)=some true)(K1:mg "sum" =none)(J8:mg "range" =none)(IV:mg "len" =none)(Kk:mg "max" =none)(Jr:mg "isinstance" =none):OkD P w K mg base 19 "_law_shop" ["script","heap"] (yJ K):=by
 refine D.okG aP (λ_=>rfl) λa f cdv A outer s0 H Q E hr p q=>?_
 obtain⟨sc,hp,ns⟩:=a
 dsimp only at p q⊢
 have hu:=cJ hr
 have hu64:=hr.units
 have big:100000<=Nm:=by unfold Nm;decide
 refine⟨_,(aa (aQ 2 aP (gc (zm rfl) K1 (aG (js zg (pvM 0) nZ (iX ac))))) (aa (aQ 3 aP (az bc ac (az cI (aR Jk hr rfl (aD (pvM 2) ac)) ac))) (aa (aQ 4 aP (az cI (aR Jk hr rfl (aD (pvM 2) ac)) (aq (aE (aD ac ac)) (az cI (aR Jk hr rfl (aD (pvM 2) ac)) ac)))) (aa (aQ 5 aP (au (aD av ac))) (aa (aQ 6 aP (aE (bJ (au (cg av ac av (pvM 5))) (au (bJ av ac (au (aD av av)))) (au (cg av ac av (pvM 5)))))) (aa (aQ 7 aP (au (cg (aE (aG (au (aD av (pvM 3))))) (aE a0) (aE a0) (aE (aG (au (bJ av (aE (aG av)) (az Cg (pvM 6) (aE (aG (au (cg av ac av (au (aG av)))))))))))))) (aa (aQ 8 aP (aE a0)) (aa (aQ 9 aP ac) (aa (cH NE.never rfl (bp (js zg (pvM 0) nZ (iX ac))) (bw 10 aP) (aa (aQ 9 aP (az bc (pvM 9) (az cI (aR Jk hr rfl (aD (pvM 10) ac)) (aq (aE (aD ac ac)) (az cI (aR Jk hr rfl (aD (pvM 2) ac)) ac))))) (ae (aC (dv (pvM 8) (au (cg (pvM 9) av av (aE (aG (pvM 4)))))))))) (aa (aQ 11 aP (aR JJ hr rfl (bJ (pvM 7) (pvM 8) (pvM 1)))) (aa (aQ 12 aP (bq Ji hr (pvM 11))) (aa (aQ 13 aP (aE a0)) (aa (cH NE.never rfl (jW rfl J8 (aG (dY dE rfl IV NV (aG (pvM 8))))) (bw 14 aP) (aa (aC (dv (pvM 13) (aq (aq (pvM 8) (pvM 14)) ac))) (ae (gu (aJ (aO A5 (pvM 14) (pvM 3)) (ae (de (gc (jZ rfl) Kk (aD (aq (pvM 13) (pvM 14)) (az bc (aq (pvM 13) (az eN (pvM 14) (pvM 3))) (pvM 4)))) (jV (pvM 13) (pvM 14) fP))) aA))))) (aa (aQ 15 aP (aR JR hr rfl (aD (pvM 12) av))) (aa (aQ 16 aP (aR JR hr rfl (aD (pvM 12) av))) (aa (aQ 17 aP (aR JR hr rfl (aD (pvM 12) av))) (aa (cH NE.never rfl (jW rfl J8 (aG (dY dE rfl IV NV (aG (pvM 8))))) (bw 14 aP) (aa (aJ (aO (mP hu64) (cL hu (pvM 15) (az bc (pvM 14) ac) (λ_ _=>rfl)) (au (gJ (aq (pvM 13) (pvM 14)) (cg (az bc (pvM 14) ac) av av ac)))) (ae (ax cN)) aA) (aa (aJ (aO (mP hu64) (cL hu (pvM 17) (az bc (pvM 14) ac) (λ_ _=>rfl)) (au (gJ (az bc (aq (pvM 13) (pvM 14)) (pvM 4)) (cg (az bc (pvM 14) ac) av av (az bc (aq (pvM 13) (pvM 14)) (pvM 4)))))) (ae (ax cN)) aA) (aa (aQ 18 aP (au (gJ (aq (aq (pvM 8) (pvM 14)) ac) (gJ (az bc (pvM 14) ac) (cg av av av ac))))) (ae (aJ (PW.pt (iO (aO gq (aq (pvM 13) (pvM 14)) (aq (aq (pvM 8) (pvM 14)) ac)) (gC (aO (mP hu64) (y6 hu (pvM 16) (az bc (pvM 14) ac) ⟨rfl,rfl,rfl,rfl⟩) (pvM 18))))) (ae (ax cN)) aA)))))) (aa (aQ 19 aP (bq Jv hr (pvM 11))) (ae (ax (iP (dY (id:="isinstance") (r:=vP K) rG rfl Jr (by decide) (aD (pvM 11) (gB (v:=.ref aYd) rfl K4 rfl))) (iP (fK iU (bq J0 hr (pvM 11)) bV) (iP (fK (mO hu64) (js Ip (pvM 19) (iX ac) (iX ac)) (au (bJ (aE a0) (aE (aG (au (bJ (pvM 3) (aE a0) (aE a0))))) (aE a0)))) (jU (fK (mO hu64) (aq (pvM 19) ac) (aE a0)))))))))))))))))))))))))),?_⟩
 symm
 obtain⟨ms0,l0,e0⟩:=wD ns
 refine⟨sc,_,rfl,p,λp1 H1 n1 g1 h1=>?_⟩
 rw [e0] at h1
 symm
 refine⟨ms0,rfl,?_⟩
 generalize ms0.sum=hd0
 dsimp only
 symm
 refine⟨hd0,1,rfl,by decide,by decide,λm1 a1 b1=>?_⟩
 symm
 refine⟨hd0,2,rfl,by decide,by decide,λm2 a2 b2=>?_⟩
 symm
 intro l4 H2 n2 g2 e2
 symm
 refine⟨hd0,3,rfl,by decide,by decide,λm3 a3 b3=>?_⟩
 obtain⟨d,hd,ea⟩:=at2 (x:=4) (y:=30) m3
 symm
 have d0:0<d:=by lia
 refine⟨d0,?_⟩
 dsimp only
 obtain⟨L,eL,L0,L1⟩:∃L,m2%d=L/\0<=L/\L<=29:=⟨_,rfl,Mg _ (by lia),by have:=L4 m2 d0;lia⟩
 rw [eL]
 obtain⟨pn,ep,p0⟩:∃pn:Nat,1+m1%9=(pn:Int)/\0<pn:=⟨(1+m1%9).toNat,by lia,by lia⟩
 rw [ep]
 have hS:=eB (g1.trans g2) p
 clear eL ep ea hd d0 e2 h1 e0 a1 a2 a3 b1 b2 b3
 symm
 intro x1 H3 nx1 gx1 ex1
 have zx1:=PLift.up ex1
 clear ex1
 symm
 intro x2 H4 nx2 gx2 ex2
 have zx2:=PLift.up ex2
 clear ex2
 symm
 intro x3 H5 nx3 gx3 ex3
 have zx3:=PLift.up ex3
 clear ex3
 symm
 intro x4 H6 nx4 gx4 ex4
 have zx4:=PLift.up ex4
 clear ex4
 symm
 intro x5 H7 nx5 gx5 ex5
 have zx5:=PLift.up ex5
 clear ex5
 symm
 intro xb H8 nxb gxb exb
 have zxb:=PLift.up exb
 symm
 intro u1 H9 nu1 gu1 eu1
 have zu1:=PLift.up eu1
 clear eu1
 clear exb
 have exb:=zxb.down
 symm
 intro u2 H10 nu2 gu2 eu2
 have zu2:=PLift.up eu2
 clear eu2
 symm
 intro u3 H11 nu3 gu3 eu3
 have zu3:=PLift.up eu3
 clear eu3
 symm
 intro u4 H12 nu4 gu4 eu4
 have zu4:=PLift.up eu4
 clear eu4
 symm
 intro u5 H13 nu5 gu5 eu5
 have zu5:=PLift.up eu5
 clear eu5
 symm
 intro u6 H14 nu6 gu6 eu6
 have zu6:=PLift.up eu6
 clear eu6
 symm
 intro u7 H15 nu7 gu7 eu7
 have zu7:=PLift.up eu7
 clear eu7
 symm
 intro u8 H16 nu8 gu8 eu8
 have exb':=(gu1.trans (gu2.trans (gu3.trans (gu4.trans (gu5.trans (gu6.trans (gu7.trans gu8))))))) _ _ exb
 symm
 intro u9 H17 nu9 gu9 eu9
 have zu9:=PLift.up eu9
 clear eu9
 clear exb exb'
 try dsimp only
 symm
 intro u10 H18 nu10 gu10 eu10
 have zu10:=PLift.up eu10
 clear eu10
 try dsimp only
 symm
 intro u11 H19 nu11 gu11 eu11
 have zu11:=PLift.up eu11
 clear eu11
 try dsimp only
 symm
 intro u12 H20 nu12 gu12 eu12
 have zu12:=PLift.up eu12
 clear eu12
 try dsimp only
 symm
 intro po H21 npo gpo epo
 try dsimp only
 symm
 have T20:Same H19 H20:=gu12
 have T19:=gu11.trans T20
 have T18:=gu10.trans T19
 have T17:=gu9.trans T18
 have T16:=gu8.trans T17
 have T15:=gu7.trans T16
 have T14:=gu6.trans T15
 have T13:=gu5.trans T14
 have T12:=gu4.trans T13
 have T11:=gu3.trans T12
 have T10:=gu2.trans T11
 have T9:=gu1.trans T10
 have T8:=gxb.trans T9
 have T7:=gx5.trans T8
 have T6:=gx4.trans T7
 have T5:=gx3.trans T6
 have T4:=gx2.trans T5
 have T3:=gx1.trans T4
 have r1:Rp K H20 (.ref x1) (.tuple [.str "number",.int 1]):=.tup (T4 _ _ zx1.down) (.cons (.str _) (.cons (.int _) .nil))
 have prg:PrgH K H20 u12 [("jig",(pn:Int))] dP:=by
  refine⟨u2,u3,u4,u11,u10,u5,u9,[.ref u1],[.tuple [.str "take",.int 3,.str "jig",.tuple [.str "number",.int 1]],.tuple [.str "wait",.int 4,.tuple [.str "name",.str "a"]],.tuple [.str "give",.int 5,.str "jig",.tuple [.str "number",.int 1]],.tuple [.str "say",.int 6,.str "done",.tuple [.str "now"]]],zu12.down,T11 _ _ zu2.down,.cons (T10 _ _ zu1.down) .nil,⟨by simp,by simp⟩,T12 _ _ zu3.down,T13 _ _ zu4.down,T20 _ _ zu11.down,T19 _ _ zu10.down,T14 _ _ zu5.down,?_,?_,rfl⟩
  ·refine .lst (T18 _ _ zu9.down) (.cons (.tup (T5 _ _ zx2.down) (.cons (.str _) (.cons (.int _) (.cons (.str _) (.cons r1 .nil))))) (.cons (.tup (T7 _ _ zx4.down) (.cons (.str _) (.cons (.int _) (.cons (.tup (T6 _ _ zx3.down) (.cons (.str _) (.cons (.str _) .nil))) .nil)))) (.cons (.tup (T8 _ _ zx5.down) (.cons (.str _) (.cons (.int _) (.cons (.str _) (.cons r1 .nil))))) (.cons (.tup (T16 _ _ zu7.down) (.cons (.str _) (.cons (.int _) (.cons (.str _) (.cons (.tup (T15 _ _ zu6.down) (.cons (.str _) .nil)) .nil))))) .nil))))
  ·exact .list (by simp) (SzA.all ⟨.tuple (by simp) (SzA.all ⟨.str _,.int _,.str _,.tuple (by simp) (SzA.all ⟨.str _,.int _,trivial⟩),trivial⟩),.tuple (by simp) (SzA.all ⟨.str _,.int _,.tuple (by simp) (SzA.all ⟨.str _,.str _,trivial⟩),trivial⟩),.tuple (by simp) (SzA.all ⟨.str _,.int _,.str _,.tuple (by simp) (SzA.all ⟨.str _,.int _,trivial⟩),trivial⟩),.tuple (by simp) (SzA.all ⟨.str _,.int _,.str _,.tuple (by simp) (SzA.all ⟨.str _,trivial⟩),trivial⟩),trivial⟩)
 refine cE ?_
 simp only [bU]
 have hS21:=eB (T3.trans gpo) hS
 symm
 obtain⟨cs,lc,ec⟩:=wD ns
 refine⟨sc,_,rfl,hS21,λp22 H22 n22 g22 h22=>?_⟩
 rw [ec] at h22
 have h22':=PLift.up h22
 clear h22
 have epo22:=g22 _ _ epo
 have np22:p22≠po:=λz=>by rw [z,epo] at n22;cases n22
 symm
 refine⟨⟨_,SqL.of h22'.down⟩,dD (xs:=cs.map V.int) (OuI K sc hp hd0 pn L x1 xb u12 po H22) ⟨[],0,none,rfl,λ_ _ _ h=>h,⟨[],epo22,.nil,rfl⟩,rfl,.nil,λm hm=>absurd hm Lr,by lia⟩ (λi σ H' _ z=>?_) ?_ ?_⟩
 ·obtain⟨ms,mo,v10,_,o⟩:=z
  exact SqL.of (o.fr _ _ np22 h22'.down)
 ·rintro i x σ H23 hx ⟨ms,mo,v10,rfl,o⟩
  obtain⟨c,rfl⟩:∃c,x=V.int c:=by
   obtain⟨c,_,e⟩:=List.mem_map.mp (LC hx)
   exact⟨c,e.symm⟩
  have hi:=(List.getElem?_eq_some_iff.mp hx).1
  rw [Ln] at hi
  clear hx
  symm
  refine⟨c,4,rfl,by decide,by decide,λm4 a4 b4=>?_⟩
  symm
  intro l5 H24 n24 g24 e24
  symm
  refine⟨hd0,5,rfl,by decide,by decide,λm5 a5 b5=>?_⟩
  obtain⟨d,hd,ea⟩:=at2 (x:=2) (y:=12) m5
  symm
  have d0:0<d:=by lia
  have r0:=Mg m4 (show d≠0 by lia)
  have r1:=L4 m4 d0
  refine⟨d0,?_⟩
  dsimp only
  obtain⟨qd,em⟩:∃qd,m4%d=qd:=⟨_,rfl⟩
  rw [em]
  have em':mo<=mo+qd/\mo+qd<=mo+12:=by lia
  obtain⟨vs,ev,_,lv⟩:=o.li
  have ev24:=g24 _ _ ev
  clear em ea e24
  symm
  intro l6 H25 n25 g25 e25
  have ev25:=g25 _ _ ev24
  have e25':=PLift.up e25
  clear e25 ev24
  symm
  intro t6 H26 n26 g26 e26
  have ev26:=g26 _ _ ev25
  have e26':=PLift.up e26
  clear e26 ev25
  symm
  refine⟨by lia,λH27 m27=>?_⟩
  refine⟨ms++[mo+qd],mo+qd,_,rfl,?_⟩
  rw [Lx]
  exact o.snoc ((g24.trans g25).trans g26) em'.1 em'.2 ((g24.trans g25).free n26) (g24.free n25) e26'.down (g26 _ _ e25'.down) ev m27
 ·rintro σ H23 ⟨ms,mo,v10,rfl,o⟩
  rw [Ln] at o
  obtain⟨vo,ev,rv,lv⟩:=o.li
  have lms:=o.ln
  have omo:=o.mo
  have S23:Same H20 H23:=λc u h=>o.fr c u (λz=>by rw [z,npo] at h;cases h) (g22 _ _ (gpo _ _ h))
  have S:Sh ms L pn:=⟨by lia,BK o.pw,wC (λm hm=>by have:=o.le m hm;lia) (by lia),⟨L0,L1⟩,p0⟩
  have ou:Rp K H23 (.ref po) (.list (ms.map (odD L))):=.lst ev (RpL.mono hide_le rv)
  have prg23:=prg.mono S23
  symm
  refine⟨⟨u12,po,hp,[("jig",(pn:Int))],dP,ms.map λm=>.start m "main" [L],ms.map (odD L),ShI ms L pn,160⟩,rfl,⟨prg23,ou,HQ (by lia),HR,wz S,λn s I=>yG S I⟩,λv H24 w=>?_⟩
  obtain⟨g24,c,s,tg,n,rfl,Y,I,en,nw⟩:=w
  obtain⟨s1,s2,s3,s4,s5,⟨t0,st1,st2,st3,st4⟩,s6,s7,s8⟩:=AM S I en
  have h0:=Y.obj
  symm
  refine⟨⟨_,c,s,tg⟩,rfl,Y,λv H25 w=>?_⟩
  obtain⟨rl,vl,rfl,nrl,g25,el,fl⟩:=w
  have Y25:=Y.same g25
  clear h0
  symm
  intro bg H26 n26 g26 e26
  have S26:Same H23 H26:=(g24.trans g25).trans g26
  have ev26:=S26 _ _ ev
  symm
  refine cE ?_
  simp only [qx]
  symm
  have nb:H25 bg=none:=n26
  have sp:∀G,Same H25 G->∀i,i<cs.length->∃t,G po=some (.lst vo)/\atI vo (i:Int)=some (.ref t)/\∃l,G t=some (.tup [.int (ms.getD i 0),.str "start",.str "main",.ref l]):=λG gG i hi=>by
   obtain⟨v,e1,r1⟩:=jg rv (i:=i) (d:=odD L (ms.getD i 0)) (by rw [LF,Lv,Lo (by lia)];rfl)
   have g':=(g24.trans g25).trans gG
   cases r1 with
   | @tup t vs _ ht rt=>
    cases rt with
    | cons r1 rt=>cases rt with
     | cons r2 rt=>cases rt with
      | cons r3 rt=>cases rt with
       | cons r4 rt=>
        cases rt;cases r1;cases r2;cases r3
        cases r4 with
        | lst _ _=>exact⟨t,g' _ _ ev,cC e1,_,g' _ _ (hide_le _ _ ht)⟩
  refine⟨by lia,by lia,jY (BgI sc hp hd0 pn L x1 xb u12 po mo v10 c.y rl bg ms H25) ⟨none,rfl,g26,e26⟩ ?_ ?_⟩
  ·rintro i σ H27 hi ⟨v14,rfl,g27,e27⟩
   have hi:i<cs.length:=by lia
   obtain⟨t,ev27,ea,l,ht⟩:=sp H27 g27 i hi
   rw [Int.zero_add]
   symm
   refine⟨by rw [BgL.len];lia,λH28 m28=>?_⟩
   have g28:Same H25 H28:=m28.same g27 nb
   have e28:=m28.at_
   clear e27 ev27 ea ht
   symm
   refine⟨BgI sc hp hd0 pn L x1 xb u12 po mo v10 c.y rl bg ms H25 (i+1),?_,λσ' H' z=>z⟩
   by_cases cp:pn<=i
   ·have bfe:=jG (ms:=ms) (L:=L) S.p0 cp
    have a1:atI (BgL ms L pn i++[V.int (ms.getD i 0)]) (i:Int)=some (.int (ms.getD i 0)):=cC (by rw [List.getElem?_append_right (by rw [BgL.len];exact Nat.le_refl _),BgL.len,MI];rfl)
    have a2:atI (BgL ms L pn i++[V.int (ms.getD i 0)]) ((i:Int)-pn)=some (.int (bF ms L pn (i-pn))):=by
     rw [show((i:Int)-pn)=((i-pn:Nat):Int) by lia]
     exact cC (by rw [LY (by rw [BgL.len];have:=S.p0;lia)];exact BgL.at (by have:=S.p0;lia))
    refine ce (show(pn:Int)<=i by lia) ?_
    clear cp
    symm
    refine⟨i,Ag.ixN_at (by rw [Lq,BgL.len];simp),λH29 m29=>?_⟩
    rw [<-bfe,show(BgL ms L pn i++[V.int (ms.getD i 0)]).set i (V.int (bF ms L pn i))=BgL ms L pn (i+1) by rw [BgL.succ];exact(congrArg (λn=>(BgL ms L pn i++[V.int (ms.getD i 0)]).set n (V.int (bF ms L pn i))) BgL.len.symm).trans sL] at m29
    exact⟨_,rfl,m29.same g28 nb,m29.at_⟩
   ·refine bH (show ¬(pn:Int)<=i by lia) ?_
    have bfe:=nV (ms:=ms) (L:=L) (p:=pn) (k:=i) (by lia)
    rw [<-bfe,<-BgL.succ] at e28
    clear cp
    symm
    exact⟨_,rfl,g28,e28⟩
  ·rintro σ H27 ⟨v14,rfl,g27,e27⟩
   rw [show((cs.length:Int)).toNat=cs.length from rfl] at e27
   have ln:vl.length<=1000:=by
    have:=bT fl
    dsimp only at this
    lia
   have rws:∀d∈s.lg,∃w n,isR w n d:=λd hd=>by
    cases s7 d hd<;>exact⟨_,_,_,_,rfl⟩
   symm
   refine⟨(rl,"takes",vl,s.lg),rfl,⟨g27 _ _ el,bi (Kt.of g27) fl,rws,ln⟩,λv H30 w=>?_⟩
   obtain⟨g30,rT,kT,rfl,eT,GT⟩:=w
   dsimp only at GT
   symm
   refine⟨(rl,"queues",vl,s.lg),rfl,⟨(g27.trans g30) _ _ el,bi (Kt.of (g27.trans g30)) fl,rws,ln⟩,λv H31 w=>?_⟩
   obtain⟨g31,rQ,kQ,rfl,eQ,GQ⟩:=w
   dsimp only at GQ
   symm
   refine⟨(rl,"says",vl,s.lg),rfl,⟨((g27.trans g30).trans g31) _ _ el,bi (Kt.of ((g27.trans g30).trans g31)) fl,rws,ln⟩,λv H32 w=>?_⟩
   obtain⟨g32,rS,kS,rfl,eS,GS⟩:=w
   dsimp only at GS
   have g2532:=((g27.trans g30).trans g31).trans g32
   have ev32:=((g24.trans g25).trans g2532) _ _ ev
   have e27':=((g30.trans g31).trans g32) _ _ e27
   have eT':=(g31.trans g32) _ _ eT
   have eQ':=g32 _ _ eQ
   have GT':=GT.mono (Kt.of (g31.trans g32))
   have GQ':=GQ.mono (Kt.of g32)
   clear e27 eT eQ ev26
   symm
   refine cE ?_
   simp only [qx]
   symm
   refine⟨by lia,by lia,jY (CkI sc hp hd0 pn L x1 xb u12 po mo v10 c.y rl bg rT rQ rS H32) ⟨_,_,rfl,λ_ _ h=>h⟩ ?_ ?_⟩
   ·rintro i σ H33 hi ⟨v14',v18,rfl,g33⟩
    have hi:i<cs.length:=by lia
    obtain⟨t,ev33,ea,l,ht⟩:=sp H33 (g2532.trans g33) i hi
    have eT3:=g33 _ _ eT'
    have eQ3:=g33 _ _ eQ'
    have eS3:=g33 _ _ eS
    have eb3:=g33 _ _ e27'
    have ab:atI (BgL ms L pn cs.length) (i:Int)=some (.int (bF ms L pn i)):=cC (BgL.at hi)
    obtain⟨k1,k2,k3⟩:=s8 i (by lia)
    obtain⟨uT,vT,rT'⟩:=sW (GT'.mono (Kt.of g33)) s7 k1 ⟨_,_,rfl⟩ λd r h=>by rw [(sV r h).1 rfl,oR]
    obtain⟨uS,vS,rS'⟩:=sW (GS.mono (Kt.of g33)) s7 k2 ⟨_,_,rfl⟩ λd r h=>by rw [(sV r h).2.2 rfl,oR]
    rw [Int.zero_add]
    symm
    intro t1 H34 n34 g34 e34
    symm
    refine kY (rT'.mono g34) (.tup e34 (.cons (.int _) (.cons (.int _) (.cons (.str _) (.cons (.str _) (.cons (.int _) .nil)))))) (GE (by decide) (by decide)) ?_
    have g35:=g33.trans g34
    clear e34 eT3
    have eS4:=g34 _ _ eS3
    have eb4:=g34 _ _ eb3
    clear eS3 eb3 vT
    symm
    intro t2 H35 n35 g35' e35
    symm
    refine kY (rS'.mono (g34.trans g35')) (.tup e35 (.cons (.int _) (.cons (.int _) (.cons (.str _) (.cons (.str _) (.cons (.int _) .nil)))))) (GE (by decide) (by decide)) ?_
    have g345:=g34.trans g35'
    have ev35:=g345 _ _ ev33
    have ht35:=g345 _ _ ht
    have eb5:=g35' _ _ eb4
    have eQ5:=g345 _ _ eQ3
    clear e35 eS4 eb4 ev33 ht vS eQ3
    symm
    intro t3 H36 n36 g36 e36
    have ev36:=g36 _ _ ev35
    have ht36:=g36 _ _ ht35
    have eb6:=g36 _ _ eb5
    have eQ6:=g36 _ _ eQ5
    have fin:Same H32 H36:=((g33.trans g34).trans g35').trans g36
    clear ev35 ht35 eb5 eQ5
    have e36':=PLift.up e36
    clear e36
    symm
    by_cases cq:ms.getD i 0<bF ms L pn i
    ·obtain⟨uQ,vQ,rQ'⟩:=sW (GQ'.mono (Kt.of g33)) s7 (k3 cq) ⟨_,_,rfl⟩ λd r h=>by rw [(sV r h).2.1 rfl,iM]
     refine ce cq ?_
     clear cq
     have hQ:DGet H36 rQ (.int ((i:Int)+1)) (some uQ):=.inl ⟨kQ,Sum.inl ((i:Int)+1),.inl eQ6,rfl,vQ.symm⟩
     have iQ:IsD H36 rQ:=.inl ⟨kQ,.inl eQ6⟩
     clear eQ6 vQ
     symm
     refine⟨some uQ,hQ,?_⟩
     show(λx H1=>_) uQ H36
     dsimp only
     symm
     refine kY (rQ'.mono ((g34.trans g35').trans g36)) (.tup e36'.down (.cons (.int _) (.cons (.int _) (.cons (.str _) (.cons (.str _) (.cons (.str _) (.cons (.int _) .nil))))))) (IA (by decide) (by decide) (by decide)) ?_
     symm
     exact⟨_,_,rfl,fin⟩
    ·refine bH cq ?_
     clear cq
     dsimp only
     symm
     exact⟨_,_,rfl,fin⟩
   ·rintro σ H33 ⟨v14',v18,rfl,g33⟩
    have Y33:=Y25.same (g2532.trans g33)
    have h033:=Y33.obj
    symm
    refine⟨⟨_,c,s,tg⟩,rfl,⟨Y33,s1,s2,s3,s4,?_,?_⟩,λv H34 w=>?_⟩
    ·dsimp only;rw [st1];intro p hp;cases List.mem_singleton.mp hp;exact⟨st3,st4⟩
    ·dsimp only;rw [st1];exact Lz rfl
    obtain⟨g34,r,l1,l2,l3,l4,l5,rfl,er,e1,rl2,e3,e4,e5⟩:=w
    dsimp only at er rl2
    have Y34:=Y33.same g34
    have h034:=Y34.obj
    clear h033
    symm
    refine⟨⟨_,c,s,tg⟩,rfl,⟨Y34,trivial⟩,λv H35 w=>?_⟩
    obtain⟨rfl,e35⟩:=w
    rw [e35]
    clear e35 H35
    dsimp only
    have sv:c.sv= .non:=by
     have:=Y34.sv
     rw [s5] at this
     cases h:c.sv<;>rw [h] at this<;>cases this<;>rfl
    refine ce sv ?_
    clear h034 sv
    symm
    intro q1 G1 m1 k1 f1
    symm
    intro q2 G2 m2' k2 f2
    symm
    intro q3 G3 m3' k3' f3
    symm
    intro q4 G4 m4 k4 f4
    symm
    intro q5 G5 m5 k5 f5
    symm
    intro q6 G6 m6 k6 f6
    symm
    intro q7 G7 m7 k7 f7
    symm
    intro q8 G8 m8 k8 f8
    symm
    have S78:=k7.trans k8
    have S68:=k6.trans S78
    have S58:=k5.trans S68
    have S48:=k4.trans S58
    have S38:=k3'.trans S48
    have S28:=k2.trans S38
    have S08:=k1.trans S28
    have f1':G8 q1=some (.tup [.ref l1,.ref l2,.ref l3]):=S28 _ _ f1
    have rl2':=rl2.mono S08
    rw [st1] at rl2'
    have rl2':Rp K G8 (.ref l2) (.list [.tuple [.int t0.free,.list [],.list []]]):=rl2'
    rw [st2] at rl2'
    refine kZ (.tup f1' (.cons (.lst (S08 _ _ e1) .nil) (.cons rl2' (.cons (.lst (S08 _ _ e3) .nil) .nil)))) (.tup f8 (.cons (.lst (S38 _ _ f2) .nil) (.cons (.lst (S78 _ _ f6) (.cons (.tup (S68 _ _ f5) (.cons (.int _) (.cons (.lst (S48 _ _ f3) .nil) (.cons (.lst (S58 _ _ f4) .nil) .nil)))) .nil)) (.cons (.lst (k8 _ _ f7) .nil) .nil)))) rfl ?_
    have er8:=S08 _ _ er
    have i5:atI [V.int s.now,.ref l1,.ref l2,.ref l3,.ref l4,.ref l5] 5=some (.ref l5):=rfl
    clear f1 f2 f3 f4 f5 f6 f7 f8 er f1'
    symm
    intro q9 G9 m9 k9 f9
    symm
    refine kZ (.lst (k9 _ _ (S08 _ _ e5)) .nil) (.lst f9 .nil) rfl ?_
    have SF:Same H G9:=by
     have a1:Same H H20:=((g1.trans g2).trans T3)
     have a2:=a1.trans S23
     exact(((a2.trans ((g24.trans g25).trans (g2532.trans g33))).trans g34).trans S08).trans k9
    have fin:=q _ _ ⟨SF,rfl⟩
    symm
    try exact fin
end
def oS(ms ls:List Int)(k:Nat):Int×Int×Int:=(ms.getD k 0+mx0 (ls.getD k 0),(k:Int)+1,ls.getD k 0)
def dS(t:Int×Int×Int):Nq:=row t.1 t.2.1 (bO t.2.2)
theorem AS(ms ls:List Int)(k:Nat):dS (oS ms ls k)=due ms ls ((k:Int)+1):=by unfold dS oS due;rw [iM,iM]
def tlt(a b:Int×Int×Int):Prop:=a.1<b.1\/a.1=b.1/\a.2.1<b.2.1
theorem pV:∀{l l':List (Int×Int×Int)},l.Perm l'->l.Pairwise tlt->l'.Pairwise tlt->l=l'
 | [],l',p,_,_=>by rw [p.symm.eq_nil]
 | a::l,[],p,_,_=>by have:=p.length_eq;simp at this
 | a::l,b::l',p,h,h'=>by
  rw [MB] at h h'
  have e:a=b:=by
   rcases List.mem_cons.mp (p.mem_iff.mp Ll) with e | ma
   ·exact e
   ·rcases List.mem_cons.mp (p.mem_iff.mpr (Ll)) with e | mb
    ·exact e.symm
    ·have h1:=h.1 b mb
     have h2:=h'.1 a ma
     unfold tlt at h1 h2
     lia
  subst e
  rw [pV p.cons_inv h.2 h'.2]
section
variable{K:MF}{H:Hp}
theorem GF(h:Fz K H v (dS t)):∃a,v= .ref a/\H a=some (.tup [.int t.1,.int t.2.1,.str "says",.str "done",.int t.2.2]):=by
 obtain⟨a,xs,rfl,ha,rx⟩:=dq h
 cases rx with
 | cons r1 rx=>cases rx with
  | cons r2 rx=>cases rx with
   | cons r3 rx=>cases rx with
    | cons r4 rx=>cases rx with
     | cons r5 rx=>
      cases rx;cases r1;cases r2;cases r3;cases r4;cases r5
      exact⟨a,rfl,ha⟩
def tlR(H:Hp)(a:Addr):List V:=match H a with
 | some (.tup xs)=>xs.drop 2
 | _=>[]
def wE(H:Hp)(a:Addr):Int:=match H a with
 | some (.tup [_,_,_,_,.int l])=>l
 | _=>0
def oT(H:Hp)(q:Addr×List Int):Int×Int×Int:=(q.2.getD 0 0,q.2.getD 1 0,wE H q.1)
theorem AT:∀{vs:List V} {ts:List (Int×Int×Int)},FzL K H vs (ts.map dS)->∃ps:List (Addr×List Int),vs=ps.map (λq=>.ref q.1)/\ts=ps.map (oT H)/\∀q∈ps,∃t,oT H q=t/\q.2= [t.1,t.2.1]/\H q.1=some (.tup [.int t.1,.int t.2.1,.str "says",.str "done",.int t.2.2]):=by
 intro vs ts
 induction ts generalizing vs with
 | nil=>intro h;cases h;exact⟨[],rfl,rfl,λq hq=>absurd hq Lr⟩
 | cons t ts ih=>
  intro h
  cases h with
  | cons a b=>
   obtain⟨x,rfl,hx⟩:=GF a
   obtain⟨ps,e1,e2,e3⟩:=ih b
   have et:oT H (x,[t.1,t.2.1])=t:=by
    show(t.1,t.2.1,wE H x)=t
    unfold wE
    rw [hx]
   refine⟨(x,[t.1,t.2.1])::ps,by rw [e1];rfl,by rw [Ls,et,e2],λq hq=>?_⟩
   rcases List.mem_cons.mp hq with rfl | hq
   ·exact⟨t,et,rfl,hx⟩
   ·exact e3 q hq
theorem lT:∀{ps:List (Addr×List Int)},(∀q∈ps,∃t,oT H q=t/\H q.1=some (.tup [.int t.1,.int t.2.1,.str "says",.str "done",.int t.2.2]))->FzL K H (ps.map λq=>.ref q.1) ((ps.map (oT H)).map dS)
 | [],_=>.nil
 | q::ps,h=>by
  obtain⟨t,et,ht⟩:=h q Ll
  rw [Ls,Ls,et]
  exact .cons (.tup (fh ht) (.cons (.int _) (.cons (.int _) (.cons (.str _) (.cons (.str _) (.cons (.int _) .nil)))))) (lT λq hq=>h q (Lm _ hq))
theorem pW(hp:H p=some (.lst vs))(fz:FzL K H vs (ts.map dS))(nd:(ts.map (·.2.1)).Nodup)(h64:ts.length<64)
 (q:∀D H' vs' (ts':List (Int×Int×Int)),H D=none->Same H H'->H' D=some (.lst vs')->FzL K H' vs' (ts'.map dS)->ts'.Perm ts->ts'.Pairwise tlt->Q (.ref D) H'):xF [.ref p] H Q:=by
 obtain⟨ps,rfl,rfl,hps⟩:=AT fz
 refine⟨p,ps,tlR H,2,3,rfl,hp,λx hx=>?_,by decide,λx hx=>?_,?_,by rw [Ln] at h64;exact h64,λD H' qs hD g e pm pw=>?_⟩
 ·obtain⟨t,_,e2,e3⟩:=hps x hx
  have er:tlR H x.1= [.str "says",.str "done",.int t.2.2]:=by unfold tlR;rw [e3];rfl
  rw [er]
  refine⟨by rw [e2];exact e3,rfl,λr hr=>?_⟩
  rcases List.mem_cons.mp hr with rfl | hr
  ·exact .inr ⟨_,rfl⟩
  ·rcases List.mem_cons.mp hr with rfl | hr
   ·exact .inr ⟨_,rfl⟩
   ·cases List.mem_singleton.mp hr;exact .inl ⟨_,rfl⟩
 ·obtain⟨t,_,e2,_⟩:=hps x hx
  rw [e2];rfl
 ·rw [LW] at nd
  have:=(List.pairwise_map.mp nd)
  refine this.imp λ{x y} h z=>h ?_
  show x.2.getD 1 0=y.2.getD 1 0
  rw [z]
 ·have hqs:=λx hx=>hps x (pm.mem_iff.mp hx)
  refine q D H' _ (qs.map (oT H)) hD g e (bi (Kt.of g) (lT λx hx=>by
   obtain⟨t,a,_,b⟩:=hqs x hx
   exact⟨t,a,b⟩)) (pm.map _) ?_
  rw [MR]
  refine List.Pairwise.imp_of_mem (λ{x y} hx hy h=>?_) pw
  obtain⟨t,a1,a2,_⟩:=hqs x hx
  obtain⟨u,b1,b2,_⟩:=hqs y hy
  rw [a1,b1]
  rw [a2,b2,HT.bC] at h
  by_cases c:t.1=u.1
  ·rw [RD c,HT.bC] at h
   by_cases c2:t.2.1=u.2.1
   ·rw [RD c2] at h;cases h
   ·rw [RC c2] at h;exact .inr ⟨c,of_decide_eq_true h⟩
  ·rw [RC c] at h;exact .inl (of_decide_eq_true h)
end
theorem DA(ts:List (Int×Int×Int)):SeqAt.shaped (.list (ts.map dS))=true:=by
 have a:∀ts:List (Int×Int×Int),Nq.canLayAll0 (ts.map dS)=true/\Nq.depthAll (ts.map dS)<=6:=by
  intro ts
  induction ts with
  | nil=>exact⟨rfl,by simp [Nq.depthAll]⟩
  | cons t ts ih=>
   refine⟨?_,?_⟩
   ·simp only [Ls,dS,row,bO,Nq.canLayAll0,Nq.canLay0,ih.1,show Nq.strOk "says" =true by decide,show Nq.strOk "done" =true by decide,Bool.and_true]
   ·have:=ih.2
    simp only [Ls,dS,row,bO,Nq.depthAll,Nq.depth]
    lia
 unfold SeqAt.shaped
 have e:Nq.canLay0 (.list (ts.map dS))=true:=by
  exact(a ts).1
 rw [e,Bool.true_and,decide_eq_true_eq]
 have:=(a ts).2
 simp only [Nq.depth]
 lia
theorem DB(ns:List Int):SeqAt.shaped (.list (ns.map .int))=true:=by
 have a:∀ns:List Int,Nq.canLayAll0 (ns.map .int)=true/\Nq.depthAll (ns.map .int)<=6:=by
  intro ns
  induction ns with
  | nil=>exact⟨rfl,by simp [Nq.depthAll]⟩
  | cons n ns ih=>
   refine⟨?_,?_⟩
   ·simp only [Ls,Nq.canLayAll0,Nq.canLay0,ih.1,Bool.and_true]
   ·have:=ih.2
    simp only [Ls,Nq.depthAll,Nq.depth]
    lia
 unfold SeqAt.shaped
 have e:Nq.canLay0 (.list (ns.map .int))=true:=by
  exact(a ns).1
 rw [e,Bool.true_and,decide_eq_true_eq]
 have:=(a ns).2
 simp only [Nq.depth]
 lia
theorem uU(ns:List Int):RpL K H (ns.map V.int) (ns.map .int):=by
 induction ns with
 | nil=>exact .nil
 | cons n ns ih=>exact .cons (.int n) ih
theorem at4(m:Int):∃d,(d=x\/d=y\/d=z\/d=u)/\atI [V.int x,V.int y,V.int z,V.int u] (m%4)=some (.int d):=by
 rcases (show m%4=0\/m%4=1\/m%4=2\/m%4=3 by lia) with e | e | e | e
 ·rw [e];exact⟨x,.inl rfl,rfl⟩
 ·rw [e];exact⟨y,.inr (.inl rfl),rfl⟩
 ·rw [e];exact⟨z,.inr (.inr (.inl rfl)),rfl⟩
 ·rw [e];exact⟨u,.inr (.inr (.inr rfl)),rfl⟩
def pX(K:MF):Sp:=spG (A:=Addr×Bool×List Int) (λa=>[.ref a.1,.bl a.2.1]) (λa H=>SqL K H a.1 (a.2.2.map V.int)) (λ_ H v H'=>Same H H'/\v= .bl true)
def odZ(ms ls:List Int):List Nq:=(ms.zip ls).map λp=>odD p.2 p.1
def hZ(ms ls:List Int)(i:Nat):List (Int×Int×Int):=(List.range i).map (oS ms ls)
theorem AU(h:ms.length=ls.length):odZ (ms++[m]) (ls++[l])=odZ ms ls++[odD l m]:=by
 unfold odZ
 rw [List.zip_append h,Lx];rfl
theorem pY{ms:List Int}(h:k<ms.length):(ms++[m]).getD k 0=ms.getD k 0:=by
 rw [Lv,Lv,LY h]
theorem pZ{ms:List Int}:(ms++[m]).getD ms.length 0=m:=by
 rw [Lv,List.getElem?_append_right (Nat.le_refl _),MI];rfl
theorem yK(h1:ms.length=i)(h2:ls.length=i):hZ (ms++[m]) (ls++[l]) (i+1)=hZ ms ls i++[(m+mx0 l,(i:Int)+1,l)]:=by
 unfold hZ
 rw [MV,Lx]
 congr 1
 ·refine Mt λk hk=>?_
  have hk:=List.mem_range.mp hk
  unfold oS
  rw [pY (by lia),pY (by lia)]
 ·show [oS _ _ _]=_
  unfold oS
  subst h1
  rw [pZ,show ms.length=ls.length from h2.symm,pZ]
theorem GG(h:ms.length<=1000):Sz 5 (.list (odZ ms ls)):=.list (by unfold odZ;rw [Ln,MW];lia) λx hx=>by
 obtain⟨m,_,rfl⟩:=List.mem_map.mp hx
 exact .tuple (by simp) (SzA.all ⟨.int _,.str _,.str _,.list (by simp) (SzA.all ⟨.int _,trivial⟩),trivial⟩)
theorem GH:frz (.list (odZ ms ls))= .tuple (((ms.zip ls).map λp=>Ot.start p.1 "main" [p.2]).map Ot.D):=by
 unfold frz odZ
 rw [hW,LW,LW]
 rfl
theorem uV(h:cB D H a=some o):a≠D/\H a=some o:=by
 unfold cB at h
 by_cases c:a=D
 ·rw [RD c] at h;cases h
 ·rw [RC c] at h;exact⟨c,h⟩
theorem sX(m:Mu H D o H'):Same (cB D (cB E H)) (cB D (cB E H')):=λa u h=>by
 obtain⟨n1,h⟩:=uV h
 obtain⟨n2,h⟩:=uV h
 exact bL n1 (bL n2 (m.old h n1))
structure OuW(K:MF)(po dl:Addr)(H0:Hp)(i:Nat)(ms ls:List Int)(mo:Int)(H':Hp):Prop where
 fr:∀a o,a≠po->a≠dl->H0 a=some o->H' a=some o
 li:∃vs,H' po=some (.lst vs)/\RpL K (cB dl (cB po H')) vs (odZ ms ls)/\vs.length=i
 ln:ms.length=i/\ls.length=i
 pw:ms.Pairwise (· <= ·)
 le:∀m∈ms,0<=m/\m<=mo
 mo:0<=mo/\mo<=12*i
 l0:∀l∈ls, -1<=l/\l<=1000000
 du:∃vd,H' dl=some (.lst vd)/\vd.length=i/\FzL K H' vd ((hZ ms ls i).map dS)
theorem OuW.snoc{mo:Int}(o:OuW K po dl H0 i ms ls mo H1)(ne:po≠dl)(g:Same H1 H2)(hm:mo<=m)(hM:m<=mo+12)(hL: -1<=L/\L<=1000000)(nt:H1 t=none)(nl:H1 l=none)(ht:H2 t=some (.tup [.int m,.str "start",.str "main",.ref l]))(hl:H2 l=some (.lst [.int L]))(hv:H1 po=some (.lst vs))(mu:Mu H2 po (.lst (vs++[.ref t])) H3)(g4:Same H3 H4)(nd:H3 d=none)(hd:H4 d=some (.tup [.int (m+mx0 L),.int ((i:Int)+1),.str "says",.str "done",.int L]))(hvd:H1 dl=some (.lst vd))(mu5:Mu H4 dl (.lst (vd++[.ref d])) H5):OuW K po dl H0 (i+1) (ms++[m]) (ls++[L]) m H5:=by
 have lo:=o.mo
 obtain⟨vs',e1,e2,e3⟩:=o.li
 rw [hv] at e1
 cases e1
 obtain⟨vd',d1,d2,d3⟩:=o.du
 rw [hvd] at d1
 cases d1
 have n1:t≠po:=λz=>by rw [z,hv] at nt;cases nt
 have n2:l≠po:=λz=>by rw [z,hv] at nl;cases nl
 have n3:t≠dl:=λz=>by rw [z,hvd] at nt;cases nt
 have n4:l≠dl:=λz=>by rw [z,hvd] at nl;cases nl
 have dl2:=mu.old (g _ _ hvd) ne.symm
 have dl4:=g4 _ _ dl2
 have kt:Kt H1 H5:=λc xs h=>mu5.old (g4 _ _ (mu.old (g _ _ h) λz=>by rw [z,hv] at h;cases h)) λz=>by rw [z,hvd] at h;cases h
 have nd5:d≠dl:=λz=>by rw [z,dl4] at hd;cases hd
 have SS:=((bW (bW g)).trans (bW (gD mu))).trans ((bW (bW g4)).trans (sX mu5))
 have S2:=(bW (gD mu)).trans ((bW (bW g4)).trans (sX mu5))
 refine⟨λa u na nd h=>mu5.old (g4 _ _ (mu.old (g _ _ (o.fr a u na nd h)) na)) nd,⟨_,mu5.old (g4 _ _ mu.at_) ne,?_,by rw [Lq,e3];rfl⟩,⟨by rw [Lq,o.ln.1];rfl,by rw [Lq,o.ln.2];rfl⟩,List.pairwise_append.mpr ⟨o.pw,LU _ _,λa ha b hb=>?_⟩,λx hx=>?_,by lia,λx hx=>?_,⟨_,mu5.at_,by rw [Lq,d2];rfl,?_⟩⟩
 ·rw [AU (by rw [o.ln.1,o.ln.2])]
  exact dO (RpL.mono SS e2) (.cons (.tup (S2 _ _ (bL n3 (bL n1 ht))) (.cons (.int _) (.cons (.str _) (.cons (.str _) (.cons (.lst (S2 _ _ (bL n4 (bL n2 hl))) (.cons (.int _) .nil)) .nil))))) .nil)
 ·cases List.mem_singleton.mp hb
  have:=o.le a ha;lia
 ·rcases List.mem_append.mp hx with hx | hx
  ·have:=o.le x hx;lia
  ·cases List.mem_singleton.mp hx;lia
 ·rcases List.mem_append.mp hx with hx | hx
  ·exact o.l0 x hx
  ·cases List.mem_singleton.mp hx;exact hL
 ·rw [yK o.ln.1 o.ln.2,Lx]
  exact dO (bi kt d3) (.cons (.tup (fh (mu5.old hd nd5)) (.cons (.int _) (.cons (.int _) (.cons (.str _) (.cons (.str _) (.cons (.int _) .nil)))))) .nil)
def WoI(K:MF)(sc:Addr)(hp:Bool)(xb u12 po dl:Addr)(H0:Hp)(i:Nat)(σ:L2.St)(H':Hp):Prop:=∃ms ls mo v7 v8,σ= [some (.ref sc),some (.bl hp),some (.ref xb),some (.ref u12),some (.ref po),some (.int mo),some (.ref dl),v7,v8,none,none]/\OuW K po dl H0 i ms ls mo H'
def SyP(K:MF)(lg:List Nq)(i:Nat)(ys:List V)(σ:L2.St)(H':Hp):Prop:=(∃v0,σ= [v0])/\FzL K H' ys ((lg.take i).filter jK)
section
variable{C:CA}{P:Np}{w:Nu}{K:MF}{mg:Str->Option Nk}{base:Heap}
theorem AV{α β:Type}{f:α->β}{l:List β}{l':List α}(h:l.Perm (l'.map f)):∃l'':List α,l=l''.map f/\l''.Perm l':=by
 generalize e:l'.map f=m at h
 induction h generalizing l' with
 | nil=>exact⟨[],rfl,by rw [List.map_eq_nil_iff.mp e]⟩
 | @cons x l1 l2 _ ih=>
  cases l' with
  | nil=>cases e
  | cons a r=>
   cases e
   obtain⟨r',e1,p1⟩:=ih rfl
   exact⟨a::r',by rw [e1];rfl,p1.cons a⟩
 | swap x y l1=>
  cases l' with
  | nil=>cases e
  | cons a r=>
   cases r with
   | nil=>cases e
   | cons b r=>
    cases e
    exact⟨b::a::r,rfl,.swap _ _ _⟩
 | trans _ _ ih1 ih2=>
  obtain⟨m1,e1,p1⟩:=ih2 e
  obtain⟨m2,e2,p2⟩:=ih1 e1.symm
  exact⟨m2,e2,p2.trans p1⟩
def MmP(lg:List Nq)(i:Nat)(ys:List V)(σ:L2.St)(_:Hp):Prop:=(∃v0,σ= [v0])/\ys=((lg.take i).map jJ).map V.int
theorem sY(el:H l=some (.lst vl))(fl:FzL K H vl lg)(s8:∀d∈lg,∃m n w ws,d=row m n (.str w::ws))(ln:lg.length<=1000)(q:∀D H',H D=none->Same H H'->H' D=some (.lst ((lg.map jJ).map V.int))->Q (.ref D) H'):gw (Itl K l) (ie 0) zj (tOp vz (iF 0) (tC (V.int 0))) [v] H Q:=by
 have big:100000<=Nm:=by unfold Nm;decide
 have lv:=bT fl
 refine eX el (by lia) (MmP lg) (λ_ _=>⟨⟨_,rfl⟩,rfl⟩) ?_ ?_
 ·rintro D' i x ys σ1 H1 hx at1 ⟨⟨v0,rfl⟩,rfl⟩
  obtain⟨d,edd,rv1⟩:=jh fl hx
  obtain⟨m,n',w',ws,rfl⟩:=s8 d (LC edd)
  have tk:=bY edd
  obtain⟨a,xs,rfl,ha,rx⟩:=dq rv1
  cases rx with
  | cons q1 rx=>
   cases q1
   have ha1:=at1.same _ _ ha
   have at1':=PLift.up at1
   symm
   refine at1'.down.put (λ_ _ h=>h) λH5 mu=>⟨⟨_,rfl⟩,?_⟩
   rw [tk,Lx,Lx]
   rfl
 ·rintro D1 ys σ1 H2 hD1 g2 hys _ ⟨_,rfl⟩
  rw [LH (by lia)] at hys
  exact q D1 H2 hD1 g2 hys
theorem wF(D:DefAt K mg "_law_waiters" je ["script","heap"])(Jk:OkD P w K mg base 1 "_law_stir" ["cell","k"] sT)(JJ:OkD P w K mg base 18 "_law_done" ["program","outer","heap"] (sU C K))(Ji:OkM P w K mg base 1 C.y "log" ["self"] (wx C K))(Jv:OkM P w K mg base 3 C.y "view" ["self"] (sS C K))(Jz:mg "sorted" =none)(IV:mg "len" =none)(Kk:mg "max" =none):OkD P w K mg base 19 "_law_waiters" ["script","heap"] (pX K):=by
 refine D.okG sc__law_waiters (λ_=>rfl) λa f cdv A outer s0 H Q E hr p q=>?_
 obtain⟨sc,hp,ns⟩:=a
 dsimp only at p q⊢
 have hu:=cJ hr
 have hu64:=hr.units
 have big:100000<=Nm:=by unfold Nm;decide
 refine⟨_,(aa (aQ 2 sc__law_waiters (aE (aD (au (bJ av ac (au (aD av av)))) (au (cg av ac av (au (aD av av))))))) (aa (aQ 3 sc__law_waiters (au (cg (aE a0) (aE a0) (aE a0) (aE (aG (au (bJ av (aE (aG av)) (pv 2)))))))) (aa (aQ 4 sc__law_waiters (aE a0)) (aa (aQ 5 sc__law_waiters ac) (aa (aQ 6 sc__law_waiters (aE a0)) (aa (cH NE.never rfl (bp (js zg (pv 0) nZ (iX ac))) (bw 7 sc__law_waiters) (aa (aQ 5 sc__law_waiters (az bc (pv 5) (az cI (aR Jk hr rfl (aD (pv 7) ac)) ac))) (aa (aQ 8 sc__law_waiters (az eN (az cI (aR Jk hr rfl (aD (pv 7) ac)) (aq (aE (cg ac ac ac (az wO ac ac))) (az cI (aR Jk hr rfl (aD (pv 7) ac)) ac))) ac)) (aa (aC (dv (pv 4) (au (cg (pv 5) av av (aE (aG (pv 8))))))) (ae (aC (dv (pv 6) (au (gJ (az bc (pv 5) (gc (jZ rfl) Kk (aD ac (pv 8)))) (cg (dY dE rfl IV NV (aG (pv 4))) av av (pv 8))))))))))) (aa (aQ 9 sc__law_waiters (aR JJ hr rfl (bJ (pv 3) (pv 4) (pv 1)))) (aa (l7 (i:=10) sc__law_waiters.nd rfl (Or.inl rfl) (fI 1 (N:=["row"]) (cap:=[]) rfl rfl rfl rfl (by decide) rfl rfl rfl) rfl (bp (bq Ji hr (pv 9))) (λ_ _ _ _=>(iR (i:=0) (show List.Nodup (α:=Str) ["row"] by decide) rfl (Or.inl (NI rfl)) (Or.inr (NI rfl)))) (λ_ _ _ _=>(uf (aO bz (aq (pv 0) ac) av))) (λ_ _ _ _=>(pv 0))) (aa (aJ (aO (mP hu64) (cQ 1 ["row"] [] (bp (bq Ji hr (pv 9))) (λn _ _ _ _=>(cY 0 n)) (λ_ _ _ _=>cc) (λ_ _ _ _=>(aq (pv 0) ac))) (gc (rm rfl) Jz (aG (cQ 1 ["row"] [] (bp (bq Ji hr (pv 9))) (λn _ _ _ _=>(cY 0 n)) (λ_ _ _ _=>cc) (λ_ _ _ _=>(aq (pv 0) ac)))))) (ae (ax cN)) aA) (ae (ax (iP (fK (mO hu64) (aq (bq Jv hr (pv 9)) ac) (aE a0)) (iP (fK (mO hu64) (gc (gN rfl) Jz (aG (pv 10))) (gc (gN rfl) Jz (aG (pv 6)))) (jU (fK bz (dY dE rfl IV NV (aG (bq Ji hr (pv 9)))) (az eP ac (dY dE rfl IV NV (aG (pv 4))))))))))))))))))),?_⟩
 symm
 intro x1 H1 nx1 gx1 ex1
 have zx1:=PLift.up ex1
 clear ex1
 try dsimp only
 symm
 intro x2 H2 nx2 gx2 ex2
 have zx2:=PLift.up ex2
 clear ex2
 try dsimp only
 symm
 intro x3 H3 nx3 gx3 ex3
 have zx3:=PLift.up ex3
 clear ex3
 try dsimp only
 symm
 intro x4 H4 nx4 gx4 ex4
 have zx4:=PLift.up ex4
 clear ex4
 try dsimp only
 symm
 intro xb H5 nxb gxb exb
 have zxb:=PLift.up exb
 clear exb
 try dsimp only
 symm
 intro u1 H6 nu1 gu1 eu1
 have zu1:=PLift.up eu1
 clear eu1
 try dsimp only
 symm
 intro u2 H7 nu2 gu2 eu2
 have zu2:=PLift.up eu2
 clear eu2
 try dsimp only
 symm
 intro u3 H8 nu3 gu3 eu3
 have zu3:=PLift.up eu3
 clear eu3
 try dsimp only
 symm
 intro u5 H9 nu5 gu5 eu5
 have zu5:=PLift.up eu5
 clear eu5
 try dsimp only
 symm
 intro u10 H10 nu10 gu10 eu10
 have zu10:=PLift.up eu10
 clear eu10
 try dsimp only
 symm
 intro u11 H11 nu11 gu11 eu11
 have zu11:=PLift.up eu11
 clear eu11
 try dsimp only
 symm
 intro u12 H12 nu12 gu12 eu12
 have zu12:=PLift.up eu12
 clear eu12
 try dsimp only
 symm
 intro po H13 npo gpo epo
 try dsimp only
 symm
 intro dl H14 ndl gdl edl
 have epo':=gdl _ _ epo
 have epoO:H13 po=some (.lst []):=epo
 clear epo
 try dsimp only
 symm
 have T12:Same H11 H12:=gu12
 have T11:=gu11.trans T12
 have T10:=gu10.trans T11
 have T9:=gu5.trans T10
 have T8:=gu3.trans T9
 have T7:=gu2.trans T8
 have T6:=gu1.trans T7
 have T5:=gxb.trans T6
 have T4:=gx4.trans T5
 have T3:=gx3.trans T4
 have T2:=gx2.trans T3
 have T1:=gx1.trans T2
 have ra:∀{x:Addr} {G:Hp},Same G H12->G x=some (.tup [.str "name",.str "a"])->Rp K H12 (.ref x) (.tuple [.str "name",.str "a"]):=λg h=>.tup (g _ _ h) (.cons (.str _) (.cons (.str _) .nil))
 have prg:PrgH K H12 u12 [] fM:=by
  refine⟨u1,u2,u3,u11,u10,u5,xb,[],[.tuple [.str "wait",.int 2,.tuple [.str "name",.str "a"]],.tuple [.str "say",.int 3,.str "done",.tuple [.str "name",.str "a"]]],zu12.down,T7 _ _ zu1.down,.nil,⟨by simp,.nil⟩,T8 _ _ zu2.down,T9 _ _ zu3.down,T12 _ _ zu11.down,T11 _ _ zu10.down,T10 _ _ zu5.down,?_,?_,rfl⟩
  ·exact .lst (T6 _ _ zxb.down) (.cons (.tup (T3 _ _ zx2.down) (.cons (.str _) (.cons (.int _) (.cons (ra T2 zx1.down) .nil)))) (.cons (.tup (T5 _ _ zx4.down) (.cons (.str _) (.cons (.int _) (.cons (.str _) (.cons (ra T4 zx3.down) .nil))))) .nil))
  ·exact .list (by simp) (SzA.all ⟨.tuple (by simp) (SzA.all ⟨.str _,.int _,.tuple (by simp) (SzA.all ⟨.str _,.str _,trivial⟩),trivial⟩),.tuple (by simp) (SzA.all ⟨.str _,.int _,.str _,.tuple (by simp) (SzA.all ⟨.str _,.str _,trivial⟩),trivial⟩),trivial⟩)
 have ne:po≠dl:=λz=>by rw [<-z,epoO] at ndl;cases ndl
 refine cE ?_
 simp only [bU]
 have hS14:=eB ((T1.trans gpo).trans gdl) p
 symm
 obtain⟨cs,lc,ec⟩:=wD ns
 refine⟨sc,_,rfl,hS14,λp22 H22 n22 g22 h22=>?_⟩
 rw [ec] at h22
 have h22':=PLift.up h22
 clear h22
 have epo22:=g22 _ _ epo'
 have edl22:=g22 _ _ edl
 have np22:p22≠po:=λz=>by rw [z,epo'] at n22;cases n22
 have nd22:p22≠dl:=λz=>by rw [z,edl] at n22;cases n22
 symm
 refine⟨⟨_,SqL.of h22'.down⟩,dD (xs:=cs.map V.int) (WoI K sc hp xb u12 po dl H22) ⟨[],[],0,none,none,rfl,λ_ _ _ _ h=>h,⟨[],epo22,.nil,rfl⟩,⟨rfl,rfl⟩,.nil,λm hm=>absurd hm Lr,by lia,λm hm=>absurd hm Lr,[],edl22,rfl,.nil⟩ (λi σ H' _ z=>?_) ?_ ?_⟩
 ·obtain⟨ms,ls,mo,v7,v8,_,o⟩:=z
  exact SqL.of (o.fr _ _ np22 nd22 h22'.down)
 ·rintro i x σ H23 hx ⟨ms,ls,mo,v7,v8,rfl,o⟩
  obtain⟨c,rfl⟩:∃c,x=V.int c:=by
   obtain⟨c,_,e⟩:=List.mem_map.mp (LC hx)
   exact⟨c,e.symm⟩
  have hi:=(List.getElem?_eq_some_iff.mp hx).1
  rw [Ln] at hi
  clear hx
  obtain⟨vs,ev,_,lv⟩:=o.li
  obtain⟨vd,ed,ld,_⟩:=o.du
  symm
  refine⟨c,7,rfl,by decide,by decide,λm7 a7 b7=>?_⟩
  have r0:=Mg m7 (show(9:Int)≠0 by decide)
  have r1:=L4 m7 (show(0:Int)<9 by decide)
  have em':mo<=mo+m7%9/\mo+m7%9<=mo+12:=by lia
  symm
  refine⟨c,8,rfl,by decide,by decide,λm8 a8 b8=>?_⟩
  symm
  intro l5 H24 n24 g24 e24
  symm
  refine⟨c,9,rfl,by decide,by decide,λm9 a9 b9=>?_⟩
  obtain⟨d,hd,ea⟩:=at4 (x:=1) (y:=5) (z:=50) (u:=1000000) m9
  symm
  have d0:0<d:=by lia
  have r2:=Mg m8 (show d≠0 by lia)
  have r3:=L4 m8 d0
  refine⟨d0,?_⟩
  dsimp only
  have hL: -1<=m8%d-1/\m8%d-1<=1000000:=by lia
  have ev24:=g24 _ _ ev
  have ed24:=g24 _ _ ed
  clear ea e24 hd r0 r1 r2 r3 d0
  symm
  intro l6 H25 n25 g25 e25
  have ev25:=g25 _ _ ev24
  have e25':=PLift.up e25
  clear e25 ev24
  symm
  intro t6 H26 n26 g26 e26
  have ev26:=g26 _ _ ev25
  have e26':=PLift.up e26
  clear e26 ev25
  symm
  refine⟨by lia,λH27 m27=>?_⟩
  have e27:=m27.at_
  have ed27:=m27.old (g26 _ _ (g25 _ _ ed24)) ne.symm
  clear ev26 ed24
  symm
  intro d6 H28 n28 g28 e28
  have ed28:=g28 _ _ ed27
  have e28':=PLift.up e28
  clear e28 e27
  symm
  refine⟨by lia,λH29 m29=>?_⟩
  have e6:H28 d6=some (.tup [.int (mo+m7%9+mx0 (m8%d-1)),.int ((i:Int)+1),.str "says",.str "done",.int (m8%d-1)]):=by
   rw [e28'.down]
   show some (HO.tup [V.int (mo+m7%9+mx0 (m8%d-1)),V.int (((vs++[V.ref t6]).length:Nat):Int),_,_,V.int (m8%d-1)])=_
   rw [Lq,lv]
   rfl
  exact⟨ms++[mo+m7%9],ls++[m8%d-1],_,_,_,rfl,o.snoc ne ((g24.trans g25).trans g26) em'.1 em'.2 hL ((g24.trans g25).free n26) (g24.free n25) e26'.down (g26 _ _ e25'.down) ev m27 g28 n28 e6 ed m29⟩
 ·rintro σ H23 ⟨ms,ls,mo,v7,v8,rfl,o⟩
  rw [Ln] at o
  obtain⟨vo,ev,rv,lv⟩:=o.li
  obtain⟨vd,ed,ld,fd⟩:=o.du
  obtain⟨lms,lls⟩:=o.ln
  have omo:=o.mo
  have S23:Same H12 H23:=λc u h=>o.fr c u (λz=>by rw [z,npo] at h;cases h) (λz=>by rw [z,gpo.free ndl] at h;cases h) (g22 _ _ (gdl _ _ (gpo _ _ h)))
  have S:Wh ms ls:=⟨by lia,by lia,BK o.pw,wC (λm hm=>by have:=o.le m hm;lia) (by lia),wC (λl hl=>o.l0 l hl) (by lia)⟩
  have ou:Rp K H23 (.ref po) (.list (odZ ms ls)):=.lst ev (RpL.mono (hide_le.trans hide_le) rv)
  have prg23:=prg.mono S23
  symm
  refine⟨⟨u12,po,hp,[],fM,(ms.zip ls).map λ(p:Int×Int)=>Ot.start p.1 "main" [p.2],odZ ms ls,WhI ms ls,160⟩,rfl,⟨prg23,ou,GG (by lia),GH,wA S,λn s I=>yH S I⟩,λv H24 w=>?_⟩
  obtain⟨g24,c,s,tg,n,rfl,Y,I,en,nw⟩:=w
  obtain⟨s1,s2,s3,s4,s5,s6,s7,s8,s9,s10⟩:=AQ S I en
  have h0:=Y.obj
  symm
  refine br ?_
  simp only [bU]
  symm
  refine⟨⟨_,c,s,tg⟩,rfl,Y,λv H25 w=>?_⟩
  obtain⟨rl,vl,rfl,nrl,g25,el,fl⟩:=w
  dsimp only at fl
  have ln:vl.length=s.lg.length:=bT fl
  symm
  refine⟨⟨_,SqL.of el⟩,eX el (by lia) (SyP K s.lg) (λ_ _=>⟨⟨_,rfl⟩,.nil⟩) ?_ ?_⟩
  ·rintro D' i x ys σ1 H1 hx at1 ⟨⟨v0,rfl⟩,t3⟩
   obtain⟨d,edd,rv1⟩:=jh fl hx
   obtain⟨m,n',w',ws,rfl⟩:=s8 d (LC edd)
   have tk:=bY edd
   obtain⟨a,xs,rfl,ha,rx⟩:=dq rv1
   cases rx with
   | cons q1 rx=>cases rx with
    | cons q2 rx=>cases rx with
     | cons q3 rx=>
      cases q1;cases q2;cases q3
      have ha1:=at1.same _ _ ha
      have lD:=at1.lst
      have at1':=PLift.up at1
      clear at1 hx edd
      symm
      by_cases cw:w'= "says"
      ·subst cw
       refine ce rfl ?_
       symm
       refine at1'.down.put (λ_ _ h=>h) λH5 mu=>⟨⟨_,rfl⟩,?_⟩
       have kt:Kt H1 H5:=λc' xs h=>mu.old h λz=>by rw [z,lD] at h;cases h
       rw [tk,LZ,LP (by rw [pU];rfl)]
       exact dO (bi kt t3) (.cons (bj ((Kt.of at1'.down.same).trans kt) rv1) .nil)
      ·refine bH (by simpa using cw) ?_
       refine at1'.down.skip (λ_ _ h=>h) ⟨⟨_,rfl⟩,?_⟩
       rw [tk,LZ,LJ (by rw [pU];simpa using cw)]
       rw [List.filter_nil,LQ]
       exact t3
  ·rintro D1 ys σ1 H26 hD1 g26 hys _ ⟨_,t3⟩
   rw [LH (by lia)] at t3
   have Y26:=(Y.same g25).same g26
   have h026:=Y26.obj
   clear h0
   symm
   refine br ?_
   simp only [bU]
   symm
   refine⟨⟨_,c,s,tg⟩,rfl,Y26,λv H27 w=>?_⟩
   obtain⟨r7,v7',rfl,n7,g27,e7,f7⟩:=w
   dsimp only at f7
   symm
   refine⟨⟨_,SqL.of e7⟩,sY e7 f7 s8 (by lia) λD2 H28 n28 g28 e28=>?_⟩
   have Y28:=(Y26.same g27).same g28
   have h028:=Y28.obj
   clear h026
   refine br ?_
   simp only [bU]
   symm
   refine⟨⟨_,c,s,tg⟩,rfl,Y28,λv H29 w=>?_⟩
   obtain⟨r9,v9',rfl,n9,g29,e9,f9⟩:=w
   dsimp only at f9
   symm
   refine⟨⟨_,SqL.of e9⟩,sY e9 f9 s8 (by lia) λD3 H30 n30 g30 e30=>?_⟩
   refine⟨D3,rfl,s.lg.map jJ,trivial,e30,s9,by rw [Ln];lia,λD4 H31 n31 g31 e31=>?_⟩
   try dsimp only
   refine kY (.lst (((g29.trans g30).trans g31) _ _ e28) (uU _)) (.lst e31 (uU _)) (DB _) ?_
   have Y31:=((Y28.same g29).same g30).same g31
   have h031:=Y31.obj
   have S2631:Same H26 H31:=((((g27.trans g28).trans g29).trans g30).trans g31)
   clear h028
   symm
   refine⟨⟨_,c,s,tg⟩,rfl,⟨Y31,s1,s2,s3,s4,by dsimp only;rw [s6];exact λp hp=>absurd hp Lr,by dsimp only;rw [s6];decide⟩,λv H32 w=>?_⟩
   obtain⟨g32,r,l1,l2,l3,l4,l5,rfl,er,e1,rl2,e3,e4,e5⟩:=w
   dsimp only at er rl2
   symm
   intro q9 G9 m9 k9 f9
   symm
   refine kZ (.lst (k9 _ _ e1) .nil) (.lst f9 .nil) rfl ?_
   have S269:=(S2631.trans g32).trans k9
   have S239:=((g24.trans g25).trans g26).trans S269
   rw [lms.symm] at fd
   have s10':(s.lg.filter jK).Perm ((hZ ms ls ms.length).map dS):=by
    have e:((List.range ms.length).map λ(k:Nat)=>due ms ls ((k:Int)+1))=(hZ ms ls ms.length).map dS:=by
     unfold hZ
     rw [LW]
     exact Mt λk _=>(AS ms ls k).symm
    rw [<-e]
    exact s10
   obtain⟨ts1,et1,pm1⟩:=AV s10'
   have nd0:((hZ ms ls ms.length).map (·.2.1)).Nodup:=by
    unfold hZ
    rw [LW]
    refine(List.nodup_range).map (f:=λk:Nat=>((k:Int)+1)) λa b h z=>h (by lia)
   have l0:(hZ ms ls ms.length).length=ms.length:=by unfold hZ;rw [Ln,List.length_range]
   have t9:=bi (Kt.of S269) t3
   rw [et1] at t9
   have lp1:=pm1.length_eq
   symm
   refine pW (S269 _ _ hys) t9 ((pm1.map _).nodup_iff.mpr nd0) (by lia) λD5 H33 vs5 ts5 n33 g33 e33 f33 pm5 pw5=>?_
   symm
   refine pW ((S239.trans g33) _ _ ed) (bi (Kt.of (S239.trans g33)) fd) nd0 (by lia) λD6 H34 vs6 ts6 n34 g34 e34 f34 pm6 pw6=>?_
   cases pV ((pm5.trans pm1).trans pm6.symm) pw5 pw6
   symm
   refine kZ (.lst (g34 _ _ e33) (RpL.mono (tp_same.trans g34) f33)) (.lst e34 (RpL.mono tp_same f34)) (DA _) ?_
   have Y34:=(((Y31.same g32).same k9).same g33).same g34
   have h034:=Y34.obj
   clear h031
   symm
   refine⟨⟨_,c,s,tg⟩,rfl,Y34,λv H35 w=>?_⟩
   obtain⟨r5,v5',rfl,n5,g35,e5',f5⟩:=w
   dsimp only at f5
   have lf:v5'.length=4*ms.length:=by rw [<-s7];exact bT f5
   have SF:=(S239.trans g33).trans (g34.trans g35)
   have ev35:=SF _ _ ev
   have fin:=q _ _ ⟨((T1.trans S23).trans SF),rfl⟩
   symm
   rw [decide_eq_true (by lia)]
   exact fin
end
section
variable{P:Np}{w:Nu}{K:MF}{mg:Str->Option Nk}{base:Heap}
theorem GI(F:Fun K "law" "law" v9 fa fd)(Ki:OkD P w K mg base 19 "_law_shop" ["script","heap"] (yJ K))(J4:OkD P w K mg base 19 "_law_waiters" ["script","heap"] (pX K)):d9 P w K mg base CX0 20 fa fd ["script"] (vA K):=by
 refine F.ok xW (λvs H Q E h=>?_) (λcdv A outer s H vs Q E hr h=>?_)
 ·obtain⟨a,ns,rfl,_⟩:=h;rfl
 obtain⟨a,ns,rfl,hS,h63,q⟩:=h
 refine⟨_,(aa (Cb NE.never rfl (aE (aD cN cN)) (bw 1 xW) (ae (aJ (PW.pt (AZ (jT (fN (aR Ki hr rfl (aD (pvM 0) (pvM 1))))) (wM (jT (fN (aR J4 hr rfl (aD (pvM 0) (pvM 1)))))))) (ae (ax cN)) aA))) (ae (ax cN))),?_⟩
 symm
 intro l1 H1 n1 g1 e1
 symm
 refine⟨(a,false,ns),rfl,eB g1 hS,λv H2 w2=>?_⟩
 obtain⟨g2,rfl⟩:=w2
 symm
 refine⟨(a,false,ns),rfl,eB (g1.trans g2) hS,λv H3 w3=>?_⟩
 obtain⟨g3,rfl⟩:=w3
 have e3:=(g2.trans g3) _ _ e1
 symm
 refine⟨(a,true,ns),rfl,eB ((g1.trans g2).trans g3) hS,λv H4 w4=>?_⟩
 obtain⟨g4,rfl⟩:=w4
 symm
 refine⟨(a,true,ns),rfl,eB (((g1.trans g2).trans g3).trans g4) hS,λv H5 w5=>?_⟩
 obtain⟨g5,rfl⟩:=w5
 have e5:=(g4.trans g5) _ _ e3
 symm
end
end K34
namespace K34
open PySem L2 PySem.W
abbrev Cc(K:MF):CA:=⟨HD.adr K "ListAgenda",HD.adr K "HeapAgenda",HD.adr K "Goods",HD.adr K "Tool",HD.adr K "Store",HD.adr K "PlainYard",HD.adr K "Hand"⟩
def hadL:List (Str×Str):=[("take","takes"),("put","puts"),("get","gets")]
def AW(K:MF)(C:Addr):Bool:=match OT K (.ref C) with
 | some (.type t)=>t== "type"
 | _=>false
theorem DC{K:MF}{C:Addr}(h:AW K C=true):OT K (.ref C)=some (.type "type"):=by
 unfold AW at h
 split at h
 ·rename_i t e;rw [e,beq_iff_eq.mp h]
 ·cases h
def AX(K:MF):Bool:=match nsIn K Pg "thirdparty.any" with
 | some none=>true
 | _=>false
theorem DE{K:MF}(h:AX K=true):nsIn K Pg "thirdparty.any" =some none:=by
 unfold AX at h
 split at h
 ·assumption
 ·cases h
def wG(K:MF)(a b:Addr):Bool:=match No K (.ref a) (.ref b) with
 | some true=>true
 | _=>false
theorem AY{K:MF}{a b:Addr}(h:wG K a b=true):No K (.ref a) (.ref b)=some true:=by
 unfold wG at h
 split at h
 ·assumption
 ·cases h
theorem DF{K:MF}{mg:Str->Option Nk}{x q:Str}{st:Stmt}{ps:List Str}{C:Addr}(h:mg x=some (.ref C))(ty:OT K (.ref C)=some (.type "type"))(op:nsIn K Pg "thirdparty.any" =some none)(M:MethAt K C "__init__" q st ps):InitAt K mg x st q ps:=by
 obtain⟨f,fd,h1,h2,h3⟩:=M.ex
 exact⟨C,f,fd,h,ty,op,h1,h2,h3⟩
end K34
namespace K34
open PySem L2
def sees:List Nat:=[5,6,7,9,10,11,14,15,16,18,29,30,31,32,35,36,41,42,43,46,47,48,49,50,51]
def mets:List (Str×Str×Nat):=[("Tool","Tool.__init__",2),("Goods","Goods.__init__",4),("Hand","Hand.__init__",24),("ListAgenda","ListAgenda.__init__",27),("HeapAgenda","HeapAgenda.__init__",28),("PlainYard","PlainYard.__init__",40)]
abbrev mq(a b c:Str)(i j:Nat):Str×Str×Str×Nat×Nat:=(a,b,c,i,j)
def mths:List (Str×Str×Str×Nat×Nat):=[mq "Goods" "take" "Goods.take" 4 1,mq "Goods" "give" "Goods.give" 4 2,mq "Goods" "leave" "Goods.leave" 4 6,mq "Goods" "tools" "Goods.tools" 4 7,mq "Goods" "stores" "Goods.stores" 4 8,mq "ListAgenda" "put" "ListAgenda.put" 27 1,mq "HeapAgenda" "put" "HeapAgenda.put" 28 1,mq "ListAgenda" "first" "ListAgenda.first" 27 2,mq "HeapAgenda" "first" "HeapAgenda.first" 28 2,mq "ListAgenda" "take" "ListAgenda.take" 27 3,mq "HeapAgenda" "take" "HeapAgenda.take" 28 3,mq "ListAgenda" "in_order" "ListAgenda.in_order" 27 4,mq "HeapAgenda" "in_order" "HeapAgenda.in_order" 28 4,mq "PlainYard" "next_moment" "Yard.next_moment" 25 1,mq "PlainYard" "outer_is_next" "Yard.outer_is_next" 25 2,mq "PlainYard" "step" "Yard.step" 25 3,mq "PlainYard" "do_outer" "Yard.do_outer" 25 4,mq "PlainYard" "log" "Yard.log" 25 7,mq "PlainYard" "end" "Yard.end" 25 9,mq "PlainYard" "view" "Yard.view" 25 10,mq "PlainYard" "lay" "Yard.lay" 25 13,mq "PlainYard" "wake" "Yard.wake" 25 14,mq "PlainYard" "begin" "Yard.begin" 25 15,mq "PlainYard" "end_hand" "Yard.end_hand" 25 16,mq "PlainYard" "lay_given" "Yard.lay_given" 25 17,mq "PlainYard" "enter_statement" "Yard.enter_statement" 25 18,mq "PlainYard" "deed" "Yard.deed" 25 20,mq "PlainYard" "wait" "Yard.wait" 25 21,mq "PlainYard" "ask" "Yard.ask" 25 22,mq "PlainYard" "give" "Yard.give" 25 23,mq "PlainYard" "go_on" "PlainYard.go_on" 40 1,mq "PlainYard" "do" "PlainYard.do" 40 2,mq "PlainYard" "reckon" "PlainYard.reckon" 40 3,mq "Yard" "__init__" "Yard.__init__" 25 0]
noncomputable def see(p:Np)(K:MF):=(sees.map λi=>HD.i7 K (p.main.body.getD i (.Pass ⟨0,0,0,0⟩)),HD.All [HD.eZ K "len",
 HD.eZ K "min",
 HD.eZ K "max",
 HD.eZ K "range",
 HD.eZ K "list",
 HD.eZ K "dict",
 HD.eZ K "sorted",
 HD.eZ K "sum",
 HD.eZ K "tuple",
 HD.eZ K "isinstance",
 HD.eZ K "enumerate",
 HD.eZ K "zip",
 HD.isInt K "MOST_STATEMENTS" (100),
 HD.isInt K "MOST_HANDS" (60),
 HD.isInt K "MOST_HAPPENINGS" (500),
 HD.fJ K "Tool",
 HD.eC K (HD.adr K "Tool") ["free","held","queue"],
 HD.fJ K "Goods",
 HD.eC K (HD.adr K "Goods") ["by_tool","by_store"],
 HD.fJ K "Hand",
 HD.eC K (HD.adr K "Hand") ["number","name","row","known"],
 HD.fJ K "ListAgenda",
 HD.eC K (HD.adr K "ListAgenda") ["things"],
 HD.fJ K "HeapAgenda",
 HD.eC K (HD.adr K "HeapAgenda") ["heap","turn"],
 HD.fJ K "PlainYard",
 HD.eC K (HD.adr K "PlainYard") ["names","drawn","places","outer","outer_done","agenda","goods","hands","begun","now","happenings","statements","laid","stopped","bodies"],
 HD.fJ K "Yard",
 AW K (HD.adr K "Yard"),
 AX K,
 wG K (HD.adr K "PlainYard") (HD.adr K "Yard"),
 HD.fJ K "HAD",
 !(HD.adr K "HAD" ==NX)],
 mets.map λx=>HD.kR K (HD.adr K x.1) "__init__" x.2.1,
 mths.map λx=>HD.oy K (HD.adr K x.1) x.2.1 x.2.2.1,
 HD.ox K (HD.adr K "HAD"))
noncomputable def saw(p:Np)(w:Nu):=(sees.map λi=>HD.eY (HD.cr (p.main.body.getD i (.Pass ⟨0,0,0,0⟩))) (HD.cr (p.main.body.getD i (.Pass ⟨0,0,0,0⟩))) (p.main.body.getD i (.Pass ⟨0,0,0,0⟩)),true,
 (mets.map λx=>HD.eY "__init__" x.2.1 (aH (p.main.body.getD x.2.2 (.Pass ⟨0,0,0,0⟩)) 0):List HD.gQ),
 (mths.map λx=>HD.eY x.2.1 x.2.2.1 (aH (p.main.body.getD x.2.2.2.1 (.Pass ⟨0,0,0,0⟩)) x.2.2.2.2):List HD.gQ),
 (some (Nk.type "dict",none, #[],hadL.map λp=>(qH w (.inr p.1),some p.1,some p.2)):Option (Nk×Option Addr×Array (Option Nk)×List (Int×Option Str×Option Str))))
local macro_rules
| `(tactic| walk_at "b1") => `(tactic| exact fun _ _ _ _ _ _ us hl => L2.len1 us hl (fun _ => rfl))
| `(tactic| walk_at "b2") => `(tactic| exact fun _ _ _ _ _ _ us hl => L2.len2 us hl (fun _ _ => rfl))
| `(tactic| walk_at "b3") => `(tactic| exact fun _ _ _ _ _ _ us hl => L2.len3 us hl (fun _ _ _ => rfl))
| `(tactic| walk_at "b4") => `(tactic| exact fun _ _ _ _ _ _ us hl => L2.len4 us hl (fun _ _ _ _ => rfl))
| `(tactic| walk_at "b5") => `(tactic| exact fun _ _ _ _ _ _ us hl => L2.len5 us hl (fun _ _ _ _ _ => rfl))
theorem GJ{l:Ra}{w:Nu}{K:MF}{h:Heap}{mg:Str->Option Nk}{fa:Addr}(S:see PySem.Challenge.pw_rerunyard_k34_waits_and_queues_known K=saw PySem.Challenge.pw_rerunyard_k34_waits_and_queues_known w)(X:K.In h)(G:h.Ns Ny mg)(hfa:mg "law" =some (.ref fa)):
 ∃fd:P1,(∀(s:Nn) (v:Nk),P8 s fd ⟨[v],[]⟩ [("script",v)])/\∀base:Heap,K.In base->base.Ns Ny mg->d9 l.prog w K mg base CX0 20 fa fd ["script"] (vA K):=by
 have E:=congrArg Prod.fst S
 have B:=congrArg (λx=>x.2.1) S
 have C:=congrArg (λx=>x.2.2.1) S
 have D:=congrArg (λx=>x.2.2.2.1) S
 have C40:=congrArg (λx=>x.2.2.2.2) S
 obtain⟨C0,C⟩:=HD.aw C
 obtain⟨C1,C⟩:=HD.aw C
 obtain⟨C2,C⟩:=HD.aw C
 obtain⟨C3,C⟩:=HD.aw C
 obtain⟨C4,C⟩:=HD.aw C
 obtain⟨C5,C⟩:=HD.aw C
 obtain⟨C6,D⟩:=HD.aw D
 obtain⟨C7,D⟩:=HD.aw D
 obtain⟨C8,D⟩:=HD.aw D
 obtain⟨C9,D⟩:=HD.aw D
 obtain⟨C10,D⟩:=HD.aw D
 obtain⟨C11,D⟩:=HD.aw D
 obtain⟨C12,D⟩:=HD.aw D
 obtain⟨C13,D⟩:=HD.aw D
 obtain⟨C14,D⟩:=HD.aw D
 obtain⟨C15,D⟩:=HD.aw D
 obtain⟨C16,D⟩:=HD.aw D
 obtain⟨C17,D⟩:=HD.aw D
 obtain⟨C18,D⟩:=HD.aw D
 obtain⟨C19,D⟩:=HD.aw D
 obtain⟨C20,D⟩:=HD.aw D
 obtain⟨C21,D⟩:=HD.aw D
 obtain⟨C22,D⟩:=HD.aw D
 obtain⟨C23,D⟩:=HD.aw D
 obtain⟨C24,D⟩:=HD.aw D
 obtain⟨C25,D⟩:=HD.aw D
 obtain⟨C26,D⟩:=HD.aw D
 obtain⟨C27,D⟩:=HD.aw D
 obtain⟨C28,D⟩:=HD.aw D
 obtain⟨C29,D⟩:=HD.aw D
 obtain⟨C30,D⟩:=HD.aw D
 obtain⟨C31,D⟩:=HD.aw D
 obtain⟨C32,D⟩:=HD.aw D
 obtain⟨C33,D⟩:=HD.aw D
 obtain⟨C34,D⟩:=HD.aw D
 obtain⟨C35,D⟩:=HD.aw D
 obtain⟨C36,D⟩:=HD.aw D
 obtain⟨C37,D⟩:=HD.aw D
 obtain⟨C38,D⟩:=HD.aw D
 obtain⟨C39,D⟩:=HD.aw D
 clear S
 obtain⟨e1,E⟩:=HD.aw E
 obtain⟨e2,E⟩:=HD.aw E
 obtain⟨e3,E⟩:=HD.aw E
 obtain⟨e4,E⟩:=HD.aw E
 obtain⟨e5,E⟩:=HD.aw E
 obtain⟨e6,E⟩:=HD.aw E
 obtain⟨e7,E⟩:=HD.aw E
 obtain⟨e8,E⟩:=HD.aw E
 obtain⟨e9,E⟩:=HD.aw E
 obtain⟨e10,E⟩:=HD.aw E
 obtain⟨e11,E⟩:=HD.aw E
 obtain⟨e12,E⟩:=HD.aw E
 obtain⟨e13,E⟩:=HD.aw E
 obtain⟨e14,E⟩:=HD.aw E
 obtain⟨e15,E⟩:=HD.aw E
 obtain⟨e16,E⟩:=HD.aw E
 obtain⟨e17,E⟩:=HD.aw E
 obtain⟨e18,E⟩:=HD.aw E
 obtain⟨e19,E⟩:=HD.aw E
 obtain⟨e20,E⟩:=HD.aw E
 obtain⟨e21,E⟩:=HD.aw E
 obtain⟨e22,E⟩:=HD.aw E
 obtain⟨e23,E⟩:=HD.aw E
 obtain⟨e24,E⟩:=HD.aw E
 obtain⟨e,E⟩:=HD.aw E
 obtain⟨fd,FL,hbi⟩:=HD.Cy (st:=v9) (x:="law") (y:="script") X G e rfl hfa λ_ _ _ _ _ _ s v=>.of_eq rfl
 clear E
 obtain⟨b,B⟩:=HD.all_cons B
 have IV:=HD.dZ X G b
 obtain⟨b,B⟩:=HD.all_cons B
 have KY:=HD.dZ X G b
 obtain⟨b,B⟩:=HD.all_cons B
 have Kk:=HD.dZ X G b
 obtain⟨b,B⟩:=HD.all_cons B
 have J8:=HD.dZ X G b
 obtain⟨b,B⟩:=HD.all_cons B
 have Jq:=HD.dZ X G b
 obtain⟨b,B⟩:=HD.all_cons B
 have JB:=HD.dZ X G b
 obtain⟨b,B⟩:=HD.all_cons B
 have Jz:=HD.dZ X G b
 obtain⟨b,B⟩:=HD.all_cons B
 have K1:=HD.dZ X G b
 obtain⟨b,B⟩:=HD.all_cons B
 have JI:=HD.dZ X G b
 obtain⟨b,B⟩:=HD.all_cons B
 have Jr:=HD.dZ X G b
 obtain⟨b,B⟩:=HD.all_cons B
 have Km:=HD.dZ X G b
 obtain⟨b,B⟩:=HD.all_cons B
 have KZ:=HD.dZ X G b
 obtain⟨b,B⟩:=HD.all_cons B
 obtain⟨KU,Ks⟩:=HD.rN X G b
 obtain⟨b,B⟩:=HD.all_cons B
 obtain⟨Lc,KN⟩:=HD.rN X G b
 obtain⟨b,B⟩:=HD.all_cons B
 obtain⟨KW,Ku⟩:=HD.rN X G b
 obtain⟨b,B⟩:=HD.all_cons B
 have Ld:=HD.fR b
 obtain⟨b,B⟩:=HD.all_cons B
 obtain⟨IT,K5,K6,KA⟩:=HD.i8 b
 have Ja:NoAttr K (HD.adr K "Tool") "free":=KA "free" (by simp)
 have Jb:NoAttr K (HD.adr K "Tool") "held":=KA "held" (by simp)
 have IZ:NoAttr K (HD.adr K "Tool") "queue":=KA "queue" (by simp)
 obtain⟨b,B⟩:=HD.all_cons B
 have K7:=HD.fR b
 obtain⟨b,B⟩:=HD.all_cons B
 obtain⟨IY,K2,K3,KM⟩:=HD.i8 b
 have IS:NoAttr K (HD.adr K "Goods") "by_tool":=KM "by_tool" (by simp)
 have Jt:NoAttr K (HD.adr K "Goods") "by_store":=KM "by_store" (by simp)
 obtain⟨b,B⟩:=HD.all_cons B
 have Le:=HD.fR b
 obtain⟨b,B⟩:=HD.all_cons B
 obtain⟨IM,K8,K9,Kr⟩:=HD.i8 b
 have ID:NoAttr K (HD.adr K "Hand") "number":=Kr "number" (by simp)
 have Jw:NoAttr K (HD.adr K "Hand") "name":=Kr "name" (by simp)
 have Jl:NoAttr K (HD.adr K "Hand") "row":=Kr "row" (by simp)
 have Jx:NoAttr K (HD.adr K "Hand") "known":=Kr "known" (by simp)
 obtain⟨b,B⟩:=HD.all_cons B
 have KO:=HD.fR b
 obtain⟨b,B⟩:=HD.all_cons B
 obtain⟨IN,KB,KC,KE⟩:=HD.i8 b
 have IJ:NoAttr K (HD.adr K "ListAgenda") "things":=KE "things" (by simp)
 obtain⟨b,B⟩:=HD.all_cons B
 have KP:=HD.fR b
 obtain⟨b,B⟩:=HD.all_cons B
 obtain⟨IG,KF,KG,Ko⟩:=HD.i8 b
 have II:NoAttr K (HD.adr K "HeapAgenda") "heap":=Ko "heap" (by simp)
 have Jh:NoAttr K (HD.adr K "HeapAgenda") "turn":=Ko "turn" (by simp)
 obtain⟨b,B⟩:=HD.all_cons B
 have KS:=HD.fR b
 obtain⟨b,B⟩:=HD.all_cons B
 obtain⟨IC,KQ,KR,I0⟩:=HD.i8 b
 have Js:NoAttr K (HD.adr K "PlainYard") "names":=I0 "names" (by simp)
 have JQ:NoAttr K (HD.adr K "PlainYard") "drawn":=I0 "drawn" (by simp)
 have Jp:NoAttr K (HD.adr K "PlainYard") "places":=I0 "places" (by simp)
 have IU:NoAttr K (HD.adr K "PlainYard") "outer":=I0 "outer" (by simp)
 have IK:NoAttr K (HD.adr K "PlainYard") "outer_done":=I0 "outer_done" (by simp)
 have IE:NoAttr K (HD.adr K "PlainYard") "agenda":=I0 "agenda" (by simp)
 have IQ:NoAttr K (HD.adr K "PlainYard") "goods":=I0 "goods" (by simp)
 have IP:NoAttr K (HD.adr K "PlainYard") "hands":=I0 "hands" (by simp)
 have IW:NoAttr K (HD.adr K "PlainYard") "begun":=I0 "begun" (by simp)
 have IH:NoAttr K (HD.adr K "PlainYard") "now":=I0 "now" (by simp)
 have IX:NoAttr K (HD.adr K "PlainYard") "happenings":=I0 "happenings" (by simp)
 have IR:NoAttr K (HD.adr K "PlainYard") "statements":=I0 "statements" (by simp)
 have Je:NoAttr K (HD.adr K "PlainYard") "laid":=I0 "laid" (by simp)
 have IF:NoAttr K (HD.adr K "PlainYard") "stopped":=I0 "stopped" (by simp)
 have Jo:NoAttr K (HD.adr K "PlainYard") "bodies":=I0 "bodies" (by simp)
 obtain⟨b,B⟩:=HD.all_cons B
 have Lf:=HD.fR b
 have K4:=P6 X G Lf
 obtain⟨b,B⟩:=HD.all_cons B
 have La:=DC b
 obtain⟨b,B⟩:=HD.all_cons B
 have Lb:=DE b
 obtain⟨b,B⟩:=HD.all_cons B
 have kYd:=AY b
 obtain⟨b,B⟩:=HD.all_cons B
 have Kw:=P6 X G (HD.fR b)
 obtain⟨b,B⟩:=HD.all_cons B
 have Lg:(HD.adr K "HAD" ==NX)=false:=by simpa using b
 clear B
 have Kv:KD l.prog w K (HD.adr K "HAD") wm:=HD.Cz C40 Lg (by decide)
 refine⟨fd,hbi,λbase _ _=>?_⟩
 exact by
  have KH:=CB (P:=l.prog) (w:=w) (mg:=mg) (base:=base) (HD.gE X G Ld K5 K6 C0 (by walk_at "b2")) IT Ja Jb IZ
  have JA:=FM (P:=l.prog) (w:=w) (mg:=mg) (base:=base) (HD.aX X G e4 rfl (by walk_at "b3")) IT Ja Jb
  have Kp:=Hl (HD.aX X G e5 rfl (by walk_at "b3")) JA
  have J1:=zS (HD.aX X G e6 rfl (by walk_at "b1")) IT Ja IZ JA
  have Ke:=CC (P:=l.prog) (w:=w) (mg:=mg) (base:=base) (HD.aX X G e3 rfl (by walk_at "b1")) IT Ja Jb IZ Jz Jq
  have Kl:=wb (HD.aX X G e1 rfl (by walk_at "b1")) KH JB
  have Kc:=tP (P:=l.prog) (w:=w) (mg:=mg) (base:=base) (HD.aX X G e2 rfl (by walk_at "b1")) JB
  have J9:=CD (HD.aS C6 (by walk_at "b4")) IY IS IT Ja IZ JA
  have JC:=CF (HD.aS C7 (by walk_at "b4")) IY IS IT Jb Kp J1 KY
  have Kz:=zT (HD.gE X G K7 K2 K3 C1 (by walk_at "b2")) IY IS Jt Kl Kc
  have J7:=zU (HD.aS C9 (by walk_at "b1")) IY IS Ke
  have J3:=x6 (P:=l.prog) (w:=w) (mg:=mg) (base:=base) (HD.aS C10 (by walk_at "b1")) IY Jt
  have J5:=zX (HD.aS C8 (by walk_at "b2")) IY IS IT Jb JC Jq
  have Kj:=Ag.ok_swap (P:=l.prog) (w:=w) (mg:=mg) (base:=base) (HD.aX X G e14 rfl (by walk_at "b3"))
  have JF:=Ag.ok_three (P:=l.prog) (w:=w) (mg:=mg) (base:=base) (HD.aX X G e13 rfl (by walk_at "b2")) IV
  have KI:=Ag.ok_rise (HD.aX X G e11 rfl (by walk_at "b1")) Kj IV
  have KJ:=Ag.ok_sink (HD.aX X G e12 rfl (by walk_at "b1")) Kj JF
  have Ka:=Ag.ok_LI (P:=l.prog) (w:=w) (mg:=mg) (base:=base) (HD.gE X G KO KB KC C3 (by walk_at "b1")) IN IJ
  have Jf:=Ag.ok_LPut (P:=l.prog) (w:=w) (mg:=mg) (base:=base) (HD.aS C11 (by walk_at "b3")) IN IJ IV
  have Jm:=Ag.ok_LFst (P:=l.prog) (w:=w) (mg:=mg) (base:=base) (HD.aS C13 (by walk_at "b1")) IN IJ
  have JO:=Ag.ok_LTake (P:=l.prog) (w:=w) (mg:=mg) (base:=base) (HD.aS C15 (by walk_at "b1")) IN IJ
  have JD:=Ag.ok_LOrd (P:=l.prog) (w:=w) (mg:=mg) (base:=base) (HD.aS C17 (by walk_at "b1")) IN IJ Jq
  have Kb:=Ag.ok_HI (P:=l.prog) (w:=w) (mg:=mg) (base:=base) (HD.gE X G KP KF KG C4 (by walk_at "b1")) IG II Jh
  have Jg:=Ag.ok_HPut (HD.aS C12 (by walk_at "b3")) IG II Jh KI
  have Jn:=Ag.ok_HFst (P:=l.prog) (w:=w) (mg:=mg) (base:=base) (HD.aS C14 (by walk_at "b1")) IG II
  have JP:=Ag.ok_HTake (HD.aS C16 (by walk_at "b1")) IG II KJ
  have JE:=Ag.ok_HOrd (P:=l.prog) (w:=w) (mg:=mg) (base:=base) (HD.aS C18 (by walk_at "b1")) IG II Jz
  have JY:=Wo.ok_name (P:=l.prog) (w:=w) (mg:=mg) (base:=base) (HD.aX X G e16 rfl (by walk_at "b2"))
  have Ky:=Wo.ok_worth (HD.aX X G e15 rfl (by walk_at "b4")) JY
  have IL:=F3 (P:=l.prog) (w:=w) (mg:=mg) (base:=base) (C:=Cc K) (HD.aS C26 (by walk_at "b3")) IC IH Je
  have Jc:=wj (C:=Cc K) (HD.aS C20 (by walk_at "b1")) IC IK IU IE Jm Jn IV
  have Jd:=Dg (C:=Cc K) (HD.aS C19 (by walk_at "b1")) IC IF IK IU IE Jc Jm Jn
  have Ju:=Dh (C:=Cc K) (HD.aS C27 (by walk_at "b3")) IC IE IH IL Jf Jg
  have JS:=Di (C:=Cc K) (HD.aS C33 (by walk_at "b3")) IC IE IH IM ID IL Jf Jg
  have Jj:=Ap (C:=Cc K) (HD.aS C30 (by walk_at "b5")) IC IM ID IL Ju
  have Jy:=Aq (P:=l.prog) (w:=w) (mg:=mg) (base:=base) (C:=Cc K) (HD.aS C31 (by walk_at "b3")) IC IR IF IM ID Jl Ks
  have KL:=Dj (P:=l.prog) (w:=w) (mg:=mg) (base:=base) (C:=Cc K) (HD.gE X G Le K8 K9 C2 (by walk_at "b5")) IM ID Jw Jl Jx
  have JM:=Av (C:=Cc K) (HD.aS C28 (by walk_at "b3")) IC IW IF IP Js IE IH KL IL Jf Jg JB KZ KN
  have JT:=Hr (C:=Cc K) (HD.aS C35 (by walk_at "b4")) IC IQ IM ID JC Jj
  have JZ:=Dn (C:=Cc K) (HD.aS C34 (by walk_at "b5")) IC IQ IM ID J9 IL Ju Kv Kw
  have JG:=Do (C:=Cc K) (HD.aS C29 (by walk_at "b2")) IC IP IQ IM ID IL J5 Jj
  have JV:=AB (C:=Cc K) (HD.aS C32 (by walk_at "b5")) IC IF IM ID Jx JS JZ JT IL Kk Kv Kw
  have JH:=AC (C:=Cc K) (HD.aS C22 (by walk_at "b1")) IC IU IK JM
  have JU:=Hs (P:=l.prog) (w:=w) (mg:=mg) (base:=base) (HD.aX X G e8 rfl (by walk_at "b1")) Jq
  have Kn:=Ht (P:=l.prog) (w:=w) (mg:=mg) (base:=base) (HD.aX X G e9 rfl (by walk_at "b1"))
  have Kf:=Hu (P:=l.prog) (w:=w) (mg:=mg) (base:=base) (HD.aX X G e7 rfl (by walk_at "b1"))
  have J6:=Hv (HD.aX X G e17 rfl (by walk_at "b2")) Km Kf
  have JW:=Hw (P:=l.prog) (w:=w) (mg:=mg) (base:=base) (HD.aX X G e18 rfl (by walk_at "b1")) IV
  have Kq:=Hx (P:=l.prog) (w:=w) (mg:=mg) (base:=base) (HD.aX X G e19 rfl (by walk_at "b1"))
  have JL:=Hy (C:=Cc K) (HD.aS C38 (by walk_at "b3")) IC IH IM ID Jx Ky
  have J2:=Hz (C:=Cc K) (HD.aS C37 (by walk_at "b4")) IC JL JU Kq Kn JV
  have JN:=HE (C:=Cc K) (HD.aS C36 (by walk_at "b2")) IC Jo IM Jw Jl J6 JW JG Jy J2
  have JX:=Dp (C:=Cc K) (HD.aS C21 (by walk_at "b1")) IC IH IX IF IR IP IE Jd Jc JH JN JO JP Ku
  have J0:=Gq (P:=l.prog) (w:=w) (mg:=mg) (base:=base) (C:=Cc K) (HD.aS C24 (by walk_at "b1")) IC IF
  have Ji:=Gs (P:=l.prog) (w:=w) (mg:=mg) (base:=base) (C:=Cc K) (HD.aS C23 (by walk_at "b1")) IC Je Jq
  have JK:=BG (P:=l.prog) (w:=w) (mg:=mg) (base:=base) (HD.aX X G e10 rfl (by walk_at "b1")) Jr Jq JI 5
  have Kg:=HK (C:=Cc K) (DF K4 La Lb (HD.aS C39 (by walk_at "b4"))) IC Js JQ Jp IU IK IE IQ IP IW IH IX IR Je IF JB JI JK Kz
  have Kh:=HM (C:=Cc K) (HD.gE X G KS KQ KR C5 (by walk_at "b4")) IC Jo JB JK Kg
  have Jv:=Dv (C:=Cc K) (HD.aS C25 (by walk_at "b1")) IC IM ID Jw Jl IP IH IQ Jp IE Jz Jq J7 J3 JD JE
  have Jk:=Dw (P:=l.prog) (w:=w) (mg:=mg) (base:=base) (HD.aX X G e20 rfl (by walk_at "b2")) J8
  have JJ:=Dx (C:=Cc K) (HD.aX X G e21 rfl (by walk_at "b3")) Ka Kb Kh Jd JX
  have JR:=Dy (P:=l.prog) (w:=w) (mg:=mg) (base:=base) (HD.aX X G e22 rfl (by walk_at "b2"))
  have Ki:=Dz (C:=Cc K) (HD.aX X G e23 rfl (by walk_at "b2")) Jk JJ JR Ji Jv J0 K4 kYd K1 J8 IV Kk Jr
  have J4:=wF (C:=Cc K) (HD.aX X G e24 rfl (by walk_at "b2")) Jk JJ Ji Jv Jz IV Kk
  exact GI FL Ki J4
set_option maxRecDepth 1000000 in
theorem DG(h:PySem.Challenge.rw_rerunyard_k34_waits_and_queues_known.row.wellSaid=true->PySem.Challenge.rw_rerunyard_k34_waits_and_queues_known.row.Holds):PySem.Challenge.rw_rerunyard_k34_waits_and_queues_known.Holds:=PySem.W.holds_law (by rw [PZ];kernel_rfl) h
abbrev wH(p:Np)(w:Nu):Prop:=∀os:PY,HD.vV p w 200 (HD.vY p (Rq p [51]) (HD.gP p "law") (λ_=>true) (see p) w) 40 (HD.rL w os) (Rt p)=some (true,PySem.W.openGood (Rq p [51]) (HD.gP p "law"),saw p w)
theorem HS(w:Nu):wH PySem.Challenge.pw_rerunyard_k34_waits_and_queues_known (w.withFollow "special-get-raises" false):=λos=>by kernel_rfl
theorem HU(w:Nu):wH PySem.Challenge.pw_rerunyard_k34_waits_and_queues_known (w.withFollow "special-get-raises" true):=λos=>by kernel_rfl
theorem IB(w:Nu):wH PySem.Challenge.pw_rerunyard_k34_waits_and_queues_known w:=(PySem.W.byRow2 "special-get-raises" (P:=λw=>wH PySem.Challenge.pw_rerunyard_k34_waits_and_queues_known w) HS HU) w
end K34
open PySem PySem.W PyProof.Rows
set_option maxRecDepth 100000 in
set_option maxHeartbeats 0 in
theorem PySem.Challenge.cw_rerunyard_k34_waits_and_queues_known_holds : PySem.Challenge.rw_rerunyard_k34_waits_and_queues_known.Holds := by
 refine K34.DG λsaid=>?_
 refine HD.xR (l:=PySem.Challenge.rw_rerunyard_k34_waits_and_queues_known) (i:=51) (N:=8000) (m:=200) (n:=40) (see:=K34.see PySem.Challenge.pw_rerunyard_k34_waits_and_queues_known) (saw:=K34.saw PySem.Challenge.pw_rerunyard_k34_waits_and_queues_known) said rfl (λ_=>rfl) rfl rfl K34.IB (by rfl) (by rfl) (by rfl) (by decide) ⟨rfl,rfl,rfl,rfl,rfl,by decide⟩ ?hw ?hc
 case hw=>w_witness2
 case hc=>exact HD.zQ (l:=PySem.Challenge.rw_rerunyard_k34_waits_and_queues_known) (n:=63) (k:=20) (x:="script") (CX:=L2.CX0) (sp:=L2.vA) rfl (by decide) rfl ⟨rfl,by decide,by decide⟩ (λw K mg fa h S X G hfa=>K34.GJ S X G hfa) (λ_ _ a ns hl _ hS=>⟨a,ns,rfl,hS,hl,λ_=>rfl⟩) λ_ _ _ _ z=>z
#print axioms PySem.Challenge.cw_rerunyard_k34_waits_and_queues_known_holds
