import PyProof.Rows.All
import Wide.All
import OpenK.AllK
import Wide.FinOn
import Lean
import PyProof.EqAt
import PyProof.EqKinds
import PyProof.TupleCall
import PyProof.ExcAttrAll.ValueError
import PySem.Challenge.RW_rerunyard_k33_stops_known
set_option compiler.extract_closed false
set_option bootstrap.genMatcherCode false
noncomputable section
open PySem.W renaming Frag→N5,kitOne→OP,SharedT→O7,findIn→Pb,emptyDict→Ph,instObj→Pt,boot_heap→PK,keepIn→PV,plainGet→Qf,typeIn→Qm,lookIn→Qt,hasDictIn→QA,looks_typeIn→Q0,looks_specialIn→Q2,takerIn→Q5,boot_drawn→Q9,boot_toks→Rt,mg_of→Rw,plainOver→RA,stepOk→RF,isFn→RH,fnOf→RJ,handedIn→RL,topRun→RU,makesIn→RV,codeIn→R7,kitAny→R9,namesBound→Sh,OpenLaw→SA,kas_rev→SB,kas_desc→SD,absHeap→SF,stepT→SQ,staticsOk→SR,view→SS,topStub→SX
open PySem renaming wpAny_bind→OK,Value→OL,wpAny_pure→OM,sizeLine→ON,Shared→OO,PyData→OQ,Program→OR,lookup_relabel_local→OS,wpAny→OT,starEach→OU,World→OV,Builtin→OW,mainGlobals→OX,Around→OY,wpAny_holding→OZ,wpAny_callSpecial?_slot→O0,PassesOwn→O1,wpAny_field→O2,wpAny_call_entry→O3,wpAny_pyIter_tuple→O5,wpAny_mono→O6,Spec→O8,Addr→O9,bootBuiltins→Pa,compareOp→Pc,wpAny_newObj_type→Pd,attributeBase→Pe,wpAny_setField_rec→Pf,sysModules→Pi,wpAny_typeNameOfWhole_valiter→Pj,NameKind→Pk,wpAny_Call_method0_late→Pm,wpAny_seqItems→Po,foldedSetIterable→Pq,keywordEach→Ps,mem_of_lookup→Pu,wpAny_truthy_bool→Pw,wpAny_passesOwn→Px,wpAny_pyIter_list→Py,wpAny_typeNameOf_valiter→Pz,evalArgs_none→PH,assignEach→PL,boot_len→PM,wpAny_Call_Name_kw→PN,backTo→PP,sizeLine_eq→PQ,wpAny_isOneOf_valiter→PR,behindInMarks→PU,binaryOp→PX,call_meetsIn→PY,getMethod→PZ,backToKw→P0,tupleKind_room_in1→P2,Thread→P3,importedModules→P4,wpAny_pyNext_list_item→P5,sliceBounds→P6,call_meets→P7,wpAny_of_eq→P8,wpAny_pyNext_list_end→Qb,wpAny_updateSeq_pair→Qg,wpAny_attempt→Qh,typeLookup→Qi,wpAny_rule→Qj,wpAny_execs_nil→Qk,Scope→Ql,Paired→Qo,getattributeRaised→Qp,Keyword→Qq,wpAny_setField→Qr,wpAny_fieldsOf→Qs,swapsWith→Qx,rawInt→Qy,IsPair→Qz,standAt→QE,wpAny_standAt→QF,codeAny→QG,wpAny_newList→QH,wpAny_onRaise→QI,cStatics→QJ,wpAny_pyIter_zip→QN,tupleKind→QR,letOwnedTupleGo→QT,DictEntry→QU,codeAny_mono→QV,wpAny_typeOf→QW,codeAny_builtin→QY,callType_new→QZ,wpAny_ite_false→Q3,treeTable→Q4,Str→Q7,callWith→Q8,cLine→Ra,fitsIndex_both→Rc,wpAny_newTuple→Rg,firstArgMember→Rh,getItem→Ri,wpAny_letGo→Rj,OsState→Rk,pyNext→Ro,FuncData→Rq,GenState→Rs,KeyKind→Ru,builtinsNs→Rx,BindsTo→Ry,callerA→Rz,seqIndex_neg→RB,Within→RG,bindArgs→RN,IsPart→RO,seqIndex_of→RP,valueAt→RQ,notedBy→RS,wpAny_Name→Sa,wpAny_call→Sc,typeIs_int→Se,closureFor→Sf,call→Sy,setField→SE,isTrue→SJ,cellsFrom→SK,seqIndex?→SL,atKey→SM,IsEnum→SO,getAttr→SU,IsZip→SV,sub_zip→SW,bindL→S0,bindC→Ta,Meets→Tc
open PyProof.Rows renaming callWith_type1→O4,envOfC→Pl,seqObj→PD,IntsAre→PF,slot_tuple_getitem→P9,AllBare→QS,entry_list_sort→QX,slot_list_sort→Re,args_list_sort→Rf,listUpdate_at→Rr,plain_sorted→RC,entry_sorted→RD,args_sorted1→RE,callWith_builtin1→RK,kind_sorted→RR,seqEpoch_at→RT,pairsOf_size→R8,Subscript_→Sd,sortedHeap→Sg,IsTup→SG,pairsOf→ST,lt_int→SY
open PySem.F renaming plainAttrs_dict→Pg,plainAttrs_list→Pn,slot_dict_values→PB,slot_dict_items→PJ,slot_dict_get→Qc,slot_list_pop→Qd,type_list_pop→Qe,args_dict_values_1→Qn,entry_dict_values→Qu,args_dict_items_1→Qw,args_tuple_add_2→QB,type_dict_values→QC,entry_dict_items→QD,entry_tuple_add→QK,args_dict_get_3→QL,type_dict_items→QM,slot_tuple_add→QO,entry_dict_get→QP,slot_dict_pop→Q6
open PySem.Calls renaming call_function_entry→Qa
open PySem.AutoSeq1 renaming list_insert_list_int_val_1→QQ
open PySem.SeqAt renaming eqv_refl→Rb
open PySem.W.Fast renaming te9446332074065402090→Rm
open PySem.StrLaws renaming seqIndex_nonneg→RM
open PySem.EqNone renaming eq_none_none→RW,eq_none_bool→RX,eq_bool_none→RY,ne_none_none→R1,ne_none_bool→R3,ne_bool_none→R4,eq_none_int→Si,eq_none_str→Sj,eq_int_none→Sk,eq_str_none→So,ne_none_int→Sr,ne_none_str→Ss,ne_int_none→Su,ne_str_none→Sw
open PySem.EqMixed renaming eq_bool_str→RZ,eq_str_bool→R0,ne_bool_str→R5,ne_str_bool→R6,eq_int_str→Sl,eq_str_int→Sq,ne_int_str→Sv,ne_str_int→Sx
open PySem.W.Looks renaming here→SZ,now→Te
open PySem.Within renaming cons→Td
open List renaming all_eq_true→Oj,any_cons→OB,append_assoc→Nj,append_nil→Nv,cons_append→NN,cons_ne_nil→NU,drop_eq_getElem_cons→Nt,drop_length→Oi,filterMap_cons→NX,flatten_cons→NH,foldl_cons→Os,forIn_cons→Oq,forIn_nil→Ow,getD_eq_getElem?_getD→Ni,getElem?_append_left→Nl,getElem?_append_right→No,getElem?_drop→NS,getElem?_eq_getElem→MR,getElem?_eq_none→NL,getElem?_map→M4,getElem?_replicate→Ny,length_append→MW,length_cons→M8,length_drop→N7,length_map→MQ,length_nil→NI,length_range→Nh,length_replicate→MY,length_set→N3,length_singleton→ND,length_take→NT,lookup_cons→NM,map_append→MX,map_congr_left→NV,map_cons→Ng,map_drop→Ov,map_map→NK,map_nil→N0,map_set→OJ,map_take→Ou,mem_append_left→NA,mem_append_right→M9,mem_cons→Na,mem_cons_of_mem→MV,mem_cons_self→MU,mem_map_of_mem→Nr,mem_of_getElem?→Nc,mem_singleton→Od,mem_singleton_self→Nb,nil_append→NO,nodup_cons→Oo,not_mem_nil→MT,of_mem_zip→On,pairwise_map→NZ,range_succ→NE,replicate→Nd,replicate_succ→Nz,set_cons_succ→M6,set_cons_zero→M5,size_toArray→MZ,take_of_length_le→Nm
open PySem.W renaming callWith_K→N4,callWith_K0→Oe,cellsFrom_some→Of,kdl_call→OI,kdl_dict→OH,kia_tup→Ob,kitx_dict→OF,kitx_list→OE,methodCall_KW→NP,plainGet_of→Oh
open PySem.W (kIn_of)
open Nat renaming add_comm→OD,add_sub_cancel→NY,add_zero→OC,eq_zero_or_pos→Np,le_add_right→Nn,le_of_ble_eq_true→MP,le_of_eq→NJ,le_succ→N8,lt_irrefl→NR,lt_of_le_of_lt→Nu,lt_of_lt_of_le→M7,lt_or_eq_of_le→NW,lt_succ_of_lt→NQ,lt_succ_self→Oa,lt_trans→OA,ne_of_gt→Nw,ne_of_lt→Nf,succ_pos→Oz,zero_add→Ol,zero_le→Nk,zero_min→Oc,zero_sub→Oy
open PySem.Heap renaming get?_push_ne→NG,get?_push_of_some→MO,get?_push_size→MS,lt_size→M3,size_push→Nq,size_update→Og
open Bool renaming and_eq_true→M0,false_eq_true→NC
open Option renaming getD_none→OG,isSome_map→Ox,map_some→Om
open Int renaming emod_lt_of_pos→NF,emod_nonneg→N9,toNat_natCast→NB
theorem Tf{c:Prop}{_:Decidable c}(h: ¬c){α}{t e:α}:ite c t e=e:=if_neg h
theorem Th{c:Prop}{_:Decidable c}(h:c){α}{t e:α}:ite c t e=t:=if_pos h
local macro_rules
| `(tactic|symm)=>`(tactic|walk_at "r2")
| `(tactic|decide)=>`(tactic|decide +kernel)
set_option genInjectivity false
set_option genSizeOf false
set_option Elab.async false
set_option linter.all false
set_option maxRecDepth 100000
namespace _L
open PySem PySem.Spec PyProof.Rows
abbrev Key:=Sum Int Str
def iB:Key->OL->Bool
 | .inl k,v=>OL.isInt k v
 | .inr x,v=>OL.isStrOf x v
def qZ(w:OV):Key->Int
 | .inl k=>hashInt k
 | .inr x=>hashStr w x
theorem bH:∀{k:Key} {v:OL},iB k v=true->(∃i t,k=Sum.inl i/\v=OL.int i t)\/(∃x t,k=Sum.inr x/\v=OL.str x t)
 | .inl i,v,h=>by
  obtain⟨t,e⟩:=OL.isInt_shape h
  exact .inl ⟨i,t,rfl,e⟩
 | .inr x,v,h=>by
  obtain⟨t,e⟩:=OL.isStrOf_shape h
  exact .inr ⟨x,t,rfl,e⟩
theorem xj(i:Int)(t:Tok):iB (.inl i) (.int i t)=true:=by simp [iB,OL.isInt]
theorem xm(x:Str)(t:Tok):iB (.inr x) (.str x t)=true:=by simp [iB,OL.isStrOf]
theorem D9(a b:Int):decide ((Sum.inl a:Key)=Sum.inl b)=(a==b):=by
 by_cases e:a=b
 ·subst e;simp
 ·have h:¬(Sum.inl a:Key)=Sum.inl b:=λq=>e (Sum.inl.inj q)
  rw [decide_eq_false h]
  exact(beq_eq_false_iff_ne.mpr e).symm
theorem Ea(a b:Str):decide ((Sum.inr a:Key)=Sum.inr b)=decide (a=b):=by simp_all
theorem Eb(a:Int)(b:Str):decide ((Sum.inl a:Key)=Sum.inr b)=false:=decide_eq_false (λq=>nomatch q)
theorem Ec(a:Str)(b:Int):decide ((Sum.inr a:Key)=Sum.inl b)=false:=decide_eq_false (λq=>nomatch q)
noncomputable def aN(prog:OR)(w:OV):Ru prog w Key where
 is:=iB
 hash:=qZ w
 inj:=λv a b ha hb=>by
  rcases bH ha with ⟨i,t,rfl,rfl⟩ | ⟨x,t,rfl,rfl⟩
  ·rcases bH hb with ⟨j,u,rfl,e⟩ | ⟨y,u,rfl,e⟩
   ·injection e with e1 _;rw [e1]
   ·exact nomatch e
  ·rcases bH hb with ⟨j,u,rfl,e⟩ | ⟨y,u,rfl,e⟩
   ·exact nomatch e
   ·injection e with e1 _;rw [e1]
 byValue := fun k v h => by
   rcases bH h with ⟨i,t,rfl,rfl⟩ | ⟨x,t,rfl,rfl⟩<;>rfl
 pyHash:=λhv h=>by
  rcases bH hv with ⟨i,t,rfl,rfl⟩ | ⟨x,t,rfl,rfl⟩
  ·exact wpAny_pyHash_int h
  ·exact wpAny_pyHash_str h
 eqBool:=λhu hv h=>by
  rcases bH hu with ⟨i,t,rfl,rfl⟩ | ⟨x,t,rfl,rfl⟩
  ·rcases bH hv with ⟨j,u,rfl,rfl⟩ | ⟨y,u,rfl,rfl⟩
   ·rw [D9] at h;exact wpAny_eqBool_int h
   ·rw [Eb] at h;exact SeqAt.EqAt.int_str i t y u _ _ _ _ h
  ·rcases bH hv with ⟨j,u,rfl,rfl⟩ | ⟨y,u,rfl,rfl⟩
   ·rw [Ec] at h;exact SeqAt.EqAt.str_int x t j u _ _ _ _ h
   ·rw [Ea] at h;exact wpAny_eqBool_str h
 «strs»:=λk x t v h=>by
  rcases bH h with ⟨i,u,rfl,e⟩ | ⟨y,u,rfl,e⟩
  ·exact nomatch e
  ·injection e with e1 _
   subst e1
   cases v<;>rfl
theorem tY(prog:OR)(w:OV)(i:Int)(t:Tok):(aN prog w).is (.inl i) (.int i t)=true:=xj i t
theorem tZ(prog:OR)(w:OV)(x:Str)(t:Tok):(aN prog w).is (.inr x) (.str x t)=true:=xm x t
set_option genInjectivity true in
inductive V where
 | non | bl (b:Bool) | int (i:Int) | str (x:Str) | byt (b:Array UInt8) | flt (b:UInt64) | ref (a:Addr) | ty (n:String)
 deriving DecidableEq
def RelV:V->OL->Prop
 | .non,u=>u=OL.none
 | .bl b,u=>u=OL.bool b
 | .int i,u=>∃t,u=OL.int i t
 | .str x,u=>∃t,u=OL.str x t
 | .byt b,u=>∃t,u=OL.bytes b t
 | .flt b,u=>∃t,u=OL.float b t
 | .ref a,u=>u=OL.ref a
 | .ty n,u=>u=OL.type n
abbrev Vals:List V->List OL->Prop:=Qo RelV
theorem Vals.length(r:Vals xs us):xs.length=us.length:=Qo.length r
theorem Vals.get:∀{xs:List V} {us:List OL} {i:Nat} {x:V},Vals xs us->xs[i]? =some x->∃u,us[i]? =some u/\RelV x u
 | _,_,_,_,.nil,e=>by simp at e
 | _,_,0,_,.cons r _,e=>by simp at e;subst e;exact⟨_,rfl,r⟩
 | _,_,i+1,x,.cons _ t,e=>by
  obtain⟨u,h1,h2⟩:=Vals.get (i:=i) t (by simpa using e)
  exact⟨u,by simpa using h1,h2⟩
theorem Vals.set(r:RelV x u):∀{xs:List V} {us:List OL} (i:Nat),Vals xs us->Vals (xs.set i x) (us.set i u)
 | _,_,_,.nil=>.nil
 | _,_,0,.cons _ t=>.cons r t
 | _,_,i+1,.cons q t=>.cons q (Vals.set r i t)
theorem Vals.append:∀{xs ys:List V} {us ws:List OL},Vals xs us->Vals ys ws->Vals (xs++ys) (us++ws):=by
 intro _ _ _ _ h s
 induction h with
 | nil=>exact s
 | cons r t ih=>exact .cons r ih
theorem Vals.take:∀{xs:List V} {us:List OL} (n:Nat),Vals xs us->Vals (xs.take n) (us.take n)
 | _,_,0,_=>.nil
 | _,_,_+1,.nil=>.nil
 | _,_,n+1,.cons r t=>.cons r (Vals.take n t)
theorem Vals.drop:∀{xs:List V} {us:List OL} (n:Nat),Vals xs us->Vals (xs.drop n) (us.drop n)
 | _,_,0,r=>r
 | _,_,_+1,.nil=>.nil
 | _,_,n+1,.cons _ t=>Vals.drop n t
def RelO:Option V->Option OL->Prop
 | some v,some u=>RelV v u
 | none,none=>True
 | _,_=>False
def KV{κ:Type}:List (κ×V)->List (κ×OL)->Prop:=Qo λ(p:κ×V) (q:κ×OL)=>p.1=q.1/\RelV p.2 q.2
def kV:Key->V
 | .inl i=>.int i
 | .inr x=>.str x
set_option genInjectivity true in
inductive HO where
 | lst (xs:List V)
 | tup (xs:List V)
 | dK (kvs:List (Key×V)) | dT (kvs:List (List Key×V))
 | set (S:Int->Bool) (n:Nat)
 | ins (C dx:Addr) (fs:List (Str×V))
 | own (x:Addr)
 | xd (fs:List (Str×V))
 | met (f x:Addr)
 | rng (lo hi:Int)
 | frz (o:Obj) (u:HO)
 | tbl (ps:Array OL)
 | ext (φ:Heap->Prop)
abbrev Hp:=Addr->Option HO
def upd(H:Hp)(a:Addr)(o:HO):Hp:=λb=>if b=a then some o else H b
theorem aC:upd H a o a=some o:=by unfold upd;rw [Th rfl]
theorem aI(h:b≠a):upd H a o b=H b:=by unfold upd;rw [Tf h]
theorem Hr{H:Hp}(h:H a=some o)(h':H b=some u)(d:o≠u):a≠b:=by
 intro e;subst e;rw [h] at h';exact d (Option.some.inj h')
theorem av{H:Hp}(h:H a=some o)(h':H b=none):a≠b:=by
 intro e;subst e;rw [h] at h';cases h'
section
variable(P:OR)(w:OV)
def ObjOk(H:Hp)(h:Heap)(a:Addr):HO->Prop
 | .lst xs=>xs.length<=ON/\∃(its:List OL) (n:Nat),Vals xs its/\h.get? a=some {cls:=.type "list",data:=.seq its.toArray n}
 | .tup xs=>xs.length<=ON/\∃its:List OL,Vals xs its/\SG h a its.toArray
 | .dK kvs=>kvs.length<=ON/\(a==Pi)=false/\∃vs,KV kvs vs/\h.DictOf (aN P w) a vs
 | .dT kvs=>kvs.length<=ON/\(a==Pi)=false/\∃xs:List (List Key×Addr×OL),
  Qo (λ(p:List Key×V) (q:List Key×Addr×OL)=>p.1=q.1/\H q.2.1=some (.tup (p.1.map kV))/\RelV p.2 q.2.2) kvs xs/\
  ∃o es ep,h.get? a=some o/\o.ExactDict/\o.data= .dict es ep/\es.toList=xs.map (entryOfKey (QR (aN P w)))/\(xs.map (·.1)).Nodup
 | .set S n=>h.SetOf (intKind P w) a S n
 | .ins C dx fs=>H dx=some (.own a)/\fs.length<=1000/\dx≠a/\h.get? a=some (Pt C dx)/\
  ∃mA,h.Ns1 dx mA/\(∀f,RelO (fs.lookup f) (mA f))/\RG mA (fs.map (·.1))
 | .own _=>∃o,h.get? a=some o
 | .xd fs=>∃mA,h.Ns1 a mA/\∀f,RelO (fs.lookup f) (mA f)
 | .rng lo hi=>∃t u v,h.get? a=some {cls:=.type "range",data:=.fields #[.int lo t,.int hi u,.int 1 v]}
 | .frz o u=>h.get? a=some o/\ObjOk H h a u
 | .tbl ps=>h.get? a=some {cls:=.none,data:=.fields ps}
 | .met f x=>h.get? a=some (PySem.W.methodObj (.ref f) (.ref x))
 | .ext φ=>φ h/\(∃o,h.get? a=some o)/\∀h1 h2:Heap,φ h1->(∀o,h1.get? a=some o->h2.get? a=some o)->φ h2
def HOk(H:Hp)(h:Heap):Prop:=∀a o,H a=some o->ObjOk P w H h a o
end
section
variable{P:OR}{w:OV}{H H':Hp}{h h':Heap}{a:Addr}{o:HO}
theorem ObjOk.lt(x:ObjOk P w H h a o):a<h.objs.size:=by
 cases o with
 | lst xs=>obtain⟨_,_,_,_,e⟩:=x;exact M3 e
 | tup xs=>obtain⟨_,_,_,p⟩:=x;exact p.lt
 | dK kvs=>obtain⟨_,_,_,_,o,_,_,e,_⟩:=x;exact M3 e
 | dT kvs=>obtain⟨_,_,_,_,o,_,_,e,_⟩:=x;exact M3 e
 | set S n=>obtain⟨o,_,_,_,e,_⟩:=x;exact M3 e
 | ins C dx fs=>obtain⟨_,_,_,e,_⟩:=x;exact M3 e
 | own y=>obtain⟨_,e⟩:=x;exact M3 e
 | xd fs=>obtain⟨_,⟨_,_,_,e,_⟩,_⟩:=x;exact M3 e
 | rng lo hi=>obtain⟨_,_,_,e⟩:=x;exact M3 e
 | frz ob u=>obtain⟨e,_⟩:=x;exact M3 e
 | tbl ps=>exact M3 (x)
 | met f y=>exact M3 (x)
 | ext φ=>obtain⟨_,⟨_,e⟩,_⟩:=x;exact M3 e
theorem Qo.mapP{α β:Type}{F G:α->β->Prop}:∀{l₁:List α} {l₂:List β},Qo F l₁ l₂->(∀a b,F a b->G a b)->Qo G l₁ l₂:=by
 intro _ _ h f
 induction h with
 | nil=>exact .nil
 | cons r t ih=>exact .cons (f _ _ r) ih
theorem ObjOk.stay(x:ObjOk P w H h a o)(k:∀b u,(b=a\/H b=some (.own a))->h.get? b=some u->h'.get? b=some u)
 (ho:∀b,H b=some (.own a)->H' b=some (.own a)) (ht:∀b xs,H b=some (.tup xs)->H' b=some (.tup xs)):ObjOk P w H' h' a o:=by
 induction o with
 | lst xs=>obtain⟨z,its,n,r,e⟩:=x;exact⟨z,its,n,r,k _ _ (.inl rfl) e⟩
 | tup xs=>obtain⟨z,its,r,ob,e,c⟩:=x;exact⟨z,its,r,ob,k _ _ (.inl rfl) e,c⟩
 | dK kvs=>obtain⟨z,y,vs,r,ob,es,ep,e,c⟩:=x;exact⟨z,y,vs,r,ob,es,ep,k _ _ (.inl rfl) e,c⟩
 | dT kvs=>
  obtain⟨z,y,xs,r,ob,es,ep,e,c⟩:=x
  exact⟨z,y,xs,Qo.mapP r λp q z=>⟨z.1,ht _ _ z.2.1,z.2.2⟩,ob,es,ep,k _ _ (.inl rfl) e,c⟩
 | set S n=>obtain⟨ob,es,ep,t,e,c⟩:=x;exact⟨ob,es,ep,t,k _ _ (.inl rfl) e,c⟩
 | ins C dx fs=>
  obtain⟨d,z,ne,e,mA,⟨od,es,ep,e2,c⟩,r⟩:=x
  exact⟨ho _ d,z,ne,k _ _ (.inl rfl) e,mA,⟨od,es,ep,k _ _ (.inr d) e2,c⟩,r⟩
 | own y=>obtain⟨ob,e⟩:=x;exact⟨ob,k _ _ (.inl rfl) e⟩
 | xd fs=>obtain⟨mA,⟨od,es,ep,e,c⟩,r⟩:=x;exact⟨mA,⟨od,es,ep,k _ _ (.inl rfl) e,c⟩,r⟩
 | rng lo hi=>obtain⟨t,u,v,e⟩:=x;exact⟨t,u,v,k _ _ (.inl rfl) e⟩
 | frz ob u ih=>obtain⟨e,q⟩:=x;exact⟨k _ _ (.inl rfl) e,ih q⟩
 | tbl ps=>
  have e:h.get? a=some {cls:=.none,data:=.fields ps}:=x
  exact k a _ (.inl rfl) e
 | met f y=>
  have e:=x
  exact k a _ (.inl rfl) e
 | ext φ=>obtain⟨p,⟨o,e⟩,st⟩:=x;exact⟨st _ _ p λo q=>k _ _ (.inl rfl) q,⟨o,k _ _ (.inl rfl) e⟩,st⟩
theorem HOk.lt(x:HOk P w H h)(e:H a=some o):a<h.objs.size:=(x a o e).lt
theorem HOk.fresh(x:HOk P w H h)(e:h.objs.size<=a):H a=none:=by
 cases q:H a with
 | none=>rfl
 | some u=>exact absurd (M7 (x.lt q) e) (NR _)
theorem HOk.kept(x:HOk P w H h)(k:∀b u,h.get? b=some u->h'.get? b=some u):HOk P w H h':=λa o e=>
 (x a o e).stay (λb u _ q=>k b u q) (λ_ q=>q) λ_ _ q=>q
theorem HOk.laid(x:HOk P w H h)(k:∀b u,h.get? b=some u->h'.get? b=some u)(hp:h.objs.size<=a)(new:ObjOk P w (upd H a o) h' a o):HOk P w (upd H a o) h':=λb u e=>by
 have hn:=x.fresh hp
 by_cases hb:b=a
 ·subst hb;rw [aC] at e;cases e;exact new
 ·rw [aI hb] at e
  exact(x b u e).stay (λc v _ q=>k c v q) (λc q=>by rw [aI (av q hn)];exact q) λc xs q=>by rw [aI (av q hn)];exact q
end
def Rd(H:Hp)(a:Addr)(u:HO):Prop:=H a=some u\/∃o,H a=some (.frz o u)
theorem Rd.of(h:H a=some u):Rd H a u:=.inl h
theorem Rd.ok(r:Rd H a u)(x:HOk P w H h):ObjOk P w H h a u:=by
 rcases r with r | ⟨o,r⟩
 ·exact x a u r
 ·obtain⟨_,q⟩:=x a _ r
  exact q
def Mut:Option HO->Prop
 | some (.lst _)=>True
 | some (.dK _)=>True
 | some (.dT _)=>True
 | some (.set _ _)=>True
 | some (.ins _ _ _)=>True
 | some (.ext _)=>True
 | _=>False
section
variable{P:OR}{w:OV}{H:Hp}{h h':Heap}{x e:Addr}{o':HO}
theorem HOk.write(ok:HOk P w H h)(mu:Mut (H x))(he:e=x\/H e=some (.own x))(k:∀b u,b≠e->h.get? b=some u->h'.get? b=some u)(heo:∃u,h'.get? e=some u)
 (new:ObjOk P w (upd H x o') h' x o'):HOk P w (upd H x o') h':=λb u q=>by
 have nown:∀c y,H c=some (.own y)->c≠x:=λc y r z=>by subst z;rw [r] at mu;exact mu
 have ntup:∀c xs,H c=some (.tup xs)->c≠x:=λc xs r z=>by subst z;rw [r] at mu;exact mu
 by_cases hb:b=x
 ·subst hb;rw [aC] at q;cases q;exact new
 ·rw [aI hb] at q
  by_cases hbe:b=e
  ·have q':H b=some (.own x):=by
    rcases he with z | z
    ·exact absurd (hbe.trans z) hb
    ·rw [hbe];exact z
   rw [q] at q';cases q'
   obtain⟨v,hv⟩:=heo
   exact⟨v,by rw [hbe];exact hv⟩
  ·refine(ok b u q).stay (λc v hc r=>k c v ?_ r) (λc r=>by rw [aI (nown c b r)];exact r) λc xs r=>by rw [aI (ntup c xs r)];exact r
   rcases hc with rfl | hc
   ·exact hbe
   ·rintro rfl
    rcases he with z | z
    ·exact nown c b hc z
    ·grind
end
structure Un(fs ex:List Addr)(H H':Hp)(h h':Heap):Prop where
 keep:∀b o,h.get? b=some o->H b=none->b∉fs->b∉ex->h'.get? b=some o
 slot:∀b o,h.get? b=some o->H b=none->b∈fs->b∉ex->∃sl,h'.get? b=some {o with slots:=sl}
 free:∀b o,h.get? b=some o->H b=none->b∉ex->H' b=none
 there:∀b o,h.get? b=some o->b∉ex->∃o',h'.get? b=some o'
 tups:∀b xs,H b=some (.tup xs)->H' b=some (.tup xs)
 frzs:∀b o u,H b=some (.frz o u)->H' b=some (.frz o u)
 tbls:∀b ps,H b=some (.tbl ps)->∃more,H' b=some (.tbl (ps++more))
section
variable{fs fs' ex ex':List Addr}{H H1 H2:Hp}{h h1 h2 h':Heap}{a x e:Addr}{o:HO}
theorem Un.any(u:Un fs ex H H1 h h1)(q:h.get? b=some ob)(n:H b=none)(hx:b∉ex):∃sl,h1.get? b=some {ob with slots:=sl}:=by
 by_cases hb:b∈fs
 ·exact u.slot b ob q n hb hx
 ·exact⟨ob.slots,u.keep b ob q n hb hx⟩
theorem Un.kept(k:∀b u,h.get? b=some u->h'.get? b=some u):Un fs ex H H h h':=
 ⟨λb ob q _ _ _=>k b ob q,λb ob q _ _ _=>⟨ob.slots,k b ob q⟩,λ_ _ _ n _=>n,λb ob q _=>⟨ob,k b ob q⟩,λ_ _ q=>q,λ_ _ _ q=>q,λ_ ps q=>⟨#[],by rw [q];simp⟩⟩
theorem Un.refl:Un fs ex H H h h:=Un.kept λ_ _ q=>q
theorem Un.laid(k:∀b u,h.get? b=some u->h'.get? b=some u)(hp:h.objs.size<=a)(hn:H a=none):Un fs ex H (upd H a o) h h' where
 keep:=λb u q _ _ _=>k b u q
 slot:=λb u q _ _ _=>⟨u.slots,k b u q⟩
 free:=λb u q n _=>by rw [aI (Nf (M7 (M3 q) hp))];exact n
 there:=λb u q _=>⟨u,k b u q⟩
 tups:=λb xs q=>by rw [aI (av q hn)];exact q
 frzs:=λb u xs q=>by rw [aI (av q hn)];exact q
 tbls:=λb ps q=>⟨#[],by rw [aI (av q hn),q];simp⟩
theorem Un.write(mu:Mut (H x))(he:e=x\/H e=some (.own x))(k:∀b u,b≠e->h.get? b=some u->h'.get? b=some u)(heo:∃u,h'.get? e=some u):Un fs ex H (upd H x o) h h':=by
 have hx:∀b,H b=none->b≠x:=λb n z=>by subst z;rw [n] at mu;exact mu
 have hb:∀b,H b=none->b≠e:=λb n z=>by
  subst z
  rcases he with r | r
  ·exact hx b n r
  ·grind
 have hm:∀b u,H b=some u->¬Mut (some u)->b≠x:=λb u q nm z=>by subst z;rw [q] at mu;exact nm mu
 refine⟨λb u q n _ _=>k b u (hb b n) q,λb u q n _ _=>⟨u.slots,k b u (hb b n) q⟩,λb u q n _=>by rw [aI (hx b n)];exact n,λb u q _=>?_,
  λb xs q=>by rw [aI (hm b _ q λz=>z)];exact q,λb u xs q=>by rw [aI (hm b _ q λz=>z)];exact q,λb ps q=>⟨#[],by rw [aI (hm b _ q λz=>z),q];simp⟩⟩
 by_cases hbe:b=e
 ·simp_all
 ·exact⟨u,k b u hbe q⟩
end
def trk(h:Heap)(H:Hp):List Addr:=(List.range h.objs.size).filter λa=>(H a).isSome
def j4(h:Heap)(H:Hp):Heap:=PySem.W.hideAll h (trk h H)
theorem xn(h:Heap)(H:Hp):(j4 h H).objs.size=h.objs.size:=PySem.W.hideAll_size _ _
theorem zC(e:h.get? b=some o)(n:H b=none):(j4 h H).get? b=some o:=
 PySem.W.hideAll_get _ e λhm=>by
  have q:=(List.mem_filter.mp hm).2
  rw [n] at q;simp at q
theorem Cb(e:(j4 h H).get? b=some o):h.get? b=some o/\H b=none:=by
 have e':=PySem.W.of_hideAll (trk h H) e
 refine⟨e',?_⟩
 cases q:H b with
 | none=>rfl
 | some x=>
  have hm:b∈trk h H:=List.mem_filter.mpr ⟨List.mem_range.mpr (M3 e'),by simp [q]⟩
  have z:(j4 h H).get? b=none:=PySem.W.hideAll_none (trk h H) hm
  rw [z] at e;cases e
def Cd(g h:Heap)(L:Addr):List (Addr×Obj):=(List.range h.objs.size).filterMap λa=>if a=L\/(g.get? a).isSome=true then none else (h.get? a).map λo=>(a,o)
def rest(g h:Heap)(L d:Addr):List (Addr×Obj):=(Cd g h L).filter λp=>decide (p.1≠d)
structure Mod(K:N5)(mg:Str->Option OL)(base:Heap):Prop where
 kin:K.In base
 glob:base.Ns OX mg
 blt:∃mb,base.Ns Rx mb/\∀x:Str,x≠"__name__"->mb x=Pa x
 nolimit:base.NoLimit
set_option genInjectivity true in
structure Cx where
 prog:OR
 w:OV
 K:N5
 mg:Str->Option OL
 base:Heap
 A:OY
 N:List Str
 s₀:OO
 H₀:Hp
 env:Env
 outer:List Env
 stack:List Env
 ex:List Addr
 fn:Str->Bool
 calm:Bool
 pn:List (Addr×Obj)
 xe:OL->OO->Prop
def frs(l:List Env):List Addr:=l.filterMap (·.frame)
abbrev Cx.fs(X:Cx):List Addr:=frs X.outer
def Vis(sc:Ql)(x:Str):Prop:=sc.names.lookup x=some .local\/sc.names.lookup x=some .cell\/sc.names.lookup x=some .free
def Loc(sc:Ql)(x:Str):Prop:=sc.names.lookup x=some .local\/sc.names.lookup x=some .cell
def IW(env:Env)(h:Heap)(m:Str->Option OL)(x:Str)(u:OL):Prop:=
 (env.kindOf x=some .local/\m x=some u)\/((env.kindOf x=some .cell\/env.kindOf x=some .free)/\∃c,env.cells.lookup x=some c/\h.IsCell c (some u))
structure Cx.Ok(X:Cx):Prop where
 mod:Mod X.K X.mg X.base
 kind:X.env.scope.kind= .function
 glob:X.env.globals=OX
 blt:X.env.builtins=Rx
 above:X.s₀.heap.objs.size<=X.env.locals
 inj:∀x y c,X.env.cells.lookup x=some c->X.env.cells.lookup y=some c->x=y
 has:∀x,(X.env.kindOf x=some .cell\/X.env.kindOf x=some .free)->∃c,X.env.cells.lookup x=some c
 cab:∀x c,X.fn x=true->X.env.cells.lookup x=some c->X.s₀.heap.objs.size<=c
 hd:X.calm=true->X.A.handled=none
 frames:X.A.frames=some X.stack
 stk:X.stack=X.outer\/(X.stack=X.env::X.outer/\X.env.frame=some X.env.locals)
 exf:∀b∈X.ex,b≠X.env.locals/\∀x c,X.env.cells.lookup x=some c->c≠b
 bs:∀b o,X.base.get? b=some o->X.s₀.heap.get? b=some o/\X.H₀ b=none
 bsz:X.base.objs.size<=X.s₀.heap.objs.size
 noex:∀b o,X.base.get? b=some o->b∉X.ex
 exfs:∀b∈X.ex,b∉X.fs
 funs:X.s₀.heap.FunFrames X.base X.outer
 frf:∀b∈X.fs,X.H₀ b=none
structure Inv(X:Cx)(Ti:List (Addr×Obj))(σ:List (Option V))(H:Hp)(s:OO):Prop where
 ok:X.Ok
 os:s.os=X.s₀.os
 bare:QS s.gens
 base:Un X.fs X.ex X.H₀ H X.s₀.heap s.heap
 loc:∃m,s.heap.Ns X.env.locals m/\∀(i:Nat) (x:Str) (v:V),X.N[i]? =some x->σ[i]? =some (some v)->Vis X.env.scope x->∃u,RelV v u/\IW X.env s.heap m x u
 cell:∀x c,X.env.cells.lookup x=some c->∃v,s.heap.IsCell c v
 free:H X.env.locals=none
 freeC:∀x c,X.env.cells.lookup x=some c->H c=none
 pin:∀p∈X.pn++Ti,s.heap.get? p.1=some p.2/\H p.1=none/\p.1≠X.env.locals/\p.1∉X.fs/\∀v,p.2.data≠.cell v
 hok:HOk X.prog X.w H s.heap
 len:σ.length=X.N.length
section
variable{X:Cx}{Ti:List (Addr×Obj)}{σ:List (Option V)}{H H':Hp}{s:OO}{h':Heap}
theorem Cx.Ok.nofr(ok:X.Ok)(e:X.base.get? b=some o):b∉X.fs:=λhb=>by
 have:=(ok.funs.mem hb).1
 rw [e] at this;cases this
theorem Inv.bs(I:Inv X Ti σ H s):∀b o,X.base.get? b=some o->s.heap.get? b=some o/\H b=none:=λb o e=>
 ⟨I.base.keep b o (I.ok.bs b o e).1 (I.ok.bs b o e).2 (I.ok.nofr e) (I.ok.noex b o e),I.base.free b o (I.ok.bs b o e).1 (I.ok.bs b o e).2 (I.ok.noex b o e)⟩
theorem Inv.bk(I:Inv X Ti σ H s):∀b o,X.base.get? b=some o->s.heap.get? b=some o:=λb o e=>(I.bs b o e).1
theorem Inv.mod(I:Inv X Ti σ H s):Mod X.K X.mg X.base:=I.ok.mod
theorem Inv.kIn(I:Inv X Ti σ H s):X.K.In s.heap:=I.ok.mod.kin.keeps I.bk
theorem Inv.lt(I:Inv X Ti σ H s):X.env.locals<s.heap.objs.size:=let ⟨_,hn,_⟩:=I.loc;hn.lt
theorem Inv.sz(I:Inv X Ti σ H s):X.s₀.heap.objs.size<=s.heap.objs.size:=Nat.le_trans I.ok.above (Nat.le_of_lt I.lt)
theorem Inv.nofs(I:Inv X Ti σ H s){a:Addr}(h:s.heap.objs.size<=a):a∉X.fs:=λhb=>by
 obtain⟨_,o,ho,_⟩:=I.ok.funs.mem hb
 exact absurd (M7 (M3 ho) (Nat.le_trans I.sz h)) (NR _)
theorem Inv.cne(I:Inv X Ti σ H s):∀x c,X.env.cells.lookup x=some c->c≠X.env.locals:=λx c e z=>by
 obtain⟨v,o,ho,hd⟩:=I.cell x c e
 obtain⟨m,⟨o',es,ep,ho',hd',_⟩,_⟩:=I.loc
 rw [z,ho'] at ho;cases ho;rw [hd'] at hd;cases hd
theorem Inv.funs(I:Inv X Ti σ H s):s.heap.FunFrames X.base X.outer:=by
 have all:∀(l:List Env),(∀b∈frs l,b∈X.fs)->X.s₀.heap.FunFrames X.base l->s.heap.FunFrames X.base l:=by
  intro l
  induction l with
  | nil=>intro _ _;trivial
  | cons env r ih=>
   intro hs hl
   obtain⟨hk,⟨L,o,hf,hn,ho,hd⟩,hr⟩:=hl
   have hL:=hs L (by unfold frs;rw [NX,hf];exact MU)
   obtain⟨sl,e⟩:=I.base.slot L o ho (I.ok.frf L hL) hL λz=>I.ok.exfs L z hL
   exact⟨hk,⟨L,_,hf,hn,e,hd⟩,ih (λb hb=>hs b (by unfold frs;rw [NX,hf];exact MV _ hb)) hr⟩
 exact all X.outer (λ_ hb=>hb) I.ok.funs
theorem Inv.stack(I:Inv X Ti σ H s):s.heap.FunFrames X.base X.stack:=by
 rcases I.ok.stk with e | ⟨e,hf⟩
 ·rw [e];exact I.funs
 ·rw [e]
  obtain⟨m,hn,_⟩:=I.loc
  refine .cons (by rw [I.ok.kind];decide) hf hn ?_ I.funs
  exact Heap.get?_none_of_le (Nat.le_trans I.ok.bsz I.ok.above)
theorem Inv.stkSub(I:Inv X Ti σ H s):∀b∈frs X.stack,b∈X.env.locals::X.fs:=λb hb=>by
 rcases I.ok.stk with e | ⟨e,hf⟩
 ·rw [e] at hb;exact MV _ hb
 ·rw [e] at hb
  unfold frs at hb
  rw [NX,hf] at hb
  exact hb
theorem Inv.stkFree(I:Inv X Ti σ H s):∀b∈frs X.stack,H b=none:=λb hb=>by
 rcases List.mem_cons.mp (I.stkSub b hb) with e | hb
 ·rw [e];exact I.free
 ·obtain⟨_,o,ho,_⟩:=I.ok.funs.mem hb
  exact I.base.free b o ho (I.ok.frf b hb) λz=>I.ok.exfs b z hb
theorem Inv.step{ch:List Addr}(I:Inv X Ti σ H s)
 (hch:∀b∈ch,(b∈X.ex\/X.s₀.heap.objs.size<=b)/\b≠X.env.locals/\(∀x c,X.env.cells.lookup x=some c->c≠b)/\∀p∈X.pn++Ti,p.1≠b)
 (keep:∀b o,b≠X.env.locals->b∉X.fs->b∉ch->s.heap.get? b=some o->H b=none->h'.get? b=some o)
 (slot:∀b o,b≠X.env.locals->b∈X.fs->b∉ch->s.heap.get? b=some o->H b=none->∃sl,h'.get? b=some {o with slots:=sl}) (free:∀b o,b∉ch->s.heap.get? b=some o->H b=none->H' b=none)
 (there:∀b o,b∉ch->s.heap.get? b=some o->∃o',h'.get? b=some o')
 (tups:∀b xs,H b=some (.tup xs)->H' b=some (.tup xs)) (frzs:∀b o u,H b=some (.frz o u)->H' b=some (.frz o u)) (tbls:∀b ps,H b=some (.tbl ps)->∃more,H' b=some (.tbl (ps++more)))
 (ns:∀m,s.heap.Ns X.env.locals m->h'.Ns X.env.locals m) (hok:HOk X.prog X.w H' h') (hg:QS g'):
 Inv X Ti σ H' {s with heap:=h',gens:=g',drawn:=d',toks:=t'}:=by
 have neL:∀b o,X.s₀.heap.get? b=some o->b≠X.env.locals:=λb o e=>Nf (M7 (M3 e) I.ok.above)
 have neC:∀b o,X.s₀.heap.get? b=some o->b∉X.ex->b∉ch:=λb o e hx hb=>by
  rcases (hch b hb).1 with z | z
  ·exact hx z
  ·exact absurd (M7 (M3 e) z) (NR _)
 have cellK:∀x c,X.env.cells.lookup x=some c->∀v,s.heap.IsCell c v->h'.IsCell c v:=λx c e v ⟨o,ho,hd⟩=>by
  have nch:=λz=>(hch c z).2.2.1 x c e rfl
  by_cases hc:c∈X.fs
  ·obtain⟨sl,q⟩:=slot c o (I.cne x c e) hc nch ho (I.freeC x c e)
   exact⟨_,q,hd⟩
  ·exact⟨o,keep c o (I.cne x c e) hc nch ho (I.freeC x c e),hd⟩
 refine⟨I.ok,I.os,hg,⟨λb o e n hb hx=>?_,λb o e n hb hx=>?_,λb o e n hx=>?_,λb o e hx=>?_,λb xs e=>tups b xs (I.base.tups b xs e),λb o xs e=>frzs b o xs (I.base.frzs b o xs e),λb ps e=>?_⟩,?_,λx c e=>?_,?_,λx c e=>?_,λp hp=>?_,hok,I.len⟩
 ·exact keep b o (neL b o e) hb (neC b o e hx) (I.base.keep b o e n hb hx) (I.base.free b o e n hx)
 ·obtain⟨sl,e1⟩:=I.base.slot b o e n hb hx
  obtain⟨sl',e2⟩:=slot b _ (neL b o e) hb (neC b o e hx) e1 (I.base.free b o e n hx)
  exact⟨sl',e2⟩
 ·obtain⟨o',e1⟩:=I.base.there b o e hx
  exact free b o' (neC b o e hx) e1 (I.base.free b o e n hx)
 ·obtain⟨o',e1⟩:=I.base.there b o e hx
  exact there b o' (neC b o e hx) e1
 ·obtain⟨m1,e1⟩:=I.base.tbls b ps e
  obtain⟨m2,e2⟩:=tbls b _ e1
  exact⟨m1++m2,by rw [e2,Array.append_assoc]⟩
 ·obtain⟨m,hn,hl⟩:=I.loc
  refine⟨m,ns m hn,λi x v e1 e2 e3=>?_⟩
  obtain⟨u,r,l⟩:=hl i x v e1 e2 e3
  refine⟨u,r,?_⟩
  rcases l with l | ⟨k,c,e,z⟩
  ·exact .inl l
  ·exact .inr ⟨k,c,e,cellK x c e _ z⟩
 ·obtain⟨v,z⟩:=I.cell x c e
  exact⟨v,cellK x c e v z⟩
 ·obtain⟨m,⟨o,_,_,ho,_⟩,_⟩:=I.loc
  exact free _ o (λz=>(hch _ z).2.1 rfl) ho I.free
 ·obtain⟨v,o,ho,hd⟩:=I.cell x c e
  exact free c o (λz=>(hch c z).2.2.1 x c e rfl) ho (I.freeC x c e)
 ·obtain⟨e,n,ne,nf,d⟩:=I.pin p hp
  have nch:=λz=>(hch p.1 z).2.2.2 p hp rfl
  exact⟨keep p.1 p.2 ne nf nch e n,free p.1 p.2 nch e n,ne,nf,d⟩
theorem Inv.un(I:Inv X Ti σ H s)(u:Un X.fs [] H H' s.heap h')(hok:HOk X.prog X.w H' h'):Inv X Ti σ H' {s with heap:=h',toks:=t'}:=by
 obtain⟨m,⟨o,es,ep,ho,r⟩,_⟩:=id I.loc
 obtain⟨sl,hL⟩:=u.any ho I.free (by simp)
 exact I.step (ch:=[]) (λ_ z=>nomatch z) (λb o _ hb _ e n=>u.keep b o e n hb (by simp)) (λb o _ hb _ e n=>u.slot b o e n hb (by simp)) (λb o _ e n=>u.free b o e n (by simp)) (λb o _ e=>u.there b o e (by simp)) u.tups u.frzs u.tbls (λm' hm=>by
  obtain⟨o',es',ep',ho',r'⟩:=hm
  rw [ho] at ho';cases ho'
  exact⟨_,es',ep',hL,r'⟩) hok I.bare
theorem Inv.call(I:Inv X Ti σ H s)(u:Un (frs X.stack) ch H H' s.heap h')(hok:HOk X.prog X.w H' h')(hg:QS g')
 (hch:∀b∈ch,(b∈X.ex\/X.s₀.heap.objs.size<=b)/\b≠X.env.locals/\(∀x c,X.env.cells.lookup x=some c->c≠b)/\∀p∈X.pn++Ti,p.1≠b):
 Inv X Ti σ H' {s with heap:=h',gens:=g',drawn:=d',toks:=t'}:=by
 obtain⟨m,⟨o,es,ep,ho,r⟩,_⟩:=id I.loc
 obtain⟨sl,hL⟩:=u.any ho I.free λz=>(hch _ z).2.1 rfl
 exact I.step hch (λb o hL hb hc e n=>u.keep b o e n (λz=>(List.mem_cons.mp (I.stkSub b z)).elim hL hb) hc) (λb o _ _ hc e n=>u.any e n hc) (λb o hc e n=>u.free b o e n hc) (λb o hc e=>u.there b o e hc) u.tups u.frzs u.tbls (λm' hm=>by
  obtain⟨o',es',ep',ho',r'⟩:=hm
  rw [ho] at ho';cases ho'
  exact⟨_,es',ep',hL,r'⟩) hok hg
theorem Inv.turned(I:Inv X Ti σ H s)(k:∀b o,b≠it->s.heap.get? b=some o->h'.get? b=some o)(hn:H it=none)(hL:it≠X.env.locals)
 (h1:it∈X.ex\/X.s₀.heap.objs.size<=it) (h2:∀x c,X.env.cells.lookup x=some c->c≠it) (h3:∀p∈X.pn++Ti,p.1≠it):Inv X Ti σ H {s with heap:=h',toks:=t'}:=by
 have nit:∀b u,H b=some u->b≠it:=λb u e z=>by rw [z,hn] at e;cases e
 refine I.step (ch:=[it]) (λb hb=>?_) (λb o _ _ hc e _=>k b o (λz=>hc (by simp [z])) e) (λb o _ _ hc e _=>⟨o.slots,k b o (λz=>hc (by simp [z])) e⟩) (λ_ _ _ _ n=>n)
  (λb o hc e=>⟨o,k b o (λz=>hc (by simp [z])) e⟩) (λ_ _ e=>e) (λ_ _ _ e=>e) (λb ps e=>⟨#[],by rw [e];simp⟩) (λm hm=>?_) (λb u e=>?_) I.bare
 ·have e:b=it:=by simpa using hb
  subst e
  exact⟨h1,hL,h2,h3⟩
 ·obtain⟨o,es,ep,ho,r⟩:=hm
  exact⟨o,es,ep,k _ o (Ne.symm hL) ho,r⟩
 ·refine(I.hok b u e).stay (λc v hc q=>k c v ?_ q) (λ_ q=>q) λ_ _ q=>q
  rcases hc with z | z
  ·rw [z];exact nit b u e
  ·exact nit c _ z
theorem Inv.tok(I:Inv X Ti σ H s)(t:Nat):Inv X Ti σ H {s with toks:=t}:=I.un Un.refl I.hok
theorem Inv.kept(I:Inv X Ti σ H s)(k:∀b u,s.heap.get? b=some u->h'.get? b=some u):Inv X Ti σ H {s with heap:=h',toks:=t'}:=I.un (Un.kept k) (I.hok.kept k)
theorem Inv.laid{a:Addr}(I:Inv X Ti σ H s)(k:∀b u,s.heap.get? b=some u->h'.get? b=some u)(hp:s.heap.objs.size<=a)(new:ObjOk X.prog X.w (upd H a o) h' a o):
 Inv X Ti σ (upd H a o) {s with heap:=h',toks:=t'}:=I.un (Un.laid k hp (I.hok.fresh hp)) (I.hok.laid k hp new)
theorem Inv.write(I:Inv X Ti σ H s)(mu:Mut (H x))(he:e=x\/H e=some (.own x))(k:∀b u,b≠e->s.heap.get? b=some u->h'.get? b=some u)(heo:∃u,h'.get? e=some u)
 (new:ObjOk X.prog X.w (upd H x o) h' x o):Inv X Ti σ (upd H x o) {s with heap:=h',toks:=t'}:=I.un (Un.write mu he k heo) (I.hok.write mu he k heo new)
theorem Inv.pins_of(I:Inv X Ti σ H s)(h:∀p∈pins',s.heap.get? p.1=some p.2/\H p.1=none/\p.1≠X.env.locals/\p.1∉X.fs/\∀v,p.2.data≠.cell v):Inv X pins' σ H s:=
 ⟨I.ok,I.os,I.bare,I.base,I.loc,I.cell,I.free,I.freeC,λp hp=>(List.mem_append.mp hp).elim (λz=>I.pin p (NA _ z)) (h p),I.hok,I.len⟩
theorem rf{N:List Str}(hN:N.Nodup){j:Nat}(a:N[i]? =some x)(b:N[j]? =some x):i=j:=by
 obtain⟨h1,e1⟩:=List.getElem?_eq_some_iff.mp a
 obtain⟨h2,e2⟩:=List.getElem?_eq_some_iff.mp b
 exact(List.getElem_inj hN).mp (e1.trans e2.symm)
theorem pR(I:Inv X Ti σ H s)(hN:X.N.Nodup)(hi:X.N[i]? =some x)(hx:Loc X.env.scope x)(r:RelV v u)
 (h:∀s',Inv X Ti (σ.set i (some v)) H s'->(∃a,Heap.SameBut a s.heap s'.heap/\(a=X.env.locals\/X.env.cells.lookup x=some a))->Q () s') (hf:X.fn x=true\/X.env.scope.names.lookup x=some .local:=by first | exact .inl rfl | exact .inr rfl | assumption):OT M A (storeName X.env x u) Q E s:=by
 obtain⟨m,hn,hl⟩:=id I.loc
 have hcls:(X.env.scope.kind== .class || (X.env.scope.kind== .module&&X.env.locals != X.env.globals))=false:=by rw [I.ok.kind];rfl
 have hiσ:i<σ.length:=by rw [I.len];exact(List.getElem?_eq_some_iff.mp hi).1
 have cne:=I.cne
 have tracked:∀{a:Addr} {h':Heap},(∃o,s.heap.get? a=some o/\H a=none)->Heap.SameBut a s.heap h'->HOk X.prog X.w H h':=λ{a h'} ha hs b ob e=>by
  obtain⟨_,_,hfree⟩:=ha
  refine(I.hok b ob e).stay (λc w' hc q=>(hs.2 c ?_).trans q) (λ_ q=>q) λ_ _ q=>q
  rintro rfl
  rcases hc with rfl | hc
  ·rw [hfree] at e;cases e
  ·rw [hfree] at hc;cases hc
 rcases hx with hk | hk
 ·refine wpAny_storeName_local hk hn (λh' hn' hs=>?_) hcls
  obtain⟨oL,_,_,hoL,_⟩:=id hn
  refine h _ ⟨I.ok,I.os,I.bare,⟨λb o e n hb hx=>?_,λb o e n hb hx=>?_,I.base.free,λb o e hx=>?_,I.base.tups,I.base.frzs,I.base.tbls⟩,⟨_,hn',λj y v' e1 e2 e3=>?_⟩,λy c e=>?_,I.free,I.freeC,λp hp=>?_,tracked ⟨oL,hoL,I.free⟩ hs,by simpa using I.len⟩ ⟨_,hs,.inl rfl⟩
  ·exact(hs.2 b (Nf (M7 (M3 e) I.ok.above))).trans (I.base.keep b o e n hb hx)
  ·obtain⟨sl,e1⟩:=I.base.slot b o e n hb hx
   exact⟨sl,(hs.2 b (Nf (M7 (M3 e) I.ok.above))).trans e1⟩
  ·obtain⟨o',e1⟩:=I.base.there b o e hx
   exact⟨o',(hs.2 b (Nf (M7 (M3 e) I.ok.above))).trans e1⟩
  ·by_cases hj:j=i
   ·subst hj
    rw [hi] at e1;cases e1
    rw [List.getElem?_set_self hiσ] at e2
    cases e2
    exact⟨u,r,.inl ⟨hk,by simp⟩⟩
   ·rw [List.getElem?_set_ne (Ne.symm hj)] at e2
    obtain⟨u',r',q⟩:=hl j y v' e1 e2 e3
    refine⟨u',r',?_⟩
    rcases q with ⟨k,e⟩ | ⟨k,c,e,z⟩
    ·refine .inl ⟨k,?_⟩
     have:y≠x:=λe=>hj (rf hN e1 (e▸hi))
     simp [this,e]
    ·exact .inr ⟨k,c,e,z.sameBut hs (cne y c e)⟩
  ·obtain⟨w',z⟩:=I.cell y c e
   exact⟨w',z.sameBut hs (cne y c e)⟩
  ·obtain⟨e,n,ne,nf,d⟩:=I.pin p hp
   exact⟨(hs.2 p.1 ne).trans e,n,ne,nf,d⟩
 ·have hfn:X.fn x=true:=by
   rcases hf with z | z
   ·exact z
   ·rw [z] at hk;cases hk
  obtain⟨c,hc⟩:=I.ok.has x (.inl hk)
  obtain⟨w',z⟩:=I.cell x c hc
  refine wpAny_storeName_cell I.ok.kind hk hc z (λh' hc' hs=>?_)
  obtain⟨oc,hoc,hocd⟩:=id z
  refine h {s with heap:=h'} ⟨I.ok,I.os,I.bare,⟨λb o e n hb hx=>?_,λb o e n hb hx=>?_,I.base.free,λb o e hx=>?_,I.base.tups,I.base.frzs,I.base.tbls⟩,⟨m,hn.sameBut hs (Ne.symm (cne x c hc)),λj y v' e1 e2 e3=>?_⟩,λy c' e=>?_,I.free,I.freeC,λp hp=>?_,tracked ⟨oc,hoc,I.freeC x c hc⟩ hs,by simpa using I.len⟩ ⟨c,hs,.inr hc⟩
  ·exact(hs.2 b (Nf (M7 (M3 e) (I.ok.cab x c hfn hc)))).trans (I.base.keep b o e n hb hx)
  ·obtain⟨sl,e1⟩:=I.base.slot b o e n hb hx
   exact⟨sl,(hs.2 b (Nf (M7 (M3 e) (I.ok.cab x c hfn hc)))).trans e1⟩
  ·obtain⟨o',e1⟩:=I.base.there b o e hx
   exact⟨o',(hs.2 b (Nf (M7 (M3 e) (I.ok.cab x c hfn hc)))).trans e1⟩
  ·by_cases hj:j=i
   ·subst hj
    rw [hi] at e1;cases e1
    rw [List.getElem?_set_self hiσ] at e2
    cases e2
    exact⟨u,r,.inr ⟨.inl hk,c,hc,hc'⟩⟩
   ·rw [List.getElem?_set_ne (Ne.symm hj)] at e2
    obtain⟨u',r',q⟩:=hl j y v' e1 e2 e3
    refine⟨u',r',?_⟩
    rcases q with q | ⟨k,c',e,z'⟩
    ·exact .inl q
    ·refine .inr ⟨k,c',e,z'.sameBut hs ?_⟩
     rintro rfl
     exact hj (rf hN e1 (I.ok.inj _ _ _ e hc▸hi))
  ·by_cases hcc:c'=c
   ·subst hcc;exact⟨_,hc'⟩
   ·obtain⟨w2,z2⟩:=I.cell y c' e
    exact⟨w2,z2.sameBut hs hcc⟩
  ·obtain⟨e,n,ne,nf,d⟩:=I.pin p hp
   refine⟨(hs.2 p.1 ?_).trans e,n,ne,nf,d⟩
   intro q
   rw [q,hoc] at e
   have q':=Option.some.inj e
   exact d w' (by rw [<-q'];exact hocd)
theorem rh(I:Inv X Ti σ H s)(hN:X.N.Nodup)(hi:X.N[i]? =some x)(hx:Loc X.env.scope x)(r:RelV v u)
 (h:∀s',Inv X Ti (σ.set i (some v)) H s'->Q () s') (hf:X.fn x=true\/X.env.scope.names.lookup x=some .local:=by first | exact .inl rfl | exact .inr rfl | assumption):OT M A (storeName X.env x u) Q E s:=
 pR I hN hi hx r (λs' I' _=>h s' I') hf
theorem Inv.call'(I:Inv X Ti σ H s)(ho:s'.os=s.os)(u:Un (frs X.stack) ch H H' s.heap s'.heap)(hok:HOk X.prog X.w H' s'.heap)(hg:QS s'.gens)
 (hch:∀b∈ch,(b∈X.ex\/X.s₀.heap.objs.size<=b)/\b≠X.env.locals/\(∀x c,X.env.cells.lookup x=some c->c≠b)/\∀p∈X.pn++Ti,p.1≠b):Inv X Ti σ H' s':=by
 obtain⟨h',g',d',t',o'⟩:=s'
 have e:=ho
 subst e
 exact I.call u hok hg hch
end
abbrev XK:=OL->Option Addr->Hp->Prop
abbrev St:=List (Option V)
abbrev VK:=V->Hp->Prop
abbrev TE:=St->Hp->VK->Prop
abbrev TT:=St->Hp->(Bool->Hp->Prop)->Prop
abbrev TA:=St->Hp->(List V->Hp->Prop)->Prop
structure fB where
 nx:St->Hp->Prop
 rt:VK
 bk:St->Hp->Prop:=λ_ _=>False
 ct:St->Hp->Prop:=λ_ _=>False
abbrev TS:=fB->St->Hp->Prop
def EP(X:Cx)(Ti:List (Addr×Obj))(σ:St)(Q:VK)(u:OL)(s':OO):Prop:=∃v H',Inv X Ti σ H' s'/\RelV v u/\Q v H'
def TP(X:Cx)(Ti:List (Addr×Obj))(σ:St)(Q:Bool->Hp->Prop)(b:Bool)(s':OO):Prop:=∃H',Inv X Ti σ H' s'/\Q b H'
def AP(X:Cx)(Ti:List (Addr×Obj))(σ:St)(Q:List V->Hp->Prop)(us:List OL)(s':OO):Prop:=∃vs H',Inv X Ti σ H' s'/\Vals vs us/\Q vs H'
def SP(X:Cx)(Ti:List (Addr×Obj))(D:fB)(f:Flow)(s':OO):Prop:=
 match f with
 | .next=>∃σ' H',Inv X Ti σ' H' s'/\D.nx σ' H'
 | .brk=>∃σ' H',Inv X Ti σ' H' s'/\D.bk σ' H'
 | .cont=>∃σ' H',Inv X Ti σ' H' s'/\D.ct σ' H'
 | .ret u=>∃v σ' H',Inv X Ti σ' H' s'/\RelV v u/\D.rt v H'
def PE(X:Cx)(e:Expr)(t:TE):Prop:=
 ∀(Ti:List (Addr×Obj)) (s:OO) (σ:St) (H:Hp) (Q:VK),Inv X Ti σ H s->t σ H Q->OT (model X.prog X.w) X.A (eval e X.env) (EP X Ti σ Q) X.xe s
def PT(X:Cx)(e:Expr)(t:TT):Prop:=
 ∀(Ti:List (Addr×Obj)) (s:OO) (σ:St) (H:Hp) (Q:Bool->Hp->Prop),Inv X Ti σ H s->t σ H Q->OT (model X.prog X.w) X.A (SJ e X.env (eval e X.env)) (TP X Ti σ Q) X.xe s
def PW(X:Cx)(e:Expr)(t:TT):Prop:=
 ∀(whole:Sem OL) (Ti:List (Addr×Obj)) (s:OO) (σ:St) (H:Hp) (Q:Bool->Hp->Prop),Inv X Ti σ H s->t σ H Q->OT (model X.prog X.w) X.A (SJ e X.env whole) (TP X Ti σ Q) X.xe s
theorem PW.pt(h:PW X e t):PT X e t:=h _
def PA(X:Cx)(es:List Expr)(t:TA):Prop:=
 ∀(pos:Pos) (Ti:List (Addr×Obj)) (s:OO) (σ:St) (H:Hp) (Q:List V->Hp->Prop),Inv X Ti σ H s->t σ H Q->OT (model X.prog X.w) X.A (spliced (PP pos (OU es X.env))) (AP X Ti σ Q) X.xe s
def PS(X:Cx)(st:Stmt)(t:TS):Prop:=
 ∀(Ti:List (Addr×Obj)) (s:OO) (σ:St) (H:Hp) (D:fB),Inv X Ti σ H s->t D σ H->OT (model X.prog X.w) X.A (exec st X.env) (SP X Ti D) X.xe s
def PSs(X:Cx)(st:List Stmt)(t:TS):Prop:=
 ∀(Ti:List (Addr×Obj)) (s:OO) (σ:St) (H:Hp) (D:fB),Inv X Ti σ H s->t D σ H->OT (model X.prog X.w) X.A (execs st X.env) (SP X Ti D) X.xe s
theorem thn{t:Sem α}{Q Q':α->OO->Prop}(h:OT M A t Q E s)(hQ:∀a s,Q a s->Q' a s):OT M A t Q' E s:=O6 h hQ λ_ _ x=>x
section
variable{X:Cx}
def dF(i:Nat):TE:=λσ H Q=>∃v,σ[i]? =some (some v)/\Q v H
def tC(v:V):TE:=λ_ H Q=>Q v H
theorem Ed{pos:Pos}(hN:X.N[i]? =some x)(hv:Vis X.env.scope x)(hd:(x==("__debug__":Str))=false:=by decide)(hcd:(x==("__classdict__":Str))=false:=by decide):PE X (.Name x pos) (dF i):=by
 intro Ti s σ H Q I h
 obtain⟨v,e,h⟩:=h
 obtain⟨m,hn,hl⟩:=I.loc
 obtain⟨u,r,l⟩:=hl i x v hN e hv
 have fin:EP X Ti σ Q u s:=⟨v,H,I,r,h⟩
 rcases l with ⟨hk,hm⟩ | ⟨hk,c,hc,hcell⟩
 ·exact Sa (wpAny_loadName_local I.ok.kind hk hn hm fin) hd
 ·rcases hk with hk | hk
  ·exact Sa (wpAny_loadName_cell I.ok.kind hk hc hcell fin) hd
  ·exact Sa (wpAny_loadName_free I.ok.kind hk hc hcell fin hcd) hd
theorem ab:PE X (.Constant (.int i) j pos) (tC (.int i)):=λ_ _ _ H _ I h=>wpAny_Constant_int ⟨.int i,H,I.tok _,⟨_,rfl⟩,h⟩
theorem ci:PE X (.Constant (.bool b) j pos) (tC (.bl b)):=λ_ _ _ H _ I h=>Constant_bool ⟨.bl b,H,I,rfl,h⟩
theorem bp:PE X (.Constant .none j pos) (tC .non):=λ_ _ _ H _ I h=>Constant_none ⟨.non,H,I,rfl,h⟩
theorem ae:PE X (.Constant (.str x) j pos) (tC (.str x)):=λ_ _ _ H _ I h=>Calls.Constant_str ⟨.str x,H,I.tok _,⟨_,rfl⟩,h⟩
def Gl(X:Cx)(x:Str):Prop:=X.env.kindOf x=some .globalImplicit
theorem ja{σ:St}(I:Inv X Ti σ H s)(hg:Gl X x)(hm:X.mg x=some u)(h:Q u s)
 (hd:(x==("__debug__":Str))=false:=by decide):OT (model X.prog X.w) X.A (eval (.Name x pos) X.env) Q E s:=
 Calls.Name_function_global I.ok.kind hg (Calls.loadGlobal_global (by rw [I.ok.glob];exact I.mod.glob.keeps I.bk) hm h) hd
theorem eO{E:OL->OO->Prop}{σ:St}{pos:Pos}(I:Inv X Ti σ H s)(hg:Gl X x)(hm:X.mg x=none)(hv:Pa x=some u)(h:Q u s)
 (hn:x≠"__name__":=by decide) (hd:(x==("__debug__":Str))=false:=by decide):OT (model X.prog X.w) X.A (eval (.Name x pos) X.env) Q E s:=by
 obtain⟨mb,h1,h2⟩:=I.mod.blt
 exact Calls.Name_function_global I.ok.kind hg (Calls.loadGlobal_builtin (by rw [I.ok.glob];exact I.mod.glob.keeps I.bk) hm (by rw [I.ok.blt];exact h1.keeps I.bk) ((h2 x hn).trans hv) h) hd
theorem fC(hg:Gl X x)(hm:X.mg x=some u)(r:RelV v u)(hd:(x==("__debug__":Str))=false:=by decide):PE X (.Name x pos) (tC v):=
 λ_ _ _ H _ I h=>ja I hg hm ⟨v,H,I,r,h⟩ hd
theorem Cg{pos:Pos}(hg:Gl X x)(hm:X.mg x=none)(hv:Pa x=some u)(r:RelV v u)(hn:x≠"__name__":=by decide)(hd:(x==("__debug__":Str))=false:=by decide):PE X (.Name x pos) (tC v):=
 λ_ _ _ H _ I h=>eO I hg hm hv ⟨v,H,I,r,h⟩ hn hd
variable{a b:Expr}{ta tb:TE}{pos:Pos}
def PC(X:Cx)(op:CmpOp)(a b:Expr)(t:TE):Prop:=
 ∀(Ti:List (Addr×Obj)) (s:OO) (σ:St) (H:Hp) (Q:VK),Inv X Ti σ H s->t σ H Q->
  OT (model X.prog X.w) X.A (eval a X.env) (λv s₁=>OT (model X.prog X.w) X.A (eval b X.env) (λu s₂=>OT (model X.prog X.w) X.A (Pc op v u) (EP X Ti σ Q) X.xe s₂) X.xe s₁) X.xe s
def tB(t:TE):TT:=λσ H Q=>t σ H λx H1=>∃c,x= .bl c/\Q c H1
theorem xo(h:PC X op a b t)(h1:PU op b=false:=by first | exact nobehind _ (by decide) (by decide) | rfl):PT X (.Compare a [op] [b] pos) (tB t):=by
 intro Ti s σ H Q I hw
 refine wpAny_isTrue_Compare1 (thn (h Ti s σ H _ I hw) λv s1 h1=>thn h1 λu s2 h2=>thn h2 λc s3 z=>?_) h1
 obtain⟨x,H1,I1,r1,q1⟩:=z
 obtain⟨d,rfl,q⟩:=q1
 cases r1
 exact Pw ⟨H1,I1,q⟩
theorem bX(h:PE X e t)(he:∀whole,SJ e X.env whole=(do let v <-whole;QE e.pos;holding [v] (truthy v)):=by intro _;rfl):PT X e (tB t):=by
 intro Ti s σ H Q I hw
 refine isTrue_plain (thn (h Ti s σ H _ I hw) λv s1 ⟨x,H1,I1,r1,q1⟩=>?_) (he _)
 obtain⟨d,rfl,q⟩:=q1
 cases r1
 exact Pw ⟨H1,I1,q⟩
variable{tA tB':TT}{rest:List Expr}
def zD(t u:TT):TT:=λσ H Q=>t σ H λc H1=>if c=true then u σ H1 Q else Q false H1
def tOr(t u:TT):TT:=λσ H Q=>t σ H λc H1=>if c=true then Q true H1 else u σ H1 Q
def zE(t:TT):TT:=λσ H Q=>t σ H λc H1=>Q (!c) H1
theorem cR(ha:PT X a tA):PW X (.BoolOp .And [a] pos) tA:=by
 intro wh Ti s σ H Q I h
 refine isTrue_and (thn (ha Ti s σ H Q I h) λc s1 e=>?_)
 cases c with
 | true=>exact isTrue_and_nil e
 | false=>exact e
theorem j5(ha:PT X a tA):PW X (.BoolOp .Or [a] pos) tA:=by
 intro wh Ti s σ H Q I h
 refine isTrue_or (thn (ha Ti s σ H Q I h) λc s1 e=>?_)
 cases c with
 | false=>exact isTrue_or_nil e
 | true=>exact e
theorem dG(ha:PT X a tA)(hb:PW X (.BoolOp .And (b::rest) pos) tB'):PW X (.BoolOp .And (a::b::rest) pos) (zD tA tB'):=by
 intro wh Ti s σ H Q I h
 refine isTrue_and (thn (ha Ti s σ H _ I h) λc s1 z=>?_)
 obtain⟨H1,I1,q1⟩:=z
 cases c with
 | true=>exact hb wh Ti s1 σ H1 Q I1 q1
 | false=>exact⟨H1,I1,q1⟩
theorem kW(ha:PT X a tA)(hb:PW X (.BoolOp .Or (b::rest) pos) tB'):PW X (.BoolOp .Or (a::b::rest) pos) (tOr tA tB'):=by
 intro wh Ti s σ H Q I h
 refine isTrue_or (thn (ha Ti s σ H _ I h) λc s1 z=>?_)
 obtain⟨H1,I1,q1⟩:=z
 cases c with
 | true=>exact⟨H1,I1,q1⟩
 | false=>exact hb wh Ti s1 σ H1 Q I1 q1
theorem dv(ha:PT X a tA):PT X (.UnaryOp .Not a pos) (zE tA):=by
 intro Ti s σ H Q I h
 exact isTrue_not (ha Ti s σ H (λc H1=>Q (!c) H1) I h)
def BA(ta tb:TE):TE:=λσ H Q=>ta σ H λx H1=>∃c,x= .bl c/\if c=true then tb σ H1 Q else Q (.bl false) H1
def Ee(ta tb:TE):TE:=λσ H Q=>ta σ H λx H1=>∃c,x= .bl c/\if c=true then Q (.bl true) H1 else tb σ H1 Q
theorem nE(h:PE X a t):PE X (.BoolOp op [a] pos) t:=λTi s σ H Q I hw=>BoolOp_one (h Ti s σ H Q I hw)
theorem j6(ha:PE X a ta)(hb:PE X (.BoolOp .And (b::rest) pos) tb):PE X (.BoolOp .And (a::b::rest) pos) (BA ta tb):=by
 intro Ti s σ H Q I h
 refine BoolOp_and (thn (ha Ti s σ H _ I h) λv s1 z=>?_)
 obtain⟨x,H1,I1,r1,q1⟩:=z
 obtain⟨c,rfl,q1⟩:=q1
 cases r1
 apply Pw
 cases c with
 | true=>exact hb Ti s1 σ H1 Q I1 q1
 | false=>exact⟨.bl false,H1,I1,rfl,q1⟩
theorem Hs(ha:PE X a ta)(hb:PE X (.BoolOp .Or (b::rest) pos) tb):PE X (.BoolOp .Or (a::b::rest) pos) (Ee ta tb):=by
 intro Ti s σ H Q I h
 refine BoolOp_or (thn (ha Ti s σ H _ I h) λv s1 z=>?_)
 obtain⟨x,H1,I1,r1,q1⟩:=z
 obtain⟨c,rfl,q1⟩:=q1
 cases r1
 apply Pw
 cases c with
 | false=>exact hb Ti s1 σ H1 Q I1 q1
 | true=>exact⟨.bl true,H1,I1,rfl,q1⟩
def tIf(t:TT)(ta tb:TE):TE:=λσ H Q=>t σ H λc H1=>if c=true then ta σ H1 Q else tb σ H1 Q
theorem rj{c:Expr}(hc:PT X c tA)(ha:PE X a ta)(hb:PE X b tb):PE X (.IfExp c a b pos) (tIf tA ta tb):=by
 intro Ti s σ H Q I h
 refine wpAny_IfExp (thn (hc Ti s σ H _ I h) λd s1 ⟨H1,I1,q1⟩=>?_)
 cases d with
 | true=>exact ha Ti s1 σ H1 Q I1 q1
 | false=>exact hb Ti s1 σ H1 Q I1 q1
end
def SqL(K:N5)(H:Hp)(a:Addr)(xs:List V):Prop:=
 Rd H a (.lst xs)\/
  ∃(o:Obj) (its:Array OL) (n:Nat),K.lookup a=some o/\o.cls= .type "list"/\o.dict=none/\o.data= .seq its n/\its.size<=ON/\Vals xs its.toList
def SqT(K:N5)(H:Hp)(a:Addr)(xs:List V):Prop:=
 Rd H a (.tup xs)\/
  ∃(o:Obj) (its:Array OL) (n:Nat),K.lookup a=some o/\o.cls= .type "tuple"/\o.data= .seq its n/\its.size<=ON/\Vals xs its.toList
noncomputable def IX:OL->Option V
 | .none=>some .non
 | .bool b=>some (.bl b)
 | .int i _=>some (.int i)
 | .str x _=>some (.str x)
 | .bytes b _=>some (.byt b)
 | .float b _=>some (.flt b)
 | .ref a=>some (.ref a)
 | .type n=>some (.ty n)
 | _=>none
theorem RelV.abs(r:RelV x u):IX u=some x:=by
 cases x with
 | non=>cases r;rfl
 | bl _=>cases r;rfl
 | int _=>obtain⟨t,rfl⟩:=r;rfl
 | str _=>obtain⟨t,rfl⟩:=r;rfl
 | byt _=>obtain⟨t,rfl⟩:=r;rfl
 | flt _=>obtain⟨t,rfl⟩:=r;rfl
 | ref _=>cases r;rfl
 | ty _=>cases r;rfl
theorem RelV.inj(r:RelV x u)(q:RelV y u):x=y:=Option.some.inj (r.abs.symm.trans q.abs)
theorem Vals.inj:∀{xs ys:List V} {us:List OL},Vals xs us->Vals ys us->xs=ys:=by
 intro xs ys us h
 induction h generalizing ys with
 | nil=>intro h;cases h;rfl
 | cons r t ih=>
  intro h
  cases h with
  | cons r' t'=>rw [r.inj r',ih t']
section
variable{X:Cx}{Ti:List (Addr×Obj)}{σ:St}{H:Hp}{s:OO}{a:Addr}{xs ys:List V}
theorem SqL.of{K:N5}(h:H a=some (.lst xs)):SqL K H a xs:=.inl (.inl h)
theorem SqT.of{K:N5}(h:H a=some (.tup xs)):SqT K H a xs:=.inl (.inl h)
theorem Inv.list(I:Inv X Ti σ H s)(h:SqL X.K H a xs):∃its,Vals xs its/\PlainL s.heap a its.toArray/\xs.length<=ON:=by
 rcases h with h | ⟨o,its,n,hk,hc,hd,hs,hz,r⟩
 ·obtain⟨z,its,n,r,e⟩:=h.ok I.hok
  exact⟨its,r,⟨_,n,e,rfl,rfl,rfl⟩,z⟩
 ·refine⟨its.toList,r,⟨o,n,I.kIn a o hk,hc,hd,by simpa using hs⟩,?_⟩
  have e:=r.length
  simp only [Array.length_toList] at e
  lia
theorem Inv.tuple(I:Inv X Ti σ H s)(h:SqT X.K H a xs):∃its,Vals xs its/\SG s.heap a its.toArray/\xs.length<=ON:=by
 rcases h with h | ⟨o,its,n,hk,hc,hs,hz,r⟩
 ·obtain⟨z,its,r,p⟩:=h.ok I.hok
  exact⟨its,r,p,z⟩
 ·refine⟨its.toList,r,⟨o,I.kIn a o hk,hc,n,by simpa using hs⟩,?_⟩
  have e:=r.length
  simp only [Array.length_toList] at e
  lia
theorem Inv.list_inj(I:Inv X Ti σ H s)(h:SqL X.K H a xs)(h':SqL X.K H a ys):xs=ys:=by
 obtain⟨its,r,⟨o,n,e,_,_,d⟩,_⟩:=I.list h
 obtain⟨its',r',⟨o',n',e',_,_,d'⟩,_⟩:=I.list h'
 rw [e] at e';cases e'
 rw [d] at d'
 injection d' with d1 _
 have:its=its':=by simpa using congrArg Array.toList d1
 subst this
 exact r.inj r'
theorem Inv.tuple_inj(I:Inv X Ti σ H s)(h:SqT X.K H a xs)(h':SqT X.K H a ys):xs=ys:=by
 obtain⟨its,r,⟨o,e,_,n,d⟩,_⟩:=I.tuple h
 obtain⟨its',r',⟨o',e',_,n',d'⟩,_⟩:=I.tuple h'
 rw [e] at e';cases e'
 rw [d] at d'
 injection d' with d1 _
 have:its=its':=by simpa using congrArg Array.toList d1
 subst this
 exact r.inj r'
end
noncomputable abbrev Cx.wish(X:Cx)(E:OL->OO->Prop):Cx:={X with xe:=E}
noncomputable abbrev Cx.nox(X:Cx):Cx:=X.wish λ_ _=>False
theorem Cx.Ok.wish{X:Cx}(ok:X.Ok)(E:OL->OO->Prop):(X.wish E).Ok:=
 ⟨ok.mod,ok.kind,ok.glob,ok.blt,ok.above,ok.inj,ok.has,ok.cab,ok.hd,ok.frames,ok.stk,ok.exf,ok.bs,ok.bsz,ok.noex,ok.exfs,ok.funs,ok.frf⟩
theorem Cx.Ok.unwish{X:Cx}(ok:(X.wish E).Ok):X.Ok:=
 ⟨ok.mod,ok.kind,ok.glob,ok.blt,ok.above,ok.inj,ok.has,ok.cab,ok.hd,ok.frames,ok.stk,ok.exf,ok.bs,ok.bsz,ok.noex,ok.exfs,ok.funs,ok.frf⟩
section
variable{X:Cx}{Ti:List (Addr×Obj)}{σ:St}{H:Hp}{s:OO}{E:OL->OO->Prop}
theorem Inv.wish(I:Inv X Ti σ H s)(E:OL->OO->Prop):Inv (X.wish E) Ti σ H s:=⟨I.ok.wish E,I.os,I.bare,I.base,I.loc,I.cell,I.free,I.freeC,I.pin,I.hok,I.len⟩
theorem Inv.unwish(I:Inv (X.wish E) Ti σ H s):Inv X Ti σ H s:=⟨I.ok.unwish,I.os,I.bare,I.base,I.loc,I.cell,I.free,I.freeC,I.pin,I.hok,I.len⟩
theorem SP.unwish(h:SP (X.wish E) Ti D f s'):SP X Ti D f s':=by
 cases f with
 | next=>obtain⟨σ',H',I,q⟩:=h;exact⟨σ',H',I.unwish,q⟩
 | brk=>obtain⟨σ',H',I,q⟩:=h;exact⟨σ',H',I.unwish,q⟩
 | cont=>obtain⟨σ',H',I,q⟩:=h;exact⟨σ',H',I.unwish,q⟩
 | ret u=>obtain⟨v,σ',H',I,r,q⟩:=h;exact⟨v,σ',H',I.unwish,r,q⟩
theorem PSs.nox{st:List Stmt}(h:PSs X.nox st t):PSs X st t:=λTi s σ H D I hw=>
 O6 (h Ti s σ H D (I.wish _) hw) (λ_ _ q=>q.unwish) λ_ _ z=>False.elim z
end
section
variable{X:Cx}{st:Stmt}{rest:List Stmt}{t u:TS}{e:Expr}{te:TE}{pos:Pos}
def jE:TS:=λD σ H=>D.nx σ H
def cS(t u:TS):TS:=λD σ H=>t {D with nx:=u D} σ H
theorem aG:PSs X [] jE:=λ_ _ σ H _ I h=>Qk ⟨σ,H,I,h⟩
theorem aa(h1:PS X st t)(h2:PSs X rest u):PSs X (st::rest) (cS t u):=by
 intro Ti s σ H D I h
 refine wpAny_execs_cons (thn (h1 Ti s σ H {D with nx:=u D} I h) λf s1 q=>?_)
 cases f with
 | next=>
  obtain⟨σ',H',I',q⟩:=q
  exact h2 Ti s1 σ' H' D I' q
 | ret v=>exact q
 | brk=>exact q
 | cont=>exact q
theorem ac(h1:PS X st t):PSs X [st] t:=by
 intro Ti s σ H D I h
 refine wpAny_execs_cons (thn (h1 Ti s σ H D I h) λf s1 q=>?_)
 cases f with
 | next=>exact Qk q
 | ret v=>exact q
 | brk=>exact q
 | cont=>exact q
theorem Inv.quiet{σ:St}(I:Inv X Ti σ H s):interactive X.env=false:=by simp [interactive,I.ok.kind]
def dQ(te:TE):TS:=λD σ H=>te σ H λ_ H1=>D.nx σ H1
theorem aO(he:PE X e te)(hs:Qx e none pos.line X.env=pure false:=by rfl):PS X (.Expr e pos) (dQ te):=by
 intro Ti s σ H D I h
 exact wpAny_Expr_any (thn (he Ti s σ H _ I h) λv s1 z=>by obtain⟨x,H1,I1,r1,q1⟩:=z;exact⟨σ,H1,I1,q1⟩) I.quiet hs
def j7(te:TE):TS:=λD σ H=>te σ H D.rt
theorem az(he:PE X e te):PS X (.Return (some e) pos) (j7 te):=by
 intro Ti s σ H D I h
 exact wpAny_Return_some (thn (he Ti s σ H _ I h) λv s1 z=>by obtain⟨x,H1,I1,r1,q1⟩:=z;exact⟨x,σ,H1,I1,r1,q1⟩)
def qN:TS:=λD _ H=>D.rt .non H
theorem jb:PS X (.Return none pos) qN:=λ_ _ σ H _ I h=>wpAny_Return_none ⟨.non,σ,H,I,rfl,h⟩
def oW(c:TT)(t u:TS):TS:=λD σ H=>c σ H λb H1=>if b=true then t D σ H1 else u D σ H1
theorem aJ(hc:PT X c tc)(ha:PSs X a t)(hb:PSs X b u):PS X (.If c a b pos) (oW tc t u):=by
 intro Ti s σ H D I h
 refine wpAny_If (thn (hc Ti s σ H _ I h) λd s1 z=>?_)
 obtain⟨H1,I1,q1⟩:=z
 cases d with
 | true=>exact ha Ti s1 σ H1 D I1 q1
 | false=>exact hb Ti s1 σ H1 D I1 q1
def Ef:TS:=λ_ _ _=>False
theorem bS:PSs X sts Ef:=λ_ _ _ _ _ _ h=>h.elim
end
abbrev TG:=V->St->Hp->(St->Hp->Prop)->Prop
abbrev TGs:=List V->St->Hp->(St->Hp->Prop)->Prop
def PG(X:Cx)(target:Expr)(t:TG):Prop:=
 ∀(Ti:List (Addr×Obj)) (s:OO) (σ:St) (H:Hp) (v:V) (u:OL) (Q:St->Hp->Prop),Inv X Ti σ H s->RelV v u->t v σ H Q->
  OT (model X.prog X.w) X.A (assign target X.env u) (λ_ s'=>∃σ' H',Inv X Ti σ' H' s'/\Q σ' H') X.xe s
def PGs(X:Cx)(ts:List Expr)(t:TGs):Prop:=
 ∀(Ti:List (Addr×Obj)) (s:OO) (σ:St) (H:Hp) (vs:List V) (us:List OL) (Q:St->Hp->Prop),Inv X Ti σ H s->Vals vs us->t vs σ H Q->
  OT (model X.prog X.w) X.A (assignInOrder ((PL ts X.env).map (·.2)) us) (λ_ s'=>∃σ' H',Inv X Ti σ' H' s'/\Q σ' H') X.xe s
abbrev Eg:=V->V->V->Hp->(Hp->Prop)->Prop
def vN(X:Cx)(t:Eg):Prop:=
 ∀(Ti:List (Addr×Obj)) (s:OO) (σ:St) (H:Hp) (o i v:V) (ov iv u:OL) (Q:Hp->Prop),Inv X Ti σ H s->RelV o ov->RelV i iv->RelV v u->t o i v H Q->
  OT (model X.prog X.w) X.A (setItem ov iv u) (λ_ s'=>∃H',Inv X Ti σ H' s'/\Q H') X.xe s
section
variable{X:Cx}{pos:Pos}
def bW(i:Nat):TG:=λv σ H Q=>Q (σ.set i (some v)) H
theorem dw(hN:X.N.Nodup)(hi:X.N[i]? =some x)(hx:Loc X.env.scope x)(hf:X.fn x=true\/X.env.scope.names.lookup x=some .local:=by first | exact .inl rfl | exact .inr rfl | assumption):PG X (.Name x pos) (bW i):=by
 intro Ti s σ H v u Q I r h
 exact wpAny_assign_Name (rh I hN hi hx r (λs' I'=>⟨_,H,I',h⟩) hf)
def zF:TGs:=λvs σ H Q=>vs= []/\Q σ H
def vO(t:TG)(u:TGs):TGs:=λvs σ H Q=>∃v r,vs=v::r/\t v σ H λσ' H'=>u r σ' H' Q
theorem bq:PGs X [] zF:=by
 intro Ti s σ H vs us Q I r h
 obtain⟨e,h⟩:=h
 exact assignInOrder_nil ⟨σ,H,I,h⟩
theorem aE(h1:PG X e t)(h2:PGs X es u)
 (hs:(PL (e::es) X.env).map (·.2)=assign e X.env::(PL es X.env).map (·.2):=by rfl):PGs X (e::es) (vO t u):=by
 intro Ti s σ H vs us Q I r h
 obtain⟨v,vr,e1,h⟩:=h
 subst e1
 cases r with
 | cons r rr=>
  rw [hs]
  refine assignInOrder_cons (thn (h1 Ti s σ H _ _ _ I r h) λ_ s1 z=>?_)
  obtain⟨σ1,H1,I1,q1⟩:=z
  exact h2 Ti s1 σ1 H1 _ _ Q I1 rr q1
def Eh(K:N5)(n:Nat)(t:TGs):TG:=λv σ H Q=>∃a xs,v= .ref a/\SqT K H a xs/\xs.length=n/\t xs σ H Q
theorem Ei{k:Nat}(hc:X.calm=true)(h:PGs X es t)
 (hn:(PL es X.env).length=n:=by rfl) (hst:(PL es X.env).findIdx? (·.1)=none:=by rfl):PG X (.Tuple es k pos) (Eh X.K n t):=by
 intro Ti s σ H v u Q I r hw
 obtain⟨a,xs,e1,hq,hl,hw⟩:=hw
 subst e1
 cases r
 obtain⟨its,rv,ht,hz⟩:=I.tuple hq
 refine assign_Tuple_tuple (I.ok.hd hc) ht (by simp [hn,<-hl,rv.length]) hst λh' hx=>?_
 have I1:Inv X Ti σ H {s with heap:=h'}:=I.kept λb o e=>hx b o (Nf (M3 e)) e
 exact h Ti _ σ H xs _ Q I1 (by simpa using rv) hw
def Ej(to ti:TE)(t:Eg):TG:=λv σ H Q=>to σ H λo H1=>ti σ H1 λi H2=>t o i v H2 λH3=>Q σ H3
theorem nG(ho:PE X o to)(hi:PE X i ti)(hs:vN X t)
 (ha:∀v,assign (.Subscript o i pos) X.env v=(do
  let ov <-holding [v] (eval o X.env)
  let iv <-holding [v,ov] (eval i X.env)
  QE pos
  holding [v,ov,iv] (setItem ov iv v)
  release [v,ov,iv] []):=by intro _;rfl):PG X (.Subscript o i pos) (Ej to ti t):=by
 intro Ti s σ H v u Q I r h
 refine OK (OZ (thn (ho Ti s σ H _ I h) λov s1 zz=>?_))
 obtain⟨x,H1,I1,r1,q1⟩:=zz
 refine OK (OZ (thn (hi Ti s1 σ H1 _ I1 q1) λiv s2 w=>?_))
 obtain⟨y,H2,I2,r2,q2⟩:=w
 refine OK (QF (OK (OZ (thn (hs Ti s2 σ H2 x y v ov iv u _ I2 r1 r2 r q2) λ_ s3 z=>?_))))
 obtain⟨H3,I3,q3⟩:=z
 exact wpAny_release ⟨σ,H3,I3,q3⟩
def cG(te:TE)(g:TG):TS:=λD σ H=>te σ H λx H1=>g x σ H1 D.nx
theorem cr(he:PE X e te)(hg:PG X tg g)(hs:swapsWithSole [tg] e pos.line X.env=pure false:=by rfl)(hw:swappedStores [tg] e X.env=pure none:=by rfl)
 (h1:(PL [tg] X.env).map (·.2)= [assign tg X.env]:=by rfl):PS X (.Assign [tg] e pos) (cG te g):=by
 intro Ti s σ H D I h
 refine wpAny_Assign_stores (thn (he Ti s σ H _ I h) λv s1 z=>?_) hs hw
 obtain⟨x,H1,I1,r1,q1⟩:=z
 rw [h1]
 exact thn (hg Ti s1 σ H1 x v _ I1 r1 q1) λ_ s2 q=>q
theorem nI(hN:X.N.Nodup)(hi:X.N[i]? =some x)(hx:Loc X.env.scope x)(he:PE X e te)(hs:Qx e (some (.Name x pos')) pos.line X.env=pure false:=by rfl)(hf:X.fn x=true\/X.env.scope.names.lookup x=some .local:=by first | exact .inl rfl | exact .inr rfl | assumption):
 PS X (.Assign [.Name x pos'] e pos) (cG te (bW i)):=by
 intro Ti s σ H D I h
 refine wpAny_Assign_Name (thn (he Ti s σ H _ I h) λv s1 z=>?_) hs
 obtain⟨y,H1,I1,r1,q1⟩:=z
 exact rh I1 hN hi hx r1 (λs2 I2=>⟨_,H1,I2,q1⟩) hf
def Ek(c:TT)(tb:TS):TS:=λD σ H=>∃W:Nat->St->Hp->Prop,(∃m,W m σ H)/\∀m σ H,W m σ H->
 c σ H λb H1=>if b=true then ∃N:St->Hp->Prop,(∀σ' H',N σ' H'->∃m',m'<m/\W m' σ' H')/\tb {D with nx:=N,ct:=N,bk:=D.nx} σ H1 else D.nx σ H1
theorem cZ(hp:O1 (model X.prog X.w) X.A X.env X.xe)(hc:PT X c tc)(hb:PSs X body tb):PS X (.While c body [] pos) (Ek tc tb):=by
 intro Ti s σ H D I h
 obtain⟨W,⟨m0,w0⟩,turn⟩:=h
 refine wpAny_While (codeAny_whileLoop (λn s'=>∃σ' H',Inv X Ti σ' H' s'/\W n σ' H') ?_ m0 ⟨σ,H,I,w0⟩)
 rintro n s1 ⟨σ1,H1,I1,w1⟩
 refine Px hp (thn (hc Ti s1 σ1 H1 _ I1 (turn n σ1 H1 w1)) λb s2 z=>?_)
 obtain⟨H2,I2,q2⟩:=z
 cases b with
 | true=>
  obtain⟨N,hN,q2⟩:=q2
  refine Px hp (thn (hb Ti s2 σ1 H2 _ I2 q2) λf s3 q3=>?_)
  cases f with
  | next=>
   obtain⟨σ3,H3,I3,n3⟩:=q3
   obtain⟨m',hm,w3⟩:=hN σ3 H3 n3
   exact⟨m',hm,σ3,H3,I3,w3⟩
  | cont=>
   obtain⟨σ3,H3,I3,n3⟩:=q3
   obtain⟨m',hm,w3⟩:=hN σ3 H3 n3
   exact⟨m',hm,σ3,H3,I3,w3⟩
  | brk=>exact q3
  | ret v=>exact q3
 | false=>
  exact Qk ⟨σ1,H2,I2,q2⟩
end
structure It where
 go:Nat->Hp->Prop
 yld:Nat->Hp->V->Hp->Prop
 stop:Nat->Hp->Prop
def eQ(X:Cx)(Ti:List (Addr×Obj))(H:Hp)(b:Addr):Prop:=
 H b=none/\b≠X.env.locals/\b∉X.fs/\(b∈X.ex\/X.s₀.heap.objs.size<=b)/\(∀x c,X.env.cells.lookup x=some c->c≠b)/\∀p∈X.pn++Ti,p.1≠b
theorem Inv.fpOk{σ:St}{b:Addr}(I:Inv X Ti σ H s)(hb:s.heap.objs.size<=b)(hn:H' b=none):eQ X Ti H' b:=by
 refine⟨hn,Nw (M7 I.lt hb),I.nofs hb,.inr (Nat.le_trans I.sz hb),λx c e z=>?_,λp hp z=>?_⟩
 ·obtain⟨v,q⟩:=I.cell x c e
  exact absurd (M7 q.lt (by rw [z];exact hb)) (NR _)
 ·exact absurd (M7 (M3 (I.pin p hp).1) (by rw [z];exact hb)) (NR _)
structure j8(P:OR)(w:OV)(K:N5)(tg:Expr)(J:It)(fp:List Addr)(it:Addr)(tn:Nat->Heap->Prop):Prop where
 mem:it∈fp
 obj:∀i h,tn i h->∀b∈fp,∃o,h.get? b=some o/\∀v,o.data≠.cell v
 keep:∀i h h',tn i h->(∀b∈fp,∀o,h.get? b=some o->h'.get? b=some o)->tn i h'
 item:∀(X:Cx),X.prog=P->X.w=w->X.K=K->X.calm=true->∀(i:Nat) (Ti:List (Addr×Obj)) (s:OO) (σ:St) (H:Hp) (E:OL->OO->Prop),Inv X Ti σ H s->(∀b∈fp,eQ X Ti H b)->tn i s.heap->J.go i H->
  OT (model P w) X.A (Ro (.ref it)) (λr s1=>∃u,r=some u/\
   OT (model P w) X.A (QT tg (.ref it) u) (λ_ s2=>∃x H',Inv X Ti σ H' s2/\RelV x u/\J.yld i H x H'/\tn (i+1) s2.heap/\∀b∈fp,H' b=none) E s1) E s
 done : ∀ (X : Cx), X.prog = P → X.w = w → X.K = K → X.calm = true → ∀ (i : Nat) (Ti : List (Addr × Obj)) (s : OO) (σ : St) (H : Hp) (E : OL → OO → Prop), Inv X Ti σ H s → (∀ b ∈ fp, eQ X Ti H b) → tn i s.heap → J.stop i H →
   OT (model P w) X.A (Ro (.ref it)) (λr s1=>r=none/\Inv X Ti σ H s1) E s
 self:∀(A:OY) (i:Nat) (s:OO) (Q:OL->OO->Prop) (E:OL->OO->Prop),tn i s.heap->Q (.ref it) s->OT (model P w) A (pyIter (.ref it)) Q E s
abbrev TI:=St->Hp->(It->Hp->Prop)->Prop
def PIE(X:Cx)(Ti:List (Addr×Obj))(σ:St)(tg:Expr)(R:It->Hp->Prop)(itv:OL)(s2:OO):Prop:=
 ∃(it:Addr) (fp:List Addr) (tn:Nat->Heap->Prop) (J:It) (H':Hp),itv= .ref it/\Inv X Ti σ H' s2/\j8 X.prog X.w X.K tg J fp it tn/\tn 0 s2.heap/\(∀b∈fp,eQ X Ti H' b)/\R J H'
def PI(X:Cx)(tg iter:Expr)(wi:TI):Prop:=
 ∀(Ti:List (Addr×Obj)) (s:OO) (σ:St) (H:Hp) (R:It->Hp->Prop),Inv X Ti σ H s->wi σ H R->
  OT (model X.prog X.w) X.A (eval iter X.env) (λv s1=>OT (model X.prog X.w) X.A (pyIter v) (PIE X Ti σ tg R) X.xe s1) X.xe s
theorem qO(ho:s.heap.get? it=some o)(hc:o.cls= .type n)(hd:o.data= .fields vs)
 (hn:["enumerate","zip","dict_itemiterator","dict_reverseitemiterator","odict_iterator","itertools.zip_longest","itertools.pairwise"].contains n=false) (hQ:Q () s):OT M A (QT tg (.ref it) u) Q E s:=by
 cases tg<;>first
  | exact OM hQ
  | (cases u<;>first
   | exact OM hQ
   | (refine OK (wpAny_load ho ?_)
      rw [hc,hd]
      show OT M A (if (["enumerate","zip","dict_itemiterator","dict_reverseitemiterator","odict_iterator","itertools.zip_longest","itertools.pairwise"].contains n&&vs[0]? ==some (Qy _))=true then _ else _) Q E s
      rw [Tf (by intro h;rw [hn] at h;cases h)]
      exact OM hQ))
def Itl(K:N5)(a:Addr):It:=
 ⟨λi H=>∃xs x,SqL K H a xs/\xs[i]? =some x,λi H x H'=>H'=H/\∀xs,SqL K H a xs->xs[i]? =some x,λi H=>∃xs,SqL K H a xs/\xs.length<=i⟩
def Itt(K:N5)(a:Addr):It:=
 ⟨λi H=>∃xs x,SqT K H a xs/\xs[i]? =some x,λi H x H'=>H'=H/\∀xs,SqT K H a xs->xs[i]? =some x,λi H=>∃xs,SqT K H a xs/\xs.length<=i⟩
def Itr(lo:Int)(n:Nat):It:=⟨λi _=>i<n,λi H x H'=>H'=H/\x= .int (lo+i),λi _=>n<=i⟩
theorem pS{K:N5}(a it:Addr):j8 P w K tg (Itl K a) [it] it (λi h=>h.IsListIter it a i) where
 mem:=by simp
 obj:=λi h st b hb=>by
  have e:b=it:=by simpa using hb
  subst e
  obtain⟨o,e,c,d⟩:=st
  exact⟨o,e,λv z=>by rw [d] at z;cases z⟩
 keep:=λi h h' st k=>st.at λo e=>k it (by simp) o e
 item:=by
  intro X hP hw hK hc i Ti s σ H E I hf st hg
  subst hP hw hK
  obtain⟨xs,x,hq,hx⟩:=hg
  obtain⟨its,rv,p,hz⟩:=I.list hq
  obtain⟨u,hu,ru⟩:=rv.get hx
  obtain⟨f0,f1,f2,f3,f4,f5⟩:=hf it (by simp)
  refine P5 st p.isList (by simpa using hu) λh' st' sb=>?_
  have I1:Inv X Ti σ H {s with heap:=h'}:=I.turned (λb o hb e=>(sb.2 b hb).trans e) f0 f1 f3 f4 f5
  obtain⟨o,e,c,d⟩:=id st'
  exact⟨u,rfl,qO (s:={s with heap:=h'}) e c d (by decide) ⟨x,H,I1,ru,⟨rfl,λys hy=>by rw [I.list_inj hy hq];exact hx⟩,st',λb hb=>(hf b hb).1⟩⟩
 done := by
   intro X hP hw hK hc i Ti s σ H E I hf st hg
   subst hP hw hK
   obtain⟨xs,hq,hx⟩:=hg
   obtain⟨its,rv,p,hz⟩:=I.list hq
   obtain⟨f0,f1,f2,f3,f4,f5⟩:=hf it (by simp)
   have hl:=rv.length
   exact Qb (I.ok.hd hc) st p.isList (by simp;lia) λh' eb=>⟨rfl,I.turned (λb o hb e=>eb b o hb e) f0 f1 f3 f4 f5⟩
 self:=λ_ _ _ _ _ st h=>wpAny_pyIter_listiter st h
theorem nJ{K:N5}(a it:Addr):j8 P w K tg (Itt K a) [it] it (λi h=>h.IsTupleIter it a i) where
 mem:=by simp
 obj:=λi h st b hb=>by
  have e:b=it:=by simpa using hb
  subst e
  obtain⟨o,e,c,d⟩:=st
  exact⟨o,e,λv z=>by rw [d] at z;cases z⟩
 keep:=λi h h' st k=>st.at λo e=>k it (by simp) o e
 item:=by
  intro X hP hw hK hc i Ti s σ H E I hf st hg
  subst hP hw hK
  obtain⟨xs,x,hq,hx⟩:=hg
  obtain⟨its,rv,p,hz⟩:=I.tuple hq
  obtain⟨u,hu,ru⟩:=rv.get hx
  obtain⟨f0,f1,f2,f3,f4,f5⟩:=hf it (by simp)
  refine wpAny_pyNext_tuple_item st (p) (by simpa using hu) λh' st' sb=>?_
  have I1:Inv X Ti σ H {s with heap:=h'}:=I.turned (λb o hb e=>(sb.2 b hb).trans e) f0 f1 f3 f4 f5
  obtain⟨o,e,c,d⟩:=id st'
  exact⟨u,rfl,qO (s:={s with heap:=h'}) e c d (by decide) ⟨x,H,I1,ru,⟨rfl,λys hy=>by rw [I.tuple_inj hy hq];exact hx⟩,st',λb hb=>(hf b hb).1⟩⟩
 done := by
   intro X hP hw hK hc i Ti s σ H E I hf st hg
   subst hP hw hK
   obtain⟨xs,hq,hx⟩:=hg
   obtain⟨its,rv,p,hz⟩:=I.tuple hq
   obtain⟨f0,f1,f2,f3,f4,f5⟩:=hf it (by simp)
   have hl:=rv.length
   exact wpAny_pyNext_tuple_end (I.ok.hd hc) st (p) (by simp;lia) λh' eb=>⟨rfl,I.turned (λb o hb e=>eb b o hb e) f0 f1 f3 f4 f5⟩
 self:=λ_ _ _ _ _ st h=>wpAny_pyIter_tupleiter st h
theorem vP{K:N5}(it:Addr)(lo:Int)(n:Nat):j8 P w K tg (Itr lo n) [it] it (λi h=>IsRangeIter h it (lo+(i:Nat)*1) ((n:Int)-(i:Nat)) 1) where
 mem:=by simp
 obj:=λi h st b hb=>by
  have e:b=it:=by simpa using hb
  subst e
  exact⟨_,st,λv z=>by
   have z':=z
   cases z'⟩
 keep:=λi h h' st k=>k it (by simp) _ st
 item:=by
  intro X hP hw hK hc i Ti s σ H E I hf st hg
  subst hP hw hK
  obtain⟨f0,f1,f2,f3,f4,f5⟩:=hf it (by simp)
  have W:=Walks.range (prog:=X.prog) (w:=X.w) (I.ok.hd hc) it lo 1 n
  refine W.item i s _ _ hg st λv h' tk hv st' kk=>?_
  obtain⟨t,rfl⟩:=hv
  have I1:Inv X Ti σ H {s with heap:=h',toks:=tk}:=I.turned (λb o hb e=>kk b o (by simpa using hb) e) f0 f1 f3 f4 f5
  refine⟨_,rfl,qO (s:={s with heap:=h',toks:=tk}) st' rfl rfl (by decide) ⟨.int (lo+i),H,I1,⟨t,?_⟩,⟨rfl,rfl⟩,st',λb hb=>(hf b hb).1⟩⟩
  rw [Int.mul_one]
 done := by
   intro X hP hw hK hc i Ti s σ H E I hf st hg
   obtain⟨f0,f1,f2,f3,f4,f5⟩:=hf it (by simp)
   exact wpAny_pyNext_range_end (I.ok.hd hc) st (by have:n<=i:=hg;lia) λh' eb=>⟨rfl,I.turned (λb o hb e=>eb b o hb e) f0 f1 f3 f4 f5⟩
 self:=λ_ _ _ _ _ st h=>wpAny_pyIter_rangeiter st h
section
variable{X:Cx}{tg:Expr}
def cF(K:N5)(tl:TE):TI:=λσ H R=>tl σ H λx H1=>∃a,x= .ref a/\(∃xs,SqL K H1 a xs)/\R (Itl K a) H1
def El(K:N5)(tl:TE):TI:=λσ H R=>tl σ H λx H1=>∃a,x= .ref a/\(∃xs,SqT K H1 a xs)/\R (Itt K a) H1
theorem bM(hl:PE X l tl):PI X tg l (cF X.K tl):=by
 intro Ti s σ H R I h
 refine thn (hl Ti s σ H _ I h) λv s1 z=>?_
 obtain⟨x,H1,I1,r1,q1⟩:=z
 obtain⟨a,e,⟨xs,hq⟩,q⟩:=q1
 subst e
 cases r1
 obtain⟨its,rv,p,hz⟩:=I1.list hq
 apply Py p.isList
 refine⟨s1.heap.objs.size,[s1.heap.objs.size],_,_,H1,rfl,I1.kept λb o e=>MO _ e,pS a _,⟨_,MS _ rfl,rfl,rfl⟩,λb hb=>?_,q⟩
 have e:b=s1.heap.objs.size:=by simpa using hb
 subst e
 exact I1.fpOk (Nat.le_refl _) (I1.hok.fresh (Nat.le_refl _))
theorem xp(hl:PE X l tl):PI X tg l (El X.K tl):=by
 intro Ti s σ H R I h
 refine thn (hl Ti s σ H _ I h) λv s1 z=>?_
 obtain⟨x,H1,I1,r1,q1⟩:=z
 obtain⟨a,e,⟨xs,hq⟩,q⟩:=q1
 subst e
 cases r1
 obtain⟨its,rv,p,hz⟩:=I1.tuple hq
 apply O5 (p)
 refine⟨s1.heap.objs.size,[s1.heap.objs.size],_,_,H1,rfl,I1.kept λb o e=>MO _ e,nJ a _,⟨_,MS _ rfl,rfl,rfl⟩,λb hb=>?_,q⟩
 have e:b=s1.heap.objs.size:=by simpa using hb
 subst e
 exact I1.fpOk (Nat.le_refl _) (I1.hok.fresh (Nat.le_refl _))
theorem rn{σ:St}{lo:Int}(I:Inv X Ti σ H s)(h1: -(2^62)<=lo)(h2:lo<2^62)(h3: -(2^62)<=hi)(h4:hi<2^62)
 (q:R (Itr lo (hi-lo).toNat) H):OT (model X.prog X.w) X.A (pyIter (.ref s.heap.objs.size)) (PIE X Ti σ tg R) E {s with heap:=s.heap.push {cls:=.type "range",data:=.fields #[.int lo t,.int hi u,.int 1 v]},toks:=tk}:=by
 apply wpAny_pyIter_range (IsRange.new ..) (small_one h1 h2 h3 h4)
 have I1:Inv X Ti σ H {s with heap:=s.heap.push {cls:=.type "range",data:=.fields #[.int lo t,.int hi u,.int 1 v]},toks:=tk}:=I.kept λb o e=>MO _ e
 refine⟨(s.heap.push {cls:=.type "range",data:=.fields #[.int lo t,.int hi u,.int 1 v]}).objs.size,[(s.heap.push {cls:=.type "range",data:=.fields #[.int lo t,.int hi u,.int 1 v]}).objs.size],_,_,H,rfl,
  I1.kept λb o e=>MO _ e,vP _ lo (hi-lo).toNat,?_,λb hb=>?_,q⟩
 ·have e1:lo+((0:Nat):Int)*1=lo:=by simp
  have e2:(((hi-lo).toNat:Nat):Int)-((0:Nat):Int)=OW.Range.rangeSize lo hi 1:=by rw [rangeSize_one];split<;>lia
  rw [e1,e2]
  exact MS _ rfl
 ·have e:b=(s.heap.push {cls:=.type "range",data:=.fields #[.int lo t,.int hi u,.int 1 v]}).objs.size:=by simpa using hb
  subst e
  exact I1.fpOk (Nat.le_refl _) (I1.hok.fresh (Nat.le_refl _))
def vQ(ta:TA):TI:=λσ H R=>ta σ H λvs H1=>∃j:Int,vs= [.int j]/\ -(2^62)<=j/\j<2^62/\R (Itr 0 j.toNat) H1
def Ht(ta:TA):TI:=λσ H R=>ta σ H λvs H1=>∃i j:Int,vs= [.int i,.int j]/\(-(2^62)<=i/\i<2^62/\ -(2^62)<=j/\j<2^62)/\R (Itr i (j-i).toNat) H1
theorem bT(hg:Gl X "range")(hm:X.mg "range" =none)(ha:PA X [a] ta)(hs:OU [a] X.env= [(false,eval a X.env)]:=by rfl):PI X tg (.Call (.Name "range" p) [a] [] pos) (vQ ta):=by
 intro Ti s σ H R I h
 refine Call_ (eO I hg hm boot_range (O4 (thn (ha pos Ti s σ H _ I h) λus s1 z=>?_) hs rfl))
 obtain⟨vs,H1,I1,r1,q1⟩:=z
 obtain⟨j,e,q1,q2,q⟩:=q1
 subst e
 cases r1 with
 | cons r rr=>
  cases rr
  obtain⟨t,rfl⟩:=r
  exact call_range_1 (rn I1 (by lia) (by lia) q1 q2 (by simpa using q))
theorem xq{a b:Expr}{ta:TA}{p pos:Pos}(hg:Gl X "range")(hm:X.mg "range" =none)(ha:PA X [a,b] ta)(hs:OU [a,b] X.env= [(false,eval a X.env),(false,eval b X.env)]:=by rfl)(hs2:OU [b] X.env= [(false,eval b X.env)]:=by rfl):
 PI X tg (.Call (.Name "range" p) [a,b] [] pos) (Ht ta):=by
 intro Ti s σ H R I h
 refine Call_ (eO I hg hm boot_range (O4 (thn (ha pos Ti s σ H _ I h) λus s1 ⟨vs,H1,I1,r1,q1⟩=>?_) (by rw [hs,hs2]) (by rw [hs2];rfl)))
 obtain⟨i,j,e,⟨q1,q2,q3,q4⟩,q⟩:=q1
 subst e
 cases r1 with
 | cons r rr=>
  cases rr with
  | cons r' rr=>
   cases rr
   obtain⟨t,rfl⟩:=r
   obtain⟨t',rfl⟩:=r'
   exact call_range_2 (rn I1 q1 q2 q3 q4 q)
def rq(wi:TI)(g:TG)(tb:TS):TS:=λD σ H=>wi σ H λJ H1=>∃W:Nat->Nat->St->Hp->Prop,(∃m,W 0 m σ H1)/\∀i m σ H,W i m σ H->
 (J.stop i H/\D.nx σ H)\/(J.go i H/\∃N:St->Hp->Prop,(∀σ' H',N σ' H'->∃m',m'<m/\W (i+1) m' σ' H')/\∀x H',J.yld i H x H'->g x σ H' λσ2 H2=>tb {D with nx:=N,ct:=N,bk:=D.nx} σ2 H2)
def j9(fp:List Addr)(h:Heap):List (Addr×Obj):=fp.filterMap λb=>(h.get? b).map λo=>(b,o)
theorem gG(hb:b∈fp)(e:h.get? b=some o):(b,o)∈j9 fp h:=List.mem_filterMap.mpr ⟨b,hb,by rw [e];rfl⟩
theorem xr(hp:p∈j9 fp h):p.1∈fp/\h.get? p.1=some p.2:=by
 obtain⟨b,hb,e⟩:=List.mem_filterMap.mp hp
 cases q:h.get? b with
 | none=>simp_all
 | some o=>
  rw [q] at e
  have e':=Option.some.inj e
  subst e'
  exact⟨hb,q⟩
theorem Inv.pinned{σ:St}(I:Inv X Ti σ H s)(hf:∀b∈fp,eQ X Ti H b)(ho:∀b∈fp,∃o,s.heap.get? b=some o/\∀v,o.data≠.cell v):Inv X (Ti++j9 fp s.heap) σ H s:=
 I.pins_of λp hp=>(List.mem_append.mp hp).elim (λz=>I.pin p (M9 _ z)) λz=>by
  obtain⟨hb,e⟩:=xr z
  obtain⟨f0,f1,f2,_⟩:=hf p.1 hb
  obtain⟨o,e',d⟩:=ho p.1 hb
  rw [e] at e';cases e'
  exact⟨e,f0,f1,f2,d⟩
theorem Inv.unpinned{σ:St}(I:Inv X (Ti++pl) σ H s):Inv X Ti σ H s:=I.pins_of λp hp=>I.pin p (M9 _ (NA _ hp))
theorem cB(hp:O1 (model X.prog X.w) X.A X.env X.xe)(hc:X.calm=true)(hi:PI X tg iter wi)(hg:PG X tg g)(hb:PSs X body tb)
 (hs:∀x,Pq iter X.env x=pure x:=by intro _;rfl):PS X (.For tg iter body [] pos) (rq wi g tb):=by
 intro Ti s σ H D I h
 refine wpAny_For (thn (hi Ti s σ H _ I h) λv s1 h1=>thn h1 λitv s2 h2=>?_) hs
 obtain⟨it,fp,tn,J,H2,e,I2,T,st2,f2,W,⟨m0,w0⟩,turn⟩:=h2
 subst e
 -- what stays true of the iterator's objects through the loop
 have stat:∀{H':Hp},(∀b∈fp,H' b=none)->∀b∈fp,eQ X Ti H' b:=λhn b hb=>⟨hn b hb,(f2 b hb).2⟩
 refine codeAny_forLoop_any (λn s'=>∃i σ' H',Inv X Ti σ' H' s'/\tn i s'.heap/\(∀b∈fp,H' b=none)/\W i n σ' H') ?_ m0 ⟨0,σ,H2,I2,st2,λb hb=>(f2 b hb).1,w0⟩
 rintro n s3 ⟨i,σ3,H3,I3,st3,fr3,w3⟩
 rcases turn i n σ3 H3 w3 with ⟨stop,qn⟩ | ⟨go,N,hN,step⟩
 ·refine Px hp (thn (T.done X rfl rfl rfl hc i Ti s3 σ3 H3 X.xe I3 (stat fr3) st3 stop) λr s4 yy=>?_)
  obtain⟨hr,I4⟩:=yy
  subst hr
  exact Qk ⟨σ3,H3,I4,qn⟩
 ·refine Px hp (thn (T.item X rfl rfl rfl hc i Ti s3 σ3 H3 X.xe I3 (stat fr3) st3 go) λr s4 zz=>?_)
  obtain⟨u,hr,h4⟩:=zz
  subst hr
  refine Px hp (thn h4 λ_ s5 y=>?_)
  obtain⟨x,H5,I5,r5,y5,st5,fr5⟩:=y
  have I5':=I5.pinned (stat fr5) (T.obj _ _ st5)
  refine Px hp (thn (hg _ s5 σ3 H5 x u _ I5' r5 (step x H5 y5)) λ_ s6 z=>?_)
  obtain⟨σ6,H6,I6,q6⟩:=z
  refine Px hp (thn (hb _ s6 σ6 H6 _ I6 q6) λf s7 q7=>?_)
  have again:∀{σ7:St} {H7:Hp},Inv X (Ti++j9 fp s5.heap) σ7 H7 s7->N σ7 H7->∃m,m<n/\∃i σ' H',Inv X Ti σ' H' s7/\tn i s7.heap/\(∀b∈fp,H' b=none)/\W i m σ' H':=λ{σ7 H7} I7 n7=>by
   obtain⟨m',hm,w7⟩:=hN σ7 H7 n7
   refine⟨m',hm,i+1,σ7,H7,I7.unpinned,T.keep _ _ _ st5 λb hb o e=>(I7.pin (b,o) (M9 _ (M9 _ (gG hb e)))).1,λb hb=>?_,w7⟩
   obtain⟨o,e,d⟩:=T.obj _ _ st5 b hb
   exact(I7.pin (b,o) (M9 _ (M9 _ (gG hb e)))).2.1
  cases f with
  | next=>obtain⟨σ7,H7,I7,n7⟩:=q7;exact again I7 n7
  | cont=>obtain⟨σ7,H7,I7,n7⟩:=q7;exact again I7 n7
  | brk=>obtain⟨σ7,H7,I7,q7⟩:=q7;exact⟨σ7,H7,I7.unpinned,q7⟩
  | ret v=>obtain⟨x7,σ7,H7,I7,r7,q7⟩:=q7;exact⟨x7,σ7,H7,I7.unpinned,r7,q7⟩
end
theorem mh{K:N5}{g:TG}{tb:TS}{D:fB}(Pv:Nat->St->Hp->Prop)(h0:Pv 0 σ H)(hl:∀i σ H,i<=xs.length->Pv i σ H->SqL K H a xs)
 (hs:∀i x σ H,xs[i]? =some x->Pv i σ H->g x σ H λσ2 H2=>tb {D with nx:=Pv (i+1),ct:=Pv (i+1),bk:=D.nx} σ2 H2) (hd:∀σ H,Pv xs.length σ H->D.nx σ H):
 ∃W:Nat->Nat->St->Hp->Prop,(∃m,W 0 m σ H)/\∀i m σ H,W i m σ H->
  ((Itl K a).stop i H/\D.nx σ H)\/((Itl K a).go i H/\∃N,(∀σ' H',N σ' H'->∃m',m'<m/\W (i+1) m' σ' H')/\∀x H',(Itl K a).yld i H x H'->g x σ H' λσ2 H2=>tb {D with nx:=N,ct:=N,bk:=D.nx} σ2 H2):=by
 refine⟨λi m σ H=>m=xs.length-i/\i<=xs.length/\Pv i σ H,⟨xs.length,by simp,Nk _,h0⟩,?_⟩
 rintro i m σ H ⟨rfl,hi,p⟩
 have q:=hl i σ H hi p
 by_cases hlt:i<xs.length
 ·refine .inr ⟨⟨xs,xs[i],q,by simp [hlt]⟩,Pv (i+1),λσ' H' p'=>⟨xs.length-(i+1),by lia,rfl,hlt,p'⟩,λx H' y=>?_⟩
  obtain⟨e,y⟩:=y
  subst e
  exact hs i x σ _ (y xs q) p
 ·have e:i=xs.length:=by lia
  subst e
  exact .inl ⟨⟨xs,q,Nat.le_refl _⟩,hd σ H p⟩
theorem iC{lo:Int}{g:TG}{tb:TS}{D:fB}(Pv:Nat->St->Hp->Prop)(h0:Pv 0 σ H)
 (hs:∀i σ H,i<n->Pv i σ H->g (.int (lo+i)) σ H λσ2 H2=>tb {D with nx:=Pv (i+1),ct:=Pv (i+1),bk:=D.nx} σ2 H2) (hd:∀σ H,Pv n σ H->D.nx σ H):
 ∃W:Nat->Nat->St->Hp->Prop,(∃m,W 0 m σ H)/\∀i m σ H,W i m σ H->
  ((Itr lo n).stop i H/\D.nx σ H)\/((Itr lo n).go i H/\∃N,(∀σ' H',N σ' H'->∃m',m'<m/\W (i+1) m' σ' H')/\∀x H',(Itr lo n).yld i H x H'->g x σ H' λσ2 H2=>tb {D with nx:=N,ct:=N,bk:=D.nx} σ2 H2):=by
 refine⟨λi m σ H=>m=n-i/\i<=n/\Pv i σ H,⟨n,by simp,Nk _,h0⟩,?_⟩
 rintro i m σ H ⟨rfl,hi,p⟩
 by_cases hlt:i<n
 ·refine .inr ⟨hlt,Pv (i+1),λσ' H' p'=>⟨n-(i+1),by lia,rfl,hlt,p'⟩,λx H' y=>?_⟩
  obtain⟨e,y⟩:=y
  subst e y
  exact hs i σ _ hlt p
 ·have e:i=n:=by lia
  subst e
  exact .inl ⟨Nat.le_refl _,hd σ H p⟩
abbrev R2:=V->V->Hp->VK->Prop
def OpR(X:Cx)(f:OL->OL->Sem OL)(r:R2):Prop:=
 ∀(Ti:List (Addr×Obj)) (s:OO) (σ:St) (H:Hp) (x y:V) (v u:OL) (Q:VK),Inv X Ti σ H s->RelV x v->RelV y u->r x y H Q->
  OT (model X.prog X.w) X.A (f v u) (EP X Ti σ Q) X.xe s
def UnR(X:Cx)(f:OL->Sem OL)(r:V->Hp->VK->Prop):Prop:=
 ∀(Ti:List (Addr×Obj)) (s:OO) (σ:St) (H:Hp) (x:V) (v:OL) (Q:VK),Inv X Ti σ H s->RelV x v->r x H Q->
  OT (model X.prog X.w) X.A (f v) (EP X Ti σ Q) X.xe s
def bD(X:Cx)(f:OL)(r:List V->Hp->VK->Prop):Prop:=
 ∀(Ti:List (Addr×Obj)) (s:OO) (σ:St) (H:Hp) (xs:List V) (us:List OL) (Q:VK),Inv X Ti σ H s->Vals xs us->r xs H Q->
  OT (model X.prog X.w) X.A (call f us) (EP X Ti σ Q) X.xe s
def IY(X:Cx)(r:V->Hp->(Bool->Hp->Prop)->Prop):Prop:=
 ∀(Ti:List (Addr×Obj)) (s:OO) (σ:St) (H:Hp) (x:V) (v:OL) (Q:Bool->Hp->Prop),Inv X Ti σ H s->RelV x v->r x H Q->
  OT (model X.prog X.w) X.A (truthy v) (TP X Ti σ Q) X.xe s
def tOp(r:R2)(ta tb:TE):TE:=λσ H Q=>ta σ H λx H1=>tb σ H1 λy H2=>r x y H2 Q
def tUn(r:V->Hp->VK->Prop)(ta:TE):TE:=λσ H Q=>ta σ H λx H1=>r x H1 Q
def rI(C:Int->Int->Prop)(g:Int->Int->V):R2:=λx y H Q=>∃i j,x= .int i/\y= .int j/\C i j/\Q (g i j) H
def rI0(g:Int->Int->V):R2:=λx y H Q=>∃i j,x= .int i/\y= .int j/\Q (g i j) H
def rU(g:Int->V):V->Hp->VK->Prop:=λx H Q=>∃i,x= .int i/\Q (g i) H
section
variable{X:Cx}{a b c:Expr}{ta tb tc:TE}{pos:Pos}
theorem zH(ha:PE X a ta)(hb:PE X b tb){σ:St}{R:V->V->Hp->Prop}(I:Inv X Ti σ H s)
 (h:ta σ H λx H1=>tb σ H1 λy H2=>R x y H2) {f:OL->OL->Sem OL}
 (hf:∀v u s2 x y H2,Inv X Ti σ H2 s2->RelV x v->RelV y u->R x y H2->OT (model X.prog X.w) X.A (f v u) Q X.xe s2):
 OT (model X.prog X.w) X.A (eval a X.env) (λv s₁=>OT (model X.prog X.w) X.A (eval b X.env) (λu s₂=>OT (model X.prog X.w) X.A (f v u) Q X.xe s₂) X.xe s₁) X.xe s:=by
 refine thn (ha Ti s σ H _ I h) λv s1 ⟨x,H1,I1,r1,q1⟩=>?_
 refine thn (hb Ti s1 σ H1 _ I1 q1) λu s2 ⟨y,H2,I2,r2,q2⟩=>?_
 exact hf v u s2 x y H2 I2 r1 r2 q2
theorem aw(ho:OpR X (PX op) r)(ha:PE X a ta)(hb:PE X b tb):PE X (.BinOp a op b pos) (tOp r ta tb):=by
 intro Ti s σ H Q I h
 exact wpAny_BinOp (zH ha hb I h λv u s2 x y H2 I2 rx ry q=>ho Ti s2 σ H2 x y v u Q I2 rx ry q)
theorem kX(ho:UnR X (unaryOp op) r)(ha:PE X a ta):PE X (.UnaryOp op a pos) (tUn r ta):=by
 intro Ti s σ H Q I h
 exact UnaryOp_ (thn (ha Ti s σ H _ I h) λv s1 z=>by obtain⟨x,H1,I1,r1,q1⟩:=z;exact ho Ti s1 σ H1 x v Q I1 r1 q1)
theorem opI{g:Int->Int->Int}
 (rule:∀(i j:Int) (t u:Tok) (s:OO) (Q:OL->OO->Prop) (E:OL->OO->Prop),C i j->Q (.int (g i j) s.toks) {s with toks:=s.toks+1}->OT (model X.prog X.w) X.A (f (.int i t) (.int j u)) Q E s):
 OpR X f (rI C λi j=>.int (g i j)):=by
 intro Ti s σ H x y v u Q I rx ry h
 obtain⟨i,j,rfl,rfl,hc,q⟩:=h
 obtain⟨t,rfl⟩:=rx
 obtain⟨t',rfl⟩:=ry
 exact rule i j t t' s _ _ hc ⟨.int (g i j),H,I.tok _,⟨_,rfl⟩,q⟩
theorem Em{g:Int->Int->Int}
 (rule:∀(i j:Int) (t u:Tok) (s:OO) (Q:OL->OO->Prop) (E:OL->OO->Prop),Q (.int (g i j) s.toks) {s with toks:=s.toks+1}->OT (model X.prog X.w) X.A (f (.int i t) (.int j u)) Q E s):
 OpR X f (rI0 λi j=>.int (g i j)):=by
 intro Ti s σ H x y v u Q I rx ry h
 obtain⟨i,j,rfl,rfl,q⟩:=h
 obtain⟨t,rfl⟩:=rx
 obtain⟨t',rfl⟩:=ry
 exact rule i j t t' s _ _ ⟨.int (g i j),H,I.tok _,⟨_,rfl⟩,q⟩
theorem vR{g:Int->Int->Bool}
 (rule:∀(i j:Int) (t u:Tok) (s:OO) (Q:OL->OO->Prop) (E:OL->OO->Prop),Q (.bool (g i j)) s->OT (model X.prog X.w) X.A (f (.int i t) (.int j u)) Q E s):
 OpR X f (rI0 λi j=>.bl (g i j)):=by
 intro Ti s σ H x y v u Q I rx ry h
 obtain⟨i,j,rfl,rfl,q⟩:=h
 obtain⟨t,rfl⟩:=rx
 obtain⟨t',rfl⟩:=ry
 exact rule i j t t' s _ _ ⟨.bl (g i j),H,I,rfl,q⟩
def En(i j:Int):Prop:=0<j/\j<1073741824
def Eo(i j:Int):Prop:=0<=j/\j<=1000000/\i.natAbs<2^64
def CMul(i j:Int):Prop:=(-(2^64)<i/\i<2^64)\/(-(2^64)<j/\j<2^64)
theorem CMul.ok(h:CMul i j):IntMulOk i j:=by
 rcases h with ⟨h1,h2⟩ | ⟨h1,h2⟩
 ·exact .of_left (intBits_le_64 h1 h2)
 ·exact .of_right (intBits_le_64 h1 h2)
theorem aY:OpR X (PX .Add) (rI0 λi j=>.int (i+j)):=Em λ_ _ _ _ _ _ _ q=>add_int q
theorem cC:OpR X (PX .Sub) (rI0 λi j=>.int (i-j)):=Em λ_ _ _ _ _ _ _ q=>sub_int q
theorem eS:OpR X (PX .Mult) (rI CMul λi j=>.int (i*j)):=opI λ_ _ _ _ _ _ _ hc q=>mul_int q hc.ok
theorem jc:OpR X (PX .FloorDiv) (rI En λi j=>.int (i/j)):=opI λi j _ _ _ _ _ hc q=>by
 have h1:=hc.1
 have h2:=hc.2
 exact floordiv_int (by lia) (by rw [Int.fdiv_eq_ediv_of_nonneg i (by lia)];exact q) (.inl (PyProof.noPylong_small (by lia)))
theorem br:OpR X (PX .Mod) (rI (λ_ j=>0<j) λi j=>.int (i%j)):=opI λi j _ _ _ _ _ hc q=>by
 exact mod_int' (by lia) (by rw [Int.fmod_eq_emod_of_nonneg i (by lia)];exact q)
theorem Ep:OpR X (PX .Pow) (rI Eo λi j=>.int (i^j.toNat)):=opI λ_ _ _ _ _ _ _ hc q=>pow_int_small hc.1 hc.2.1 hc.2.2 q
theorem unI{g:Int->Int}
 (rule:∀(i:Int) (t:Tok) (s:OO) (Q:OL->OO->Prop) (E:OL->OO->Prop),Q (.int (g i) s.toks) {s with toks:=s.toks+1}->OT (model X.prog X.w) X.A (f (.int i t)) Q E s):
 UnR X f (rU λi=>.int (g i)):=by
 intro Ti s σ H x v Q I rx h
 obtain⟨i,rfl,q⟩:=h
 obtain⟨t,rfl⟩:=rx
 exact rule i t s _ _ ⟨.int (g i),H,I.tok _,⟨_,rfl⟩,q⟩
theorem jd:UnR X (unaryOp .USub) (rU λi=>.int (-i)):=unI λ_ _ _ _ _ q=>neg_int q
end
noncomputable def iU:V->V->Bool
 | .non,.non=>true | .non,.int _=>true | .int _,.non=>true | .non,.bl _=>true | .bl _,.non=>true | .non,.str _=>true | .str _,.non=>true
 | .int _,.int _=>true | .bl _,.bl _=>true | .str _,.str _=>true | .byt _,.byt _=>true
 | .int _,.str _=>true | .str _,.int _=>true | .bl _,.str _=>true | .str _,.bl _=>true
 | _,_=>false
def rEq:R2:=λx y H Q=>iU x y=true/\Q (.bl (decide (x=y))) H
def rNe:R2:=λx y H Q=>iU x y=true/\Q (.bl (!decide (x=y))) H
theorem ut:decide (V.int i=V.int j)=(i==j):=by
 rw [Bool.eq_iff_iff]
 simp
theorem xt:decide (V.bl i=V.bl j)=(i==j):=by
 rw [Bool.eq_iff_iff]
 simp
theorem uu:decide (V.str i=V.str j)=(i==j):=by
 rw [Bool.eq_iff_iff]
 simp
theorem uv:decide (V.byt i=V.byt j)=(i.toList==j.toList):=by
 rw [Bool.eq_iff_iff]
 cases i
 cases j
 simp
section
variable{X:Cx}{a b c:Expr}{ta tb tc:TE}{pos:Pos}
theorem bh{σ:St}(I:Inv X Ti σ H s)(q:Q (.bl k) H)(e:k=k'):EP X Ti σ Q (.bool k') s:=by
 subst e
 exact⟨.bl k,H,I,rfl,q⟩
theorem bi:OpR X (Pc .Eq) rEq:=by
 intro Ti s σ H x y v u Q I rx ry h
 obtain⟨hs,q⟩:=h
 cases x with
 | non=>
  cases rx
  cases y with
  | non=>cases ry;exact RW (bh I q (by simp))
  | bl j=>cases ry;exact RX (bh I q (by simp))
  | int j=>obtain⟨t',rfl⟩:=ry;exact Si (bh I q (by simp))
  | str j=>obtain⟨t',rfl⟩:=ry;exact Sj (bh I q (by simp))
  | _=>exact absurd (hs) Bool.false_ne_true
 | bl i=>
  cases rx
  cases y with
  | non=>cases ry;exact RY (bh I q (by simp))
  | bl j=>cases ry;exact eq_bool (bh I q xt)
  | str j=>obtain⟨t',rfl⟩:=ry;exact RZ (bh I q (by simp))
  | _=>exact absurd (hs) Bool.false_ne_true
 | int i=>
  obtain⟨t,rfl⟩:=rx
  cases y with
  | non=>cases ry;exact Sk (bh I q (by simp))
  | int j=>obtain⟨t',rfl⟩:=ry;exact eq_int (bh I q ut)
  | str j=>obtain⟨t',rfl⟩:=ry;exact Sl (bh I q (by simp))
  | _=>exact absurd (hs) Bool.false_ne_true
 | str i=>
  obtain⟨t,rfl⟩:=rx
  cases y with
  | non=>cases ry;exact So (bh I q (by simp))
  | bl j=>cases ry;exact R0 (bh I q (by simp))
  | int j=>obtain⟨t',rfl⟩:=ry;exact Sq (bh I q (by simp))
  | str j=>obtain⟨t',rfl⟩:=ry;exact eq_str (bh I q uu)
  | _=>exact absurd (hs) Bool.false_ne_true
 | byt i=>
  obtain⟨t,rfl⟩:=rx
  cases y with
  | byt j=>obtain⟨t',rfl⟩:=ry;exact PySem.W.eq_bytes (bh I q uv)
  | _=>exact absurd (hs) Bool.false_ne_true
 | _=>cases y<;>exact absurd (show false=true from hs) Bool.false_ne_true
theorem nK:OpR X (Pc .NotEq) rNe:=by
 intro Ti s σ H x y v u Q I rx ry h
 obtain⟨hs,q⟩:=h
 cases x with
 | non=>
  cases rx
  cases y with
  | non=>cases ry;exact R1 (bh I q (by simp))
  | bl j=>cases ry;exact R3 (bh I q (by simp))
  | int j=>obtain⟨t',rfl⟩:=ry;exact Sr (bh I q (by simp))
  | str j=>obtain⟨t',rfl⟩:=ry;exact Ss (bh I q (by simp))
  | _=>exact absurd (hs) Bool.false_ne_true
 | bl i=>
  cases rx
  cases y with
  | non=>cases ry;exact R4 (bh I q (by simp))
  | bl j=>cases ry;exact ne_bool (bh I q (congrArg not xt))
  | str j=>obtain⟨t',rfl⟩:=ry;exact R5 (bh I q (by simp))
  | _=>exact absurd (hs) Bool.false_ne_true
 | int i=>
  obtain⟨t,rfl⟩:=rx
  cases y with
  | non=>cases ry;exact Su (bh I q (by simp))
  | int j=>obtain⟨t',rfl⟩:=ry;exact ne_int (bh I q (congrArg not ut))
  | str j=>obtain⟨t',rfl⟩:=ry;exact Sv (bh I q (by simp))
  | _=>exact absurd (hs) Bool.false_ne_true
 | str i=>
  obtain⟨t,rfl⟩:=rx
  cases y with
  | non=>cases ry;exact Sw (bh I q (by simp))
  | bl j=>cases ry;exact R6 (bh I q (by simp))
  | int j=>obtain⟨t',rfl⟩:=ry;exact Sx (bh I q (by simp))
  | str j=>obtain⟨t',rfl⟩:=ry;exact ne_str (bh I q (congrArg not uu))
  | _=>exact absurd (hs) Bool.false_ne_true
 | byt i=>
  obtain⟨t,rfl⟩:=rx
  cases y with
  | byt j=>obtain⟨t',rfl⟩:=ry;exact PySem.W.ne_bytes (bh I q (congrArg not uv))
  | _=>exact absurd (hs) Bool.false_ne_true
 | _=>cases y<;>exact absurd (show false=true from hs) Bool.false_ne_true
theorem jF:OpR X (Pc .Lt) (rI0 λi j=>.bl (decide (i<j))):=vR λ_ _ _ _ _ _ _ q=>lt_int q
theorem vS:OpR X (Pc .LtE) (rI0 λi j=>.bl (decide (i<=j))):=vR λ_ _ _ _ _ _ _ q=>le_int q
theorem gH:OpR X (Pc .Gt) (rI0 λi j=>.bl (decide (j<i))):=vR λ_ _ _ _ _ _ _ q=>gt_int q
theorem Hu:OpR X (Pc .GtE) (rI0 λi j=>.bl (decide (j<=i))):=vR λ_ _ _ _ _ _ _ q=>ge_int q
theorem je:OpR X (Pc .Is) (λx y H Q=>y= .non/\Q (.bl (decide (x= .non))) H):=by
 intro Ti s σ H x y v u Q I rx ry h
 obtain⟨rfl,q⟩:=h
 cases ry
 refine is_none_gen (bh I q ?_)
 cases x<;>first
  | (cases rx;rfl)
  | (obtain⟨t,rfl⟩:=rx;rfl)
theorem fD:OpR X (Pc .IsNot) (λx y H Q=>y= .non/\Q (.bl (!decide (x= .non))) H):=by
 intro Ti s σ H x y v u Q I rx ry h
 obtain⟨rfl,q⟩:=h
 cases ry
 refine isnot_none_gen (bh I q ?_)
 cases x<;>first
  | (cases rx;rfl)
  | (obtain⟨t,rfl⟩:=rx;rfl)
theorem xu(b:Expr)(h:op≠.In:=by decide)(h2:op≠.NotIn:=by decide):PU op b=false:=by
 have e1:(op==CmpOp.In)=false:=by cases op<;>first | rfl | exact absurd rfl h
 have e2:(op==CmpOp.NotIn)=false:=by cases op<;>first | rfl | exact absurd rfl h2
 cases b<;>simp [PU,e1,e2]
theorem Ch(ho:OpR X (Pc op) r)(ha:PE X a ta)(hb:PE X b tb)(hm:PU op b=false):PE X (.Compare a [op] [b] pos) (tOp r ta tb):=by
 intro Ti s σ H Q I h
 exact wpAny_Compare1 (zH ha hb I h λv u s2 x y H2 I2 rx ry q=>ho Ti s2 σ H2 x y v u Q I2 rx ry q) hm
def vT(t:TE):TT:=λσ H Q=>t σ H λx H'=>∃k,x= .bl k/\Q k H'
theorem gK(ho:OpR X (Pc op) r)(ha:PE X a ta)(hb:PE X b tb)(hm:PU op b=false):PT X (.Compare a [op] [b] pos) (vT (tOp r ta tb)):=by
 intro Ti s σ H Q I h
 refine wpAny_isTrue_Compare1 (thn (ha Ti s σ H _ I h) λv s1 ⟨x,H1,I1,r1,q1⟩=>thn (hb Ti s1 σ H1 _ I1 q1) λu s2 ⟨y,H2,I2,r2,q2⟩=>
  thn (ho Ti s2 σ H2 x y v u _ I2 r1 r2 q2) λc s3 ⟨z,H3,I3,r3,k,e,q3⟩=>?_) hm
 subst e
 cases r3
 exact Pw ⟨H3,I3,q3⟩
def vU(K:N5)(x:V)(H:Hp)(k:Bool):Prop:=
 match x with
 | .non=>k=false
 | .bl b=>k=b
 | .int i=>k=(i != 0)
 | .str y=>y.length<=ON/\k=((y.length:Int) != 0)
 | .byt y=>y.size<=ON/\k=((y.size:Int) != 0)
 | .ref p=>(∃xs,SqL K H p xs/\k= !xs.isEmpty)\/(∃xs,SqT K H p xs/\k= !xs.isEmpty)\/∃kvs,H p=some (.dK kvs)/\k= !kvs.isEmpty
 | _=>False
theorem vV(r:KV kvs vs):(!vs.isEmpty)= !kvs.isEmpty:=by
 cases r<;>rfl
theorem nL(r:Vals xs its):(!its.toArray.isEmpty)= !xs.isEmpty:=by
 cases r<;>simp
theorem nM:(ON:Nat)<2^63:=by decide
theorem Er:IY X (λx H Q=>∃k,vU X.K x H k/\Q k H):=by
 intro Ti s σ H x v Q I rx h
 obtain⟨k,e,q⟩:=h
 have hs:=PQ
 cases x with
 | non=>
  cases rx
  have e':=e
  subst e'
  exact truthy_none ⟨H,I,q⟩
 | bl b=>
  cases rx
  have e':=e
  subst e'
  exact Pw ⟨H,I,q⟩
 | int i=>
  obtain⟨t,rfl⟩:=rx
  have e':=e
  subst e'
  exact PySem.P.truthy_int ⟨H,I,q⟩
 | str y=>
  obtain⟨t,rfl⟩:=rx
  obtain⟨hy,e'⟩:y.length<=ON/\k=((y.length:Int) != 0):=e
  subst e'
  exact PySem.P.truthy_str (by lia) ⟨H,I.tok _,q⟩
 | byt y=>
  obtain⟨t,rfl⟩:=rx
  obtain⟨hy,e'⟩:y.size<=ON/\k=((y.size:Int) != 0):=e
  subst e'
  exact PySem.W.truthy_bytes (by lia) ⟨H,I.tok _,q⟩
 | ref p=>
  cases rx
  have e':=e
  rcases e' with ⟨xs,hx,e'⟩ | ⟨xs,hx,e'⟩ | ⟨kvs,hx,e'⟩
  ·subst e'
   obtain⟨its,r,pl,hz⟩:=I.list hx
   have JZ:=r.length
   exact wpAny_truthy_list pl.isList (by simp only [MZ];lia) ⟨H,I.tok _,by rw [nL r];exact q⟩
  ·subst e'
   obtain⟨its,r,pl,hz⟩:=I.tuple hx
   have JZ:=r.length
   exact truthy_tuple pl (by simp only [MZ];lia) ⟨H,I.tok _,by rw [nL r];exact q⟩
  ·subst e'
   obtain⟨hz,hS,vs,r,m⟩:kvs.length<=ON/\(p==Pi)=false/\∃vs,KV kvs vs/\s.heap.DictOf (aN X.prog X.w) p vs:=I.hok p _ hx
   have JZ:=Qo.length r
   exact wpAny_truthy_dict hS m (by lia) ⟨H,I.tok _,by rw [vV r];exact q⟩
 | _=>exact(e).elim
theorem dH(ha:PE X a ta)(he:∀whole,SJ a X.env whole=(do let v <-whole;QE a.pos;holding [v] (truthy v))):
 PT X a (λσ H Q=>ta σ H λx H'=>∃k,vU X.K x H' k/\Q k H'):=by
 intro Ti s σ H Q I h
 exact isTrue_plain (thn (ha Ti s σ H _ I h) λv s1 z=>by obtain⟨x,H1,I1,r1,q1⟩:=z;exact Er Ti s1 σ H1 x v Q I1 r1 q1) (he _)
theorem dR(r:Vals [x] us):∃u,us= [u]/\RelV x u:=by
 cases r with
 | cons r1 r2=>cases r2;exact⟨_,rfl,r1⟩
theorem nN(r:Vals [x,y] us):∃u w',us= [u,w']/\RelV x u/\RelV y w':=by
 cases r with
 | cons r1 r2=>
  cases r2 with
  | cons r3 r4=>cases r4;exact⟨_,_,rfl,r1,r3⟩
theorem zI:bD X (.builtin "abs") (λxs H Q=>∃i,xs= [.int i]/\Q (.int (if i<0 then -i else i)) H):=by
 intro Ti s σ H xs us Q I r h
 obtain⟨i,rfl,q⟩:=h
 obtain⟨u,rfl,t,rfl⟩:=dR r
 exact call_abs_int λu tk=>⟨.int (if i<0 then -i else i),H,I.tok _,⟨_,rfl⟩,q⟩
theorem pT(hc:X.calm=true):bD X (.builtin "max") (λxs H Q=>∃i j,xs= [.int i,.int j]/\Q (.int (if j>i then j else i)) H):=by
 intro Ti s σ H xs us Q I r h
 obtain⟨i,j,rfl,q⟩:=h
 obtain⟨u,w',rfl,⟨t,rfl⟩,⟨t',rfl⟩⟩:=nN r
 refine max_two_ints (I.ok.hd hc) λh' tk k=>⟨_,H,I.kept k,?_,q⟩
 by_cases hj:j>i
 ·rw [Th hj,Th hj];exact⟨_,rfl⟩
 ·rw [Tf hj,Tf hj];exact⟨_,rfl⟩
theorem ke(hc:X.calm=true):bD X (.builtin "min") (λxs H Q=>∃i j,xs= [.int i,.int j]/\Q (.int (if j<i then j else i)) H):=by
 intro Ti s σ H xs us Q I r h
 obtain⟨i,j,rfl,q⟩:=h
 obtain⟨u,w',rfl,⟨t,rfl⟩,⟨t',rfl⟩⟩:=nN r
 refine min_two_ints (I.ok.hd hc) λh' tk k=>⟨_,H,I.kept k,?_,q⟩
 by_cases hj:j<i
 ·rw [Th hj,Th hj];exact⟨_,rfl⟩
 ·rw [Tf hj,Tf hj];exact⟨_,rfl⟩
theorem xv:bD X (.type "int") (λxs H Q=>(∃i,xs= [.int i]/\Q (.int i) H)\/∃k,xs= [.bl k]/\Q (.int (if k then 1 else 0)) H):=by
 intro Ti s σ H xs us Q I r h
 rcases h with ⟨i,rfl,q⟩ | ⟨k,rfl,q⟩
 ·obtain⟨u,rfl,t,rfl⟩:=dR r
  exact call_int_int ⟨.int i,H,I,⟨_,rfl⟩,q⟩
 ·obtain⟨u,rfl,r1⟩:=dR r
  cases r1
  exact call_int_bool ⟨.int (if k then 1 else 0),H,I.tok _,⟨_,rfl⟩,q⟩
end
structure ObjM(h:Heap)(x dx C:Addr)(mA:Str->Option OL):Prop where
 obj:h.get? x=some (Pt C dx)
 ns:h.Ns1 dx mA
 ne:dx≠x
theorem xw{h:Heap}(n:h.Ns1 dx mA):∃od,h.get? dx=some od/\∀name,Qt name od=some (mA name):=by
 obtain⟨o,es,ep,ho,hd,hk,_,hm⟩:=n
 refine⟨o,ho,λname=>?_⟩
 have e:=hm name
 unfold nsFind findBy at e
 rw [<-Array.find?_toList] at e
 unfold Qt
 rw [hd]
 dsimp only
 split
 ·rename_i y q
  rw [q] at e
  exact congrArg some e
 ·rename_i q
  rw [q] at e
  have a:es.toList.any (·.refKey)=false:=by
   rw [List.any_eq_false]
   intro y hy
   obtain⟨z,t,hkey⟩:=hk y (Array.mem_toList_iff.mp hy)
   simp [QU.refKey,hkey]
  have a':¬es.toList.any (·.refKey)=true:=by rw [a];exact Bool.false_ne_true
  rw [Tf a']
  exact congrArg some e
theorem ObjM.look(I:ObjM h x dx C mA):∃od,PySem.W.InstAt h x (Pt C dx) C (some od)/\∀name,Qt name od=some (mA name):=
 let ⟨od,ho,hl⟩:=xw I.ns
 ⟨od,⟨I.obj,rfl,rfl,ho⟩,hl⟩
section
variable{prog:OR}{w:OV}{A:OY}{E:OL->OO->Prop}{s:OO}{K:N5}{x dx C f:Addr}{mA:Str->Option OL}{name:Str}{v:OL}
theorem Ci(X:K.In s.heap)(I:ObjM s.heap x dx C mA)(hg:Qf K C name=true)(hh:QA K C=true)
 (ha:Pb K (.ref C) name=some none) (hv:mA name=some v) (hv':RL v=true) (h:Q v {s with toks:=s.toks+1}):
 OT (model prog w) A (SU (.ref x) name expr) Q E s:=by
 obtain⟨od,J,hl⟩:=I.look
 exact PySem.W.get_value X J (Oh hg).1 (PySem.W.findObj_own hh ha rfl (by rw [hl,hv])) hv' h
theorem zJ(X:K.In s.heap)(I:ObjM s.heap x dx C mA)(hg:Qf K C name=true)
 (hf:Pb K (.ref C) name=some (some (.ref f))) (ht:RH K (.ref f)=true) (hv:mA name=none) (h:Q (.ref f,[.ref x]) s):
 OT (model prog w) A (PZ (.ref x) name pl) Q E s:=by
 obtain⟨od,J,hl⟩:=I.look
 exact PySem.W.method_fn X J (Oh hg).1 (Oh hg).2 hf (beq_iff_eq.mp ht) (by show(Qt name od).map (·.isSome)=some false;rw [hl,hv];rfl) h
theorem Cj(X:K.In s.heap)(I:ObjM s.heap x dx C mA)
 (hs:Pb K (.ref C) "__setattr__" =some (some (.builtin "object.__setattr__"))) (hp:RA K C=true) (ht:Q5 K C name=some none) (hh:QA K C=true)
 (hw:RG mA ns) (hsz:ns.length<=ON)
 (h:∀h',ObjM h' x dx C (λy=>if y=name then some v else mA y)->Heap.SameBut dx s.heap h'->Q () {s with heap:=h',toks:=s.toks+2}):
 OT (model prog w) A (setAttr (.ref x) name v) Q E s:=by
 obtain⟨od,J,hl⟩:=I.look
 refine PySem.W.set_plain X J hs (PySem.W.osa_open (s:={s with toks:=s.toks+1}) X J hp ht λb=>?_)
 obtain⟨cd,hc,hd'⟩:=PySem.W.any_some hh
 have hx:=I.obj
 refine OK (OM (OK (OK (wpAny_loadPart hx (OK (SZ (s:={s with toks:=s.toks+1}) (PySem.W.looks_clsIn X hc) ?_))))))
 rw [hd']
 refine OM (OK (OM (OK ?_)))
 refine wpAny_nsSet1 (s:={s with toks:=s.toks+1}) I.ns λh' hn2 hs2=>?_
 obtain⟨oD,esD,epD,hoD,hdD,hcD⟩:=hn2.count (Td name v hw)
 refine OK (wpAny_lookBehind hoD (by rw [hdD];exact pastItsLine_dict (Nat.le_trans hcD (by rw [M8];lia))) ?_)
 exact OM (h _ ⟨(hs2.2 _ (Ne.symm I.ne)).trans I.obj,hn2,I.ne⟩ hs2)
theorem zK(X:K.In s.heap)(hm:RV K C=true)
 (hi:Pb K (.ref C) "__init__" =some (some (.ref f))) (hf:Qm K (.ref f)=some (.type "function"))
 (h:QG (model prog w) (A.under (.builtin "type.__call__" ⟨.ref C::vs,kw⟩)) (.call (.ref f) ⟨.ref (s.heap.objs.size+1)::vs,kw⟩) (PySem.W.InitBack (s.heap.objs.size+1) R)
  {s with heap:=(s.heap.push Ph).push (Pt C s.heap.objs.size)}):
 QG (model prog w) A (.call (.ref C) ⟨vs,kw⟩) R s:=by
 exact PySem.W.make_core (PySem.W.makes_of X hm) (PySem.W.looks_findIn X hi) (λself=>PySem.W.bind_fn X self hf) (.inl rfl) h
end
noncomputable def bV(f:Str)(v:V):List (Str×V)->List (Str×V)
 | []=>[(f,v)]
 | (g,x)::r=>if g=f then (g,v)::r else (g,x)::bV f v r
theorem lM(f g:Str)(v:V):∀fs:List (Str×V),(bV f v fs).lookup g=if g=f then some v else fs.lookup g
 | []=>by
  show List.lookup g [(f,v)]=_
  by_cases h:g=f
  ·have hb:=beq_iff_eq.mpr h
   simp only [List.lookup,hb,Th h]
  ·have hb:=beq_eq_false_iff_ne.mpr h
   simp only [List.lookup,hb,Tf h]
 | (k,x)::r=>by
  have ih:=lM f g v r
  rw [show bV f v ((k,x)::r)=(if k=f then (k,v)::r else (k,x)::bV f v r) from rfl]
  by_cases hk:k=f
  ·rw [Th hk]
   by_cases h:g=k
   ·have hb:=beq_iff_eq.mpr h
    simp only [List.lookup,hb,Th (h.trans hk)]
   ·have hb:=beq_eq_false_iff_ne.mpr h
    simp only [List.lookup,hb,Tf (λe:g=f=>h (e.trans hk.symm))]
  ·rw [Tf hk]
   by_cases h:g=k
   ·have hb:=beq_iff_eq.mpr h
    simp only [List.lookup,hb,Tf (λe:g=f=>hk (h.symm.trans e))]
   ·have hb:=beq_eq_false_iff_ne.mpr h
    simp only [List.lookup,hb]
    exact ih
theorem kg(f:Str)(v:V):∀fs:List (Str×V),f∈(bV f v fs).map (·.1)/\∀g,g∈fs.map (·.1)->g∈(bV f v fs).map (·.1)
 | []=>⟨by simp [bV],λg h=>by simp at h⟩
 | (k,x)::r=>by
  obtain⟨i1,i2⟩:=kg f v r
  rw [show bV f v ((k,x)::r)=(if k=f then (k,v)::r else (k,x)::bV f v r) from rfl]
  by_cases hk:k=f
  ·grind
  ·rw [Tf hk]
   refine⟨?_,λg h=>?_⟩
   ·rw [Ng]
    exact MV _ i1
   ·rw [Ng] at h⊢
    rcases List.mem_cons.mp h with e | e
    ·exact List.mem_cons.mpr (.inl e)
    ·exact MV _ (i2 g e)
theorem lN(f:Str)(v:V):∀fs:List (Str×V),(bV f v fs).length<=fs.length+1
 | []=>by simp [bV]
 | (k,x)::r=>by
  have ih:=lN f v r
  rw [show bV f v ((k,x)::r)=(if k=f then (k,v)::r else (k,x)::bV f v r) from rfl]
  by_cases hk:k=f
  ·grind
  ·simp_all
theorem RelO.some_of(r:RelO (some v) o):∃u,o=some u/\RelV v u:=by
 cases o with
 | none=>exact(r).elim
 | some u=>exact⟨u,rfl,r⟩
theorem RelO.none_of(r:RelO none o):o=none:=by
 cases o with
 | none=>rfl
 | some u=>exact(r).elim
theorem xx(r:RelV v u):RL u=true:=by
 cases v with
 | non=>cases (r);rfl
 | bl b=>cases (r);rfl
 | int i=>obtain⟨t,e⟩:=(r);cases e;rfl
 | str x=>obtain⟨t,e⟩:=(r);cases e;rfl
 | byt b=>obtain⟨t,e⟩:=(r);cases e;rfl
 | flt b=>obtain⟨t,e⟩:=(r);cases e;rfl
 | ref a=>cases (r);rfl
 | ty n=>cases (r);rfl
section
variable{P:OR}{w:OV}{H H':Hp}{h h':Heap}{a C dx:Addr}{fs fs':List (Str×V)}
theorem oX(hok:HOk P w H h)(e:H a=some (.ins C dx fs)):∃mA,ObjM h a dx C mA/\(∀f,RelO (fs.lookup f) (mA f))/\RG mA (fs.map (·.1))/\fs.length<=1000/\H dx=some (.own a):=by
 obtain⟨d,z,ne,ob,mA,n,r,q⟩:=(hok a _ e)
 exact⟨mA,⟨ob,n,ne⟩,r,q,z,d⟩
end
structure Cls(K:N5)(C:Addr):Prop where
 pg:Qf K C Str.empty=true
 hd:QA K C=true
 po:RA K C=true
 sa:Pb K (.ref C) "__setattr__" =some (some (.builtin "object.__setattr__"))
theorem Cls.get{K:N5}(c:Cls K C)(f:Str):Qf K C f=true:=c.pg
def NoAttr(K:N5)(C:Addr)(f:Str):Prop:=Pb K (.ref C) f=some none
theorem NoAttr.taker{K:N5}(n:NoAttr K C f):Q5 K C f=some none:=by
 unfold Q5
 rw [show Pb K (.ref C) f=some none from n]
 rfl
structure mj(K:N5)(C:Addr)(m:Str)(f:Addr):Prop where
 at_:Pb K (.ref C) m=some (some (.ref f))
 fn:RH K (.ref f)=true
 kp:PV K (.ref f)=true
section
variable{X:Cx}{Ti:List (Addr×Obj)}{σ:St}{H:Hp}{s:OO}{a C dx:Addr}{fs:List (Str×V)}{f:Str}{v:V}{A:OY}{E:OL->OO->Prop}
theorem vW(I:Inv X Ti σ H s)(e:H a=some (.ins C dx fs))(c:Cls X.K C)(n:NoAttr X.K C f)(l:fs.lookup f=some v)
 (h:∀u s',Inv X Ti σ H s'->RelV v u->Q u s'):OT (model X.prog X.w) A (SU (.ref a) f b) Q E s:=by
 obtain⟨mA,O,r,_⟩:=oX I.hok e
 obtain⟨u,hu,ru⟩:=RelO.some_of (by rw [<-l];exact r f)
 exact Ci I.kIn O (c.get f) c.hd n hu (xx ru) (h u _ (I.tok _) ru)
theorem dS(I:Inv X Ti σ H s)(e:H a=some (.ins C dx fs))(c:Cls X.K C)(k:mj X.K C m g)(l:fs.lookup m=none)
 (h:Q (.ref g,[.ref a]) s):OT (model X.prog X.w) A (PZ (.ref a) m pl) Q E s:=by
 obtain⟨mA,O,r,_⟩:=oX I.hok e
 have hn:=RelO.none_of (by rw [<-l];exact r m)
 exact zJ I.kIn O (c.get m) k.at_ k.fn hn h
theorem vX(I:Inv X Ti σ H s)(e:H a=some (.ins C dx fs))(c:Cls X.K C)(n:NoAttr X.K C f)(hl:fs.length<1000)(ry:RelV y u)
 (h:∀s',Inv X Ti σ (upd H a (.ins C dx (bV f y fs))) s'->Q () s'):OT (model X.prog X.w) A (setAttr (.ref a) f u) Q E s:=by
 obtain⟨mA,O,r,wi,_,ho⟩:=oX I.hok e
 have hz:(fs.map (·.1)).length<=ON:=by rw [MQ,PQ];lia
 refine Cj I.kIn O c.sa c.po n.taker c.hd wi hz λh' O' sb=>h _ ?_
 have hd:∃o,h'.get? dx=some o:=let ⟨o,_,_,e',_⟩:=O'.ns;⟨o,e'⟩
 refine I.write (by rw [e];exact True.intro) (.inr ho) (λb q hb z=>(sb.2 b hb).trans z) hd ?_
 refine⟨by rw [aI O.ne];exact ho,?_,O.ne,O'.obj,_,O'.ns,λg=>?_,λg hg=>?_⟩
 ·have:=lN f y fs;lia
 ·show RelO ((bV f y fs).lookup g) (if g=f then some u else mA g)
  rw [lM]
  by_cases q:g=f
  ·rw [Th q,Th q];exact ry
  ·simp_all
 ·by_cases q:g=f
  ·rw [q];exact(kg f y fs).1
  ·refine(kg f y fs).2 g (wi g λz=>hg ?_)
   show(if g=f then some u else mA g)=none
   rw [Tf q];exact z
theorem Inv.made(I:Inv X Ti σ H s):Inv X Ti σ (upd (upd H s.heap.objs.size (.own (s.heap.objs.size+1))) (s.heap.objs.size+1) (.ins C s.heap.objs.size []))
 {s with heap:=(s.heap.push Ph).push (Pt C s.heap.objs.size)}:=by
 have e1:(s.heap.push Ph).get? s.heap.objs.size=some Ph:=MS s.heap rfl
 have e2:((s.heap.push Ph).push (Pt C s.heap.objs.size)).get? (s.heap.objs.size+1)=some (Pt C s.heap.objs.size):=by
  have:=MS (s.heap.push Ph) (o:=Pt C s.heap.objs.size) rfl
  rwa [Nq] at this
 have e3:(s.heap.push Ph).Ns s.heap.objs.size (λ_=>none):=⟨Ph, #[],_,e1,rfl,(λe he=>absurd he (by simp)),λ_=>rfl⟩
 have I1:=I.laid (o:=.own (s.heap.objs.size+1)) (t':=s.toks) (λb u q=>MO _ q) (Nat.le_refl _) ⟨_,e1⟩
 refine I1.laid (o:=.ins C s.heap.objs.size []) (λb u q=>MO _ q) (NJ (Nq _ _)) ?_
 have ne:s.heap.objs.size≠s.heap.objs.size+1:=Nf (Oa _)
 refine⟨by rw [aI ne,aC],Nk _,ne,e2,λ_=>none,(Heap.Ns1.of_empty e3).at λo q=>MO _ q,λ_=>True.intro,λy hy=>absurd rfl hy⟩
theorem Ck(hb:Pe e f env (eval e env)=eval e env)
 (h:OT (model prog w) A (eval e env) (λo s₁=>OT (model prog w) A (SU o f true) Q E s₁) E s):OT (model prog w) A (eval (.Attribute e f pos) env) Q E s:=
 Attribute_any_ h (by rw [arm_eval_Attribute,hb])
end
section
variable{X:Cx}{o e value:Expr}{f:Str}{pos pos' tpos:Pos}{ta tv:TE}
end
section
variable{X:Cx}{Ti:List (Addr×Obj)}{σ:St}{H:Hp}{s:OO}{A:OY}{E:OL->OO->Prop}{Q:OL->OO->Prop}{c:OL}{b:Bool}
inductive fE (K:N5) (H:Hp):V->OL->Prop where
 | non:fE K H .non (.type "NoneType")
 | bl (x:Bool):fE K H (.bl x) (.type "bool")
 | int (i:Int):fE K H (.int i) (.type "int")
 | str (x:Str):fE K H (.str x) (.type "str")
 | flt (x:UInt64):fE K H (.flt x) (.type "float")
 | lst {a:Addr} {xs:List V} (e:H a=some (.lst xs)):fE K H (.ref a) (.type "list")
 | frz {a:Addr} {o:Obj} {xs:List V} (e:H a=some (.frz o (.lst xs))):fE K H (.ref a) (.type "list")
 | tup {a:Addr} {xs:List V} (e:H a=some (.tup xs)):fE K H (.ref a) (.type "tuple")
 | dK {a:Addr} {kvs:List (Key×V)} (e:H a=some (.dK kvs)):fE K H (.ref a) (.type "dict")
 | dT {a:Addr} {kvs:List (List Key×V)} (e:H a=some (.dT kvs)):fE K H (.ref a) (.type "dict")
 | ins {a C dx:Addr} {fs:List (Str×V)} (e:H a=some (.ins C dx fs)) (cl:Cls K C) (ha:Pb K (.ref C) "__class__" =some (some (.builtin "object.__class__")))
  (hn:PySem.W.specialIn K (.builtin "object.__class__") "__get__" =some (some (.builtin "getset_descriptor.__get__"))) (htk:PySem.W.takesIn K (.builtin "object.__class__")=some true)
  (hm:PySem.W.mroIn K C (.type "object")=some true):fE K H (.ref a) (.ref C)
end
structure Room(k:Nat)(A:OY):Prop where
 hd:A.handled=none
 dp:A.depth+3*k+5<recursionLimit
 un:A.units+16*k+200<Ra
theorem Room.mono(r:Room k A)(h:j<=k):Room j A:=⟨r.hd,by have:=r.dp;lia,by have:=r.un;lia⟩
theorem Room.deeper(r:Room (k+1) A)(env:Env):Room k (A.deeper env):=
 ⟨r.hd,by have:=r.dp;show A.depth+1+3*k+5<_;lia,by have:=r.un;show A.units+3+16*k+200<_;lia⟩
theorem vY{A:OY}:(A.under (.builtin "type.__call__" ⟨.ref C::us,kw⟩)).depth=A.depth+1:=by rfl
theorem vZ{A:OY}:(A.under (.builtin "type.__call__" ⟨.ref C::us,kw⟩)).units=A.units+1:=by rfl
theorem Room.make(r:Room (k+1) A)(C:Addr)(us:List OL)(kw:List (Str×OL)):Room k (A.under (.builtin "type.__call__" ⟨.ref C::us,kw⟩)):=
 ⟨r.hd,by have:=r.dp;rw [vY];lia,by have:=r.un;rw [vZ];lia⟩
theorem Room.depth(r:Room k A):A.depth<recursionLimit:=by have:=r.dp;lia
theorem Room.units(r:Room k A):A.units+64<Ra:=by have:=r.un;lia
def fF:TA:=λ_ H Q=>Q [] H
def cP(ta:TE)(tr:TA):TA:=λσ H Q=>ta σ H λx H1=>tr σ H1 λxs H2=>Q (x::xs) H2
section
variable{X:Cx}{e:Expr}{es:List Expr}{te:TE}{t:TA}{pos:Pos}
theorem aL:PA X [] fF:=λ_ _ _ _ H Q I h=>Calls.spliced_nil ⟨[],H,I,.nil,h⟩
theorem uw(ha:PE X e te)(hr:PA X es t)(hs:OU (e::es) X.env=(false,eval e X.env)::OU es X.env:=by rfl):PA X (e::es) (cP te t):=by
 intro pos Ti s σ H Q I h
 rw [hs]
 show OT _ _ (spliced ((false,eval e X.env)::PP pos (OU es X.env))) _ _ s
 refine Calls.spliced_cons (thn (ha Ti s σ H _ I h) λu s1 y=>?_)
 obtain⟨x,H1,I1,r1,q1⟩:=y
 exact thn (hr pos Ti s1 σ H1 _ I1 q1) λus s2 z=>by obtain⟨xs,H2,I2,r2,q2⟩:=z;exact⟨x::xs,H2,I2,.cons r1 r2,q2⟩
def IZ(t:TA):TE:=λσ H Q=>t σ H λxs H1=>xs.length<=ON/\∀p,H1 p=none->Q (.ref p) (upd H1 p (.tup xs))
def I0(t:TA):TE:=λσ H Q=>t σ H λxs H1=>xs.length<=ON/\∀p,H1 p=none->Q (.ref p) (upd H1 p (.lst xs))
theorem Es(h:PA X es t):PE X (.Tuple es x1 pos) (IZ t):=by
 intro Ti s σ H Q I hq
 refine wpAny_Tuple_spliced (thn (h pos Ti s σ H _ I hq) λus s1 ⟨xs,H1,I1,r,z,q⟩=>⟨by rw [<-r.length];exact z,?_⟩)
 have hf:=I1.hok.fresh (Nat.le_refl _)
 refine⟨.ref s1.heap.objs.size,upd H1 s1.heap.objs.size (.tup xs),I1.laid (λb u e=>MO _ e) (Nat.le_refl _) ?_,rfl,q _ hf⟩
 exact⟨z,us,r,⟨_,MS _ rfl,rfl,_,rfl⟩⟩
theorem Et(h:PA X es t):PE X (.List es pos) (I0 t):=by
 intro Ti s σ H Q I hq
 refine wpAny_List_spliced (thn (h pos Ti s σ H _ I hq) λus s1 ⟨xs,H1,I1,r,z,q⟩=>⟨by rw [<-r.length];exact z,?_⟩)
 have hf:=I1.hok.fresh (Nat.le_refl _)
 refine⟨.ref s1.heap.objs.size,upd H1 s1.heap.objs.size (.lst xs),I1.laid (λb u e=>MO _ e) (Nat.le_refl _) ?_,rfl,q _ hf⟩
 exact⟨z,us,0,r,MS _ rfl⟩
end
abbrev Sp:=List V->Hp->VK->XK->Prop
abbrev CXT:=List Env->Hp->OO->XK->OL->OO->Prop
structure Env0(P:OR)(w:OV)(K:N5)(mg:Str->Option OL)(base:Heap)(A:OY)(outer:List Env)(s:OO)(H:Hp):Prop where
 frames:A.frames=some outer
 mod:Mod K mg base
 bs:∀b o,base.get? b=some o->s.heap.get? b=some o/\H b=none
 bsz:base.objs.size<=s.heap.objs.size
 funs:s.heap.FunFrames base outer
 frf:∀b∈frs outer,H b=none
 hok:HOk P w H s.heap
 bare:QS s.gens
def CE(outer:List Env)(P:OR)(w:OV)(H:Hp)(s:OO)(Q:VK)(u:OL)(s':OO):Prop:=
 ∃v H',s'.os=s.os/\QS s'.gens/\Un (frs outer) [] H H' s.heap s'.heap/\HOk P w H' s'.heap/\RelV v u/\Q v H'
def CR(CX:CXT)(outer:List Env)(P:OR)(w:OV)(H:Hp)(s:OO)(Q:VK)(E:XK)(r:Result)(s':OO):Prop:=
 match r with
 | .ok (.ret u)=>CE outer P w H s Q u s'
 | .ok _=>False
 | .error e=>CX outer H s E e s'
structure eu(P:OR)(w:OV)(K:N5)(mg:Str->Option OL)(base:Heap)(CX:CXT)(k:Nat)(f:Addr)(fd:Rq)(ps:List Str)(sp:Sp):Prop where
 len:∀vs H Q E,sp vs H Q E->vs.length=ps.length
 run:∀(A:OY) (outer:List Env) (s:OO) (H:Hp) (args:Args) (us:List OL) (vs:List V) (Q:VK) (E:XK),Room k A->Env0 P w K mg base A outer s H->Ry s fd args (ps.zip us)->Vals vs us->sp vs H Q E->
  QG (model P w) A (.call (.ref f) args) (CR CX outer P w H s Q E) s
theorem Env0.make{K:N5}(e:Env0 P w K mg base A outer s H)(C:Addr)(us:List OL)(kw:List (Str×OL)):
 Env0 P w K mg base (A.under (.builtin "type.__call__" ⟨.ref C::us,kw⟩)) outer s H:=⟨by first | exact e.frames | (simpa [OY.under,Code.envs,Code.isFrame,pushEnvs] using e.frames),e.mod,e.bs,e.bsz,e.funs,e.frf,e.hok,e.bare⟩
section
variable{X:Cx}{Ti:List (Addr×Obj)}{σ:St}{H:Hp}{s s':OO}
theorem Inv.env0(I:Inv X Ti σ H s):Env0 X.prog X.w X.K X.mg X.base X.A X.stack s H:=
 ⟨I.ok.frames,I.ok.mod,I.bs,Nat.le_trans I.ok.bsz I.sz,I.stack,I.stkFree,I.hok,I.bare⟩
theorem Inv.after(I:Inv X Ti σ H s)(h:CE X.stack X.prog X.w H s Q u s'):EP X Ti σ Q u s':=by
 obtain⟨v,H',os,bare,un,hok,r,q⟩:=h
 obtain⟨hh,g,d,t,os'⟩:=s'
 obtain rfl:os'=s.os:=os
 exact⟨v,H',I.call (ch:=[]) un hok bare (λb z=>absurd z (by simp)),r,q⟩
end
def Hv(sp:Sp)(dvs:List V)(E:XK)(t:TA):TE:=λσ H Q=>t σ H λvs H1=>sp (vs++dvs) H1 Q E
def BB(C:Addr)(m:Str)(sp:Sp)(dvs:List V)(E:XK)(ta:TE)(t:TA):TE:=λσ H Q=>ta σ H λx H1=>∃a dx fs,x= .ref a/\H1 a=some (.ins C dx fs)/\fs.lookup m=none/\
 t σ H1 λvs H2=>sp (x::(vs++dvs)) H2 Q E
def Binds(K:N5)(fd:Rq)(ps:List Str)(ds:List OL):Prop:=
 ∀(s:OO) (us:List OL),K.In s.heap->(us++ds).length=ps.length->Ry s fd ⟨us,[]⟩ (ps.zip (us++ds))
theorem Binds.all{K:N5}(h:∀us:List OL,us.length=ps.length->RN fd ⟨us,[]⟩=pure (ps.zip us)):Binds K fd ps []:=λs us _ hl=>by
 rw [Nv] at hl⊢
 exact .of_eq (h us hl)
def jf(CX:CXT)(X:Cx)(E:XK):Prop:=∀(Ti:List (Addr×Obj)) (σ:St) (H:Hp) (s:OO) (e:OL) (s':OO),Inv X Ti σ H s->CX X.stack H s E e s'->X.xe e s'
section
variable{X:Cx}{CX:CXT}{k:Nat}{f C:Addr}{fd:Rq}{ps:List Str}{sp:Sp}{dvs:List V}{ds:List OL}{E:XK}{x m:Str}{p pos apos:Pos}{e o:Expr}{es:List Expr}{ta:TE}{t:TA}
theorem fV{σ:St}(F:eu X.prog X.w X.K X.mg X.base CX k f fd ps sp)(hr:Room k X.A)(hb:Binds X.K fd ps ds)(hd:Vals dvs ds)(hx:jf CX X E)
 (I:Inv X Ti σ H s) (r:Vals vs us) (h:sp (vs++dvs) H Q E):OT (model X.prog X.w) X.A (call (.ref f) us) (EP X Ti σ Q) X.xe s:=by
 have r2:=r.append hd
 have hl:(us++ds).length=ps.length:=by rw [<-r2.length];exact F.len _ _ _ _ h
 refine Sc (QV (F.run X.A X.stack s H ⟨us,[]⟩ (us++ds) (vs++dvs) Q E hr I.env0 (hb s us I.kIn hl) r2 h) λr s' hq=>?_)
 cases r with
 | error e=>exact hx Ti σ H s e s' I hq
 | ok fl=>
  cases fl with
  | ret u=>exact I.after hq
  | next=>exact False.elim hq
  | brk=>exact False.elim hq
  | cont=>exact False.elim hq
theorem Cl(F:eu X.prog X.w X.K X.mg X.base CX k f fd ps sp)(hr:Room k X.A)(hg:Gl X x)(hm:X.mg x=some (.ref f))(hk:PV X.K (.ref f)=true)(hb:Binds X.K fd ps ds)(hd:Vals dvs ds)(hx:jf CX X E)
 (ha:PA X (e::es) t) (hdb:(x==("__debug__":Str))=false:=by decide) (he:OU (e::es) X.env=(false,eval e X.env)::OU es X.env:=by rfl) (hpl:(PP pos (OU es X.env)).any (·.1)=false:=by rfl):
 PE X (.Call (.Name x p) (e::es) [] pos) (Hv sp dvs E t):=by
 intro Ti s σ H Q I h
 refine PN (ja I hg hm ?_ hdb)
 refine N4 I.ok.mod.kin hk (thn (ha pos Ti s σ H _ I h) λus s1 ⟨vs,H1,I1,r,q⟩=>⟨I1.kIn,?_⟩) he hpl
 exact fV F hr hb hd hx I1 r q
theorem Cm{pl:Sem Bool}(he:PE X o ta)(c:Cls X.K C)(hm:mj X.K C m f)(F:eu X.prog X.w X.K X.mg X.base CX k f fd ps sp)(hr:Room k X.A)(hb:Binds X.K fd ps ds)(hd:Vals dvs ds)(hx:jf CX X E)(ha:PA X (e::es) t)
 (hst:OU (e::es) X.env=(false,eval e X.env)::OU es X.env:=by rfl) (hpl:(PP pos (OU es X.env)).any (·.1)=false:=by rfl)
 (ht:eval (.Call (.Attribute o m apos) (e::es) [] pos) X.env=(do
  let ov <-eval o X.env
  QE apos.atName
  let (f,first) <-holding [ov] (PZ ov m pl)
  Q8 pos f first (PP pos (OU (e::es) X.env)) (P0 pos (Ps [] X.env))):=by rfl):
 PE X (.Call (.Attribute o m apos) (e::es) [] pos) (BB C m sp dvs E ta t):=by
 intro Ti s σ H Q I h
 refine NP (thn (he Ti s σ H _ I h) λu s1 z=>?_) ht
 obtain⟨x,H1,I1,rx,a,dx,fs,ex,ea,l,q⟩:=z
 subst ex
 obtain rfl:u=OL.ref a:=rx
 apply dS I1 ea c hm l
 refine N4 (first:=[.ref a]) I.ok.mod.kin hm.kp (thn (ha pos Ti s1 σ H1 _ I1 q) λus s2 ⟨vs,H2,I2,r,q2⟩=>⟨I2.kIn,?_⟩) hst hpl
 exact fV (vs:=.ref a::vs) F hr hb hd hx I2 (.cons rfl r) q2
theorem zL(he:PE X o ta)(c:Cls X.K C)(hm:mj X.K C m f)(F:eu X.prog X.w X.K X.mg X.base CX k f fd ps sp)(hr:Room k X.A)(hb:Binds X.K fd ps ds)(hd:Vals dvs ds)(hx:jf CX X E)
 (ht:eval (.Call (.Attribute o m apos) [] [] pos) X.env=(do
  let ov <-eval o X.env
  QE apos.atName
  let (f,first) <-holding [ov] (PZ ov m pl)
  Q8 pos f first (PP pos (OU [] X.env)) (P0 pos (Ps [] X.env))):=by rfl):
 PE X (.Call (.Attribute o m apos) [] [] pos) (BB C m sp dvs E ta fF):=by
 intro Ti s σ H Q I h
 refine NP (thn (he Ti s σ H _ I h) λu s1 z=>?_) ht
 obtain⟨x,H1,I1,rx,a,dx,fs,ex,ea,l,q⟩:=z
 subst ex
 obtain rfl:u=OL.ref a:=rx
 apply dS I1 ea c hm l
 exact Oe (first:=[.ref a]) I1.kIn hm.kp (fV (us:=[.ref a]) (vs:=[.ref a]) F hr hb hd hx I1 (.cons rfl .nil) q)
structure Mk(K:N5)(C f:Addr):Prop where
 makes:RV K C=true
 init:Pb K (.ref C) "__init__" =some (some (.ref f))
 fn:RH K (.ref f)=true
 kp:PV K (.ref C)=true
theorem rA{σ:St}(M:Mk X.K C f)(F:eu X.prog X.w X.K X.mg X.base CX k f fd ps sp)(hr:Room (k+1) X.A)(hb:Binds X.K fd ps ds)(hd:Vals dvs ds)
 (hx:jf CX X E) (I:Inv X Ti σ H s) (r:Vals vs us)
 (h:∀x dx,H x=none->H dx=none->dx≠x->sp (.ref x::(vs++dvs)) (upd (upd H dx (.own x)) x (.ins C dx [])) (λv H2=>v= .non/\Q (.ref x) H2) E):
 OT (model X.prog X.w) X.A (call (.ref C) us) (EP X Ti σ Q) X.xe s:=by
 have hq:=h (s.heap.objs.size+1) s.heap.objs.size (I.hok.fresh (N8 _)) (I.hok.fresh (Nat.le_refl _)) (Nf (Oa _))
 have I2:=Inv.made (C:=C) I
 have r2:Vals (V.ref (s.heap.objs.size+1)::(vs++dvs)) (OL.ref (s.heap.objs.size+1)::(us++ds)):=.cons rfl (r.append hd)
 have hl:(OL.ref (s.heap.objs.size+1)::us++ds).length=ps.length:=by
  have e:=r2.length
  rw [F.len _ _ _ _ hq] at e
  exact e.symm
 refine Sc (zK I.kIn M.makes M.init (beq_iff_eq.mp M.fn) (QV (F.run _ X.stack _ _ ⟨OL.ref (s.heap.objs.size+1)::us,[]⟩ (OL.ref (s.heap.objs.size+1)::(us++ds)) _ _ E (hr.make C us [])
  (I2.env0.make C us []) (hb _ (OL.ref (s.heap.objs.size+1)::us) I2.kIn hl) r2 hq) λr s' hq'=>?_))
 cases r with
 | error e=>exact hx Ti σ _ _ e s' I2 hq'
 | ok fl=>
  cases fl with
  | ret u=>
   obtain⟨v,H',I3,rv,ev,q3⟩:=I2.after hq'
   subst ev
   exact⟨rv,⟨V.ref (s.heap.objs.size+1),H',I3,rfl,q3⟩⟩
  | next=>exact False.elim hq'
  | brk=>exact False.elim hq'
  | cont=>exact False.elim hq'
end
section
variable{X:Cx}{CX:CXT}{k:Nat}{f C:Addr}{fd:Rq}{ps ks:List Str}{sp:Sp}{E:XK}{x m:Str}{p pos apos kpos:Pos}{e o:Expr}{es:List Expr}{kws:List Qq}{te ta:TE}{t tk:TA}{nm:Option Str}
variable{g:List OL->List OL->List OL}{gV:List V->List V->List V}
end
structure au(N P:List Str)(sc:Ql):Prop where
 kind:sc.kind= .function
 co:sc.isCoroutine=false
 gen:sc.isGenerator=false
 nd:N.Nodup
 pre:N.take P.length=P
 par:∀x∈P,sc.names.lookup x=some .local\/sc.names.lookup x=some .cell
 nofree:∀y∈sc.names,y.2≠.free
theorem pU{kindOf:Str->Option Pk}:∀{binds:List (Str×OL)} {m:Str->Option OL},(∀v,(x,v)∉binds)->S0 kindOf binds m x=m x
 | [],_,_=>rfl
 | (n,v)::r,m,h=>by
  unfold S0
  rw [pU λw hw=>h w (MV _ hw)]
  split
  ·have:x≠n:=by rintro rfl;exact h v MU
   simp [this]
  ·rfl
theorem pV{kindOf:Str->Option Pk}:∀{binds:List (Str×OL)} {m:Str->Option OL},(∀v,(x,v)∉binds)->Ta kindOf binds m x=m x
 | [],_,_=>rfl
 | (n,v)::r,m,h=>by
  unfold Ta
  rw [pV λw hw=>h w (MV _ hw)]
  split
  ·rfl
  ·have:x≠n:=by rintro rfl;exact h v MU
   simp [this]
theorem pW{kindOf:Str->Option Pk}{x:Str}{v:OL}:∀{P:List Str} {vs:List OL} {i:Nat} {m:Str->Option OL},P.Nodup->P[i]? =some x->vs[i]? =some v->kindOf x=some .local->
 S0 kindOf (P.zip vs) m x=some v
 | [],_,_,_,_,h,_,_=>by simp at h
 | _::_,[],_,_,_,_,h,_=>by simp at h
 | p::P,w::vs,0,m,nd,h1,h2,hk=>by
  simp at h1 h2;subst h1;subst h2
  show S0 kindOf ((p,w)::P.zip vs) m p=_
  unfold S0
  rw [pU λv hv=>(List.nodup_cons.mp nd).1 (On hv).1,Th hk]
  simp
 | p::P,w::vs,i+1,m,nd,h1,h2,hk=>by
  show S0 kindOf ((p,w)::P.zip vs) m x=_
  exact pW (i:=i) (List.nodup_cons.mp nd).2 (by simpa using h1) (by simpa using h2) hk
theorem pX{kindOf:Str->Option Pk}{x:Str}{v:OL}:∀{P:List Str} {vs:List OL} {i:Nat} {m:Str->Option OL},P.Nodup->P[i]? =some x->vs[i]? =some v->kindOf x≠some .local->
 Ta kindOf (P.zip vs) m x=some v
 | [],_,_,_,_,h,_,_=>by simp at h
 | _::_,[],_,_,_,_,h,_=>by simp at h
 | p::P,w::vs,0,m,nd,h1,h2,hk=>by
  simp at h1 h2;subst h1;subst h2
  show Ta kindOf ((p,w)::P.zip vs) m p=_
  unfold Ta
  rw [pV λv hv=>(List.nodup_cons.mp nd).1 (On hv).1,Tf hk]
  simp
 | p::P,w::vs,i+1,m,nd,h1,h2,hk=>by
  show Ta kindOf ((p,w)::P.zip vs) m x=_
  exact pX (i:=i) (List.nodup_cons.mp nd).2 (by simpa using h1) (by simpa using h2) hk
def start(N:List Str)(vs:List V):St:=vs.map some++Nd (N.length-vs.length) none
noncomputable def eT(CX:CXT)(P:OR)(w:OV)(K:N5)(mg:Str->Option OL)(base:Heap)(N:List Str)(qual:Str)(scope:Ql)(f:Addr)(cd:OL)(A:OY)(outer:List Env)(s:OO)(H:Hp)(E:XK):Cx where
 prog:=P
 w:=w
 K:=K
 mg:=mg
 base:=base
 A:=A.deeper (Pl qual scope s.heap.objs.size f cd)
 N:=N
 s₀:=s
 H₀:=H
 env:=Pl qual scope s.heap.objs.size f cd
 outer:=outer
 stack:=Pl qual scope s.heap.objs.size f cd::outer
 ex:=[]
 calm:=true
 fn:=λ_=>true
 pn:=[]
 xe:=λe s'=>OT (model P w) (A.deeper (Pl qual scope s.heap.objs.size f cd)) (leaving (Pl qual scope s.heap.objs.size f cd) e) (λ_ s''=>CX outer H s E e s'') (λe' s''=>CX outer H s E e' s'') s'
theorem rB{sc:Ql}(h:sc.names.lookup x=some .cell):∃c,(SK n sc.names []).lookup x=some c:=by
 have q:=Of sc.names n [] (.inl h)
 exact Option.isSome_iff_exists.mp q
theorem xy{K:N5}
 (S:au N ps scope) (hd:A.handled=none) (e0:Env0 P w K mg base A outer s H) (hl:vs.length=ps.length) (r:Vals vs us)
 (x:InCallC s s.heap.objs.size (S0 (Pl qual scope s.heap.objs.size f cd).kindOf (ps.zip us) λ_=>none) (SK (s.heap.objs.size+1) scope.names []) (Ta (Pl qual scope s.heap.objs.size f cd).kindOf (ps.zip us) λ_=>none) s1):
 Inv (eT CX P w K mg base N qual scope f cd A outer s H E) [] (start N vs) H s1:=by
 have hpl:ps.length<=N.length:=by have:=congrArg List.length S.pre;rw [NT] at this;lia
 obtain⟨h1,tk,rfl,hk⟩:=x.done
 have noA:∀b:Addr,b∉(eT CX P w K mg base N qual scope f cd A outer s H E).ex:=λb z=>absurd (show b∈([]:List Addr) from z) (by simp)
 refine⟨⟨e0.mod,S.kind,rfl,rfl,Nat.le_refl _,λy z c h1 h2=>?_,λy hy=>?_,λy c _ h=>?_,λ_=>hd,OY.frames_deeper e0.frames,.inr ⟨rfl,rfl⟩,λb z=>absurd z (noA b),e0.bs,e0.bsz,λb _ _=>noA b,λb z=>absurd z (noA b),e0.funs,e0.frf⟩,
  rfl,e0.bare,Un.kept hk,⟨_,x.toInCall.ns,λi y v h1 h2 h3=>?_⟩,λy c h=>⟨_,x.cell y c h⟩,e0.hok.fresh (Nat.le_refl _),λy c h=>?_,λp hp=>absurd (show p∈([]:List (Addr×Obj)) from hp) (by simp),e0.hok.kept hk,?_⟩
 ·exact name_of_addr x.apart (Pu h1) (Pu h2)
 ·have hy:=hy
  rcases hy with hy | hy
  ·exact rB hy
  ·exact absurd rfl (S.nofree _ (Pu hy))
 ·exact Nat.le_of_lt (x.above y c (Pu h))
 ·have hi:i<vs.length:=by
   unfold start at h2
   by_cases hi:i<vs.length
   ·exact hi
   ·rw [No (by simpa using hi)] at h2
    rw [Ny] at h2
    split at h2<;>cases h2
  have ha:vs[i]? =some v:=by
   unfold start at h2
   rw [Nl (by simpa using hi),M4] at h2
   cases e:vs[i]? with
   | none=>simp_all
   | some a=>simp_all
  obtain⟨u,hu,rv⟩:=r.get ha
  have hp:ps[i]? =some y:=by
   rw [<-S.pre,List.getElem?_take_of_lt (by lia)];exact h1
  have ndP:ps.Nodup:=by rw [<-S.pre];exact S.nd.sublist (List.take_sublist _ _)
  refine⟨u,rv,?_⟩
  rcases S.par y (Nc hp) with k | k
  ·exact .inl ⟨k,pW ndP hp hu k⟩
  ·obtain⟨c,e⟩:=rB k
   refine .inr ⟨.inl k,c,e,?_⟩
   have q:=x.cell y c e
   rw [pX ndP hp hu (by show scope.names.lookup y≠_;rw [k];decide)] at q
   exact q
 ·exact e0.hok.fresh (Nat.le_of_lt (x.above y c (Pu h)))
 ·unfold start
  show _=N.length
  rw [MW,MQ,MY]
  lia
theorem nO{K:N5}{kV:OL}
 (lk:K.lookup f=some ⟨oc,od,.func (RJ name qual params body scope dV kV doc pm an cdv ct),osl⟩) (hcd:R7 K cdv qual=true) (S:au N ps scope)
 (len:∀vs H Q E,sp vs H Q E->vs.length=ps.length)
 (hbody:∀(A:OY) (outer:List Env) (s:OO) (H:Hp) (vs:List V) (Q:VK) (E:XK),Room k (A.deeper (Pl qual scope s.heap.objs.size f cdv))->sp vs H Q E->
  ∃t,PSs (eT CX P w K mg base N qual scope f cdv A outer s H E) body t/\t {nx:=λ_ H'=>Q .non H',rt:=Q} (start N vs) H):
 eu P w K mg base CX (k+1) f (RJ name qual params body scope dV kV doc pm an cdv ct) ps sp:=by
 refine⟨len,λA outer s H args us vs Q E hr e0 hb r hsp=>?_⟩
 have hl:=len _ _ _ _ hsp
 have KX:=e0.mod.kin.keeps λb o e=>(e0.bs b o e).1
 have lim:=e0.mod.nolimit.keeps λb o e=>(e0.bs b o e).1
 have hkind:∀y∈ps.zip us,scope.names.lookup y.1=some .local\/(scope.names.lookup y.1=some .cell/\((SK (s.heap.objs.size+1) scope.names []).lookup y.1).isSome=true):=λ⟨n,v⟩ hy=>by
  rcases S.par n (On hy).1 with q | q
  ·exact .inl q
  ·exact .inr ⟨q,Of _ _ _ (.inl q)⟩
 refine codeAny_call_function hr.depth (KX _ _ lk) rfl S.co S.gen rfl (PySem.W.codeRec_of KX hcd) (hb _ _ _ _ ?_)
 refine wpAny_newFunctionEnv_cells S.kind hkind λenv he s1 x=>?_
 subst he
 refine⟨lim.keeps x.toInCall.keep,codeAny_func ?_⟩
 obtain⟨t,ht,hq⟩:=hbody A outer s H vs Q E (hr.deeper _) hsp
 have I:Inv (eT CX P w K mg base N qual scope f cdv A outer s H E) [] (start N vs) H s1:=xy S hr.hd e0 hl r x
 refine O6 (ht [] s1 (start N vs) H _ I hq) (λfl s' hs=>?_) λe s' hs=>hs
 have fin:∀{σ':St} {H':Hp} {v:V} {u:OL},Inv (eT CX P w K mg base N qual scope f cdv A outer s H E) [] σ' H' s'->RelV v u->Q v H'->CE outer P w H s Q u s':=
  λ{σ' H' v u} J rv q=>⟨v,H',J.os,J.bare,J.base,J.hok,rv,q⟩
 cases fl with
 | ret u=>
  obtain⟨v,σ',H',J,rv,q⟩:=hs
  exact fin J rv q
 | next=>
  obtain⟨σ',H',J,q⟩:=hs
  exact fin (v:=V.non) J rfl q
 | brk=>
  obtain⟨_,_,_,q⟩:=hs
  exact False.elim q
 | cont=>
  obtain⟨_,_,_,q⟩:=hs
  exact False.elim q
section
variable{X:Cx}{x:Str}{p pos:Pos}{e:Expr}{es:List Expr}{t:TA}{id T:String}{r:List V->Hp->VK->Prop}
def tCB(r:List V->Hp->VK->Prop)(t:TA):TE:=λσ H Q=>t σ H λvs H1=>r vs H1 Q
theorem zM(hc:bD X (.builtin id) r)(hg:Gl X x)(hm:X.mg x=none)(hv:Pa x=some (.builtin id))(ha:PA X (e::es) t)(hn:x≠"__name__":=by decide)(hdb:(x==("__debug__":Str))=false:=by decide)
 (he:OU (e::es) X.env=(false,eval e X.env)::OU es X.env:=by rfl) (hpl:(PP pos (OU es X.env)).any (·.1)=false:=by rfl):PE X (.Call (.Name x p) (e::es) [] pos) (tCB r t):=by
 intro Ti s σ H Q I h
 refine PN (eO I hg hm hv ?_ hn hdb)
 exact RK (thn (ha pos Ti s σ H _ I h) λus s1 z=>by obtain⟨vs,H1,I1,r1,q1⟩:=z;exact hc Ti s1 σ H1 vs us Q I1 r1 q1) he hpl
theorem xz(hc:bD X (.type T) r)(hg:Gl X x)(hm:X.mg x=none)(hv:Pa x=some (.type T))(ha:PA X (e::es) t)(hn:x≠"__name__":=by decide)(hdb:(x==("__debug__":Str))=false:=by decide)
 (he:OU (e::es) X.env=(false,eval e X.env)::OU es X.env:=by rfl) (hpl:(PP pos (OU es X.env)).any (·.1)=false:=by rfl):PE X (.Call (.Name x p) (e::es) [] pos) (tCB r t):=by
 intro Ti s σ H Q I h
 refine PN (eO I hg hm hv ?_ hn hdb)
 exact O4 (thn (ha pos Ti s σ H _ I h) λus s1 ⟨vs,H1,I1,r1,q1⟩=>hc Ti s1 σ H1 vs us Q I1 r1 q1) he hpl
end
end _L
namespace _T
open PySem PyProof.Rows
def aR:List Int->List Int->Bool
 | [],[]=>false
 | [],_::_=>true
 | _::_,[]=>false
 | x::xs,y::ys=>if x=y then aR xs ys else decide (x<y)
theorem bJ(x y:Int)(xs ys:List Int):aR (x::xs) (y::ys)=if x=y then aR xs ys else decide (x<y):=rfl
theorem lexLt_nil_nil:aR [] []=false:=rfl
theorem lexLt_nil_cons(y:Int)(ys:List Int):aR [] (y::ys)=true:=rfl
theorem lexLt_cons_nil(x:Int)(xs:List Int):aR (x::xs) []=false:=rfl
theorem zN(A:OY)(s:OO)(a:Int)(t:Tok)(c:Int)(u:Tok):∃e,SeqAt.EqAt A s (.int a t) (.int c u) e/\(e=true↔a=c):=
 ⟨(a==c),SeqAt.EqAt.int_int a t c u,by simp⟩
theorem zP(A:OY)(s:OO)(a:Int)(t:Tok)(c:Int)(u:Tok)(prog:OR)(w:OV)(E:OL->OO->Prop)(Q:OL->OO->Prop)(h:Q (.bool (decide (a<c))) s):
 OT (model prog w) A (richCompare .Lt (.int a t) (.int c u)) Q E s:=
 (SY h:OT (model prog w) A (Pc .Lt (.int a t) (.int c u)) Q E s)
section
open PySem.SeqAt
open PySem.AutoSeq1 renaming wpAny_loadPart'→N6
open PySem.MeetsSeq PySem.MeetsSeq2 PySem.MeetsSeq3
theorem qx(l b:Addr)(items items2:Array OL)(n n2:Nat)(dd dd2:Option Addr)(sl sl2:Array (Option OL))(ns ms:List Int)(hi:PF items.toList ns)(hj:PF items2.toList ms):
 Tc (OW.«tuple.__lt__» ⟨[.ref l,.ref b],[]⟩)
  (λ_ R s=>s.heap.get? l=some {cls:=.type "tuple",dict:=dd,data:=.seq items n,slots:=sl}/\s.heap.get? b=some {cls:=.type "tuple",dict:=dd2,data:=.seq items2 n2,slots:=sl2}/\
   R (.ok (.ret (.bool (aR ns ms)))) s):=
 .of_wp λprog w A R s h=>by
  obtain⟨hp,g,d,tk,os⟩:=s;obtain⟨hl,hb,h⟩:=h
  have f2:=AutoSeq1.sub_tuple_tuple
  have z1:items.size=ns.length:=by rw [<-hi.length];simp
  have z2:items2.size=ms.length:=by rw [<-hj.length];simp
  wp_walk using N6 hl,N6 hb,wpAny_forIn_list _ (λrest b s'=>b.1=none/\s'=⟨hp,g,d,tk,os⟩/\∃(vs ws:List OL) (ns' ms':List Int),rest=vs.zip ws/\
   PF vs ns'/\PF ws ms'/\ns'.length+items2.size=ms'.length+items.size/\R (.ok (.ret (.bool (aR ns' ms')))) ⟨hp,g,d,tk,os⟩) _
  case turn=>
   rintro⟨y,x⟩ rest b s' ⟨hb',rfl,vs,ws,ns',ms',hz,hvi,hwi,JZ,hR⟩
   cases hvi with
   | nil=>rw [List.zip_nil_left] at hz;cases hz
   | cons a t hvi'=>
    cases hwi with
    | nil=>rw [List.zip_nil_right] at hz;cases hz
    | cons c u hwi'=>
     rw [List.zip_cons_cons] at hz
     injection hz with hyx hrest
     injection hyx with hy hx
     subst hy hx
     rw [bJ] at hR
     simp only [M8] at JZ
     obtain⟨e,he,hiff⟩:=zN A.in1 ⟨hp,g,d,tk,os⟩ a t c u
     refine OK (he prog w _ _ ?_)
     cases e with
     | true=>
      rw [Th (hiff.mp rfl)] at hR
      wp_walk
      exact⟨rfl,rfl,_,_,_,_,hrest,hvi',hwi',by lia,hR⟩
     | false=>
      rw [Tf (λq=>absurd (hiff.mpr q) Bool.false_ne_true)] at hR
      have hri:=zP A.in1 ⟨hp,g,d,tk,os⟩ a t c u prog w
      wp_walk using hri
      exact⟨_,rfl,by simpa using hR⟩
  case fin=>
   rintro⟨b1,b2⟩ s' ⟨hb',rfl,vs,ws,ns',ms',hz,hvi,hwi,JZ,hR⟩
   simp only at hb'
   subst hb'
   have hv:aR ns' ms'=decide (items.size<items2.size):=by
    cases hvi with
    | nil=>
     cases hwi with
     | nil=>
      exact(decide_eq_false (by lia)).symm
     | cons c u hw=>
      simp only [NI,M8] at JZ
      exact(decide_eq_true (by lia)).symm
    | cons a t hv=>
     cases hwi with
     | nil=>
      simp only [NI,M8] at JZ
      exact(decide_eq_false (by lia)).symm
     | cons c u hw=>
      cases hz
   rw [hv] at hR
   wp_walk
   exact⟨_,rfl,by simpa [OW.Tuple.tupleCompareSizes] using hR⟩
  case h=>
   exact⟨rfl,rfl,items.toList,items2.toList,ns,ms,rfl,hi,hj,by lia,h⟩
end
section
variable{prog:OR}{w:OV}{A:OY}{E:OL->OO->Prop}{s:OO}
theorem we(hl:SG s.heap l items)(hb:SG s.heap b items2)(hi:PF items.toList ns)(hj:PF items2.toList ms)
 (hu:A.units<Ra) (h:Q (.bool (aR ns ms)) s):OT (model prog w) A (Pc .Lt (.ref l) (.ref b)) Q E s:=by
 obtain⟨⟨cls,dd,data,sl⟩,ho,hc,n,hd⟩:=id hl
 obtain⟨⟨cls2,dd2,data2,sl2⟩,ho2,hc2,n2,hd2⟩:=id hb
 simp only at hc hd hc2 hd2
 subst hc hd hc2 hd2
 exact richCompare_meets_room (op:=.Lt) ⟨_,ho,rfl⟩ ⟨_,ho2,rfl⟩ PySem.F.slot_tuple_lt PySem.F.entry_tuple_lt (PySem.F.args_tuple_lt_2 _ _) (qx l b items items2 n n2 dd dd2 sl sl2 ns ms hi hj)
  ⟨ho,ho2,show OL.bool (aR ns ms)≠OL.notImplemented/\Q (.bool (aR ns ms)) s from ⟨(λx=>nomatch x),h⟩⟩ hu
theorem Cn(ht:SG s.heap t vs.toArray)(hb:SG s.heap b ws.toArray)(hv:vs≠[])
 (h1:ws= []->Q (.ref t) s) (h2:ws≠[]->Q (.ref s.heap.objs.size) {s with heap:=s.heap.push {cls:=.type "tuple",data:=.seq (vs++ws).toArray}})
 (hsz:vs.length+ws.length<=ON):OT (model prog w) A (PX .Add (.ref t) (.ref b)) Q E s:=by
 obtain⟨⟨cls,dd,data,sl⟩,ho,hc,n,hd⟩:=id ht
 obtain⟨⟨cls2,dd2,data2,sl2⟩,ho2,hc2,n2,hd2⟩:=id hb
 simp only at hc hd hc2 hd2
 subst hc hd hc2 hd2
 have e:vs.toArray++ws.toArray=(vs++ws).toArray:=by simp
 by_cases hw:ws= []
 ·exact concat_meets ⟨_,ho,rfl⟩ ⟨_,ho2,rfl⟩ noFill_tuple_add seq_tuple_add QO QK (QB _ _)
   (tuple_addW1 t b vs.toArray ws.toArray n n2 dd dd2 sl sl2 (by simpa using hv) (by simp [hw])) ⟨ho,ho2,h1 hw⟩
 ·refine concat_meets ⟨_,ho,rfl⟩ ⟨_,ho2,rfl⟩ noFill_tuple_add seq_tuple_add QO QK (QB _ _)
   (tuple_addW2 t b vs.toArray ws.toArray n n2 dd dd2 sl sl2 (by simpa using hv) (by simpa using hw) (by rw [MZ];exact hsz)) ⟨ho,ho2,?_⟩
  rw [e]
  exact h2 hw
def sIx(n d:Nat):Option Int->Nat
 | none=>d
 | some v=>if v<0 then (v+(n:Int)).toNat else min v.toNat n
theorem sIx_le(n d:Nat)(hd:d<=n)(o:Option Int):sIx n d o<=n:=by
 cases o with
 | none=>exact hd
 | some v=>
  show(if v<0 then (v+(n:Int)).toNat else min v.toNat n)<=n
  by_cases hv:v<0
  ·grind
  ·rw [Tf hv];exact Nat.min_le_right _ _
theorem uA(v:Int)(n d:Nat):(if v<0 then max (v+(n:Int)) 0 else min v (n:Int))=((sIx n d (some v):Nat):Int):=by
 show(if v<0 then max (v+(n:Int)) 0 else min v (n:Int))=(((if v<0 then (v+(n:Int)).toNat else min v.toNat n):Nat):Int)
 by_cases hv:v<0
 ·grind
 ·grind
theorem wf(lo hi:Option Int)(n:Nat):OW.Slice.sliceAdjust lo hi 1 (n:Int)=(((sIx n 0 lo:Nat):Int),((sIx n n hi:Nat):Int)):=by
 refine Prod.ext ?_ ?_
 ·cases lo with
  | none=>rfl
  | some v=>exact uA v n 0
 ·cases hi with
  | none=>rfl
  | some v=>exact uA v n n
theorem wg(i j:Nat):OW.Slice.slicePlaces (i:Int) (j:Int) 1=j-i:=by
 unfold OW.Slice.slicePlaces
 have h1:(1:Int)>0:=by lia
 simp only [h1,if_true,Int.ediv_one]
 split<;>lia
theorem nP(p:RO v o)(h:Q o s):OT (model prog w) A (OW.Slice.slicePartIndex v) Q E s:=by
 cases p with
 | none=>exact slicePart_none h
 | int i t=>exact slicePart_int h
theorem mr{lo:Option Int}{n:Nat}(hs:s.heap.IsSliceOf sl vl vu .none)(pl:RO vl lo)(pu:RO vu hi)
 (h:Q (((sIx n 0 lo:Nat):Int),1,sIx n n hi-sIx n 0 lo) s):OT (model prog w) A (OW.Slice.sliceApplied (.ref sl) (pure (n:Int))) Q E s:=by
 obtain⟨os,hos,hcs,hds⟩:=id hs
 refine OK (OK (O2 hos hds (x:=vl) rfl (OK (O2 hos hds (x:=vu) rfl (OK (O2 hos hds rfl (OM ?_)))))))
 refine OK (slicePart_none ?_)
 refine OK (nP pl (OK (nP pu (OK (OM ?_)))))
 show OT _ _ (match OW.Slice.sliceAdjust lo hi 1 (n:Int) with | (lo,hi)=>pure (lo,(1:Int),OW.Slice.slicePlaces lo hi 1)) _ _ s
 rw [wf lo hi n]
 show OT _ _ (pure (((sIx n 0 lo:Nat):Int),(1:Int),OW.Slice.slicePlaces ((sIx n 0 lo:Nat):Int) ((sIx n n hi:Nat):Int) 1)) _ _ s
 rw [wg]
 exact OM h
theorem zQ(xs:Array OL)(i k:Nat):((List.range k).filterMap λ(m:Nat)=>xs[((i:Int)+(m:Int)*1).toNat]?).toArray=((xs.toList.drop i).take k).toArray:=by
 have e:(λ(m:Nat)=>xs[((i:Int)+(m:Int)*1).toNat]?)=λm=>xs[i+m]?:=by
  funext m
  have:((i:Int)+(m:Int)*1).toNat=i+m:=by lia
  rw [this]
 rw [e]
 have:=pick_run xs i k
 rw [List.filterMap_map] at this
 have e2:((λx=>xs[x]?)∘λx=>i+x)=λm=>xs[i+m]?:=rfl
 rw [e2] at this
 rw [this]
theorem lI{lo:Option Int}(ht:SG s.heap t items)(hs:s.heap.IsSliceOf sl vl vu .none)(pl:RO vl lo)(pu:RO vu hi)
 (hw:¬(sIx items.size 0 lo=0/\sIx items.size items.size hi=items.size))
 (h:Q (.ref s.heap.objs.size) {s with heap:=s.heap.push {cls:=.type "tuple",data:=.seq ((items.toList.drop (sIx items.size 0 lo)).take (sIx items.size items.size hi-sIx items.size 0 lo)).toArray}})
 (hsz:items.size<=ON):OT (model prog w) A (Ri (.ref t) (.ref sl)) Q E s:=by
 have htake:sizeOk (.seq ((items.toList.drop (sIx items.size 0 lo)).take (sIx items.size items.size hi-sIx items.size 0 lo)).toArray):=by
  show((items.toList.drop (sIx items.size 0 lo)).take (sIx items.size items.size hi-sIx items.size 0 lo)).toArray.size<=ON
  rw [MZ,NT,N7,Array.length_toList]
  lia
 obtain⟨os,hos,hcs,hds⟩:=id hs
 have hTs:s.TypeIs (.ref sl) "slice":=⟨os,hos,hcs⟩
 unfold Ri
 try with_reducible apply OZ
 first | apply OK (OM) | skip
 refine OK (wpAny_sequenceKey ht.typeIs (by decide) ?_)
 refine OK (O0 ht.typeIs P9
  (O3 P9 ht.typeIs entry_tuple_getitem ?_ (args_tuple_getitem _ _)))
 show OT _ _ (OW.Tuple.tupleItemsOf (.ref t) >>= _) _ _ s
 refine OK (tupleItemsOf_ ht ?_)
 refine OK (QW hTs ?_)
 refine OK (mr hs pl pu ?_)
 have hno:¬((((sIx items.size 0 lo:Nat):Int)==0&&(1:Int)==1&&(sIx items.size items.size hi-sIx items.size 0 lo)==items.size)=true):=by
  intro q
  rw [M0,M0] at q
  have q1:=eq_of_beq q.1.1
  have q2:=eq_of_beq q.2
  exact hw ⟨by lia,by lia⟩
 show OT _ _ (if (((sIx items.size 0 lo:Nat):Int)==0&&(1:Int)==1&&(sIx items.size items.size hi-sIx items.size 0 lo)==items.size)=true then _ else _) _ _ s
 rw [Tf hno,zQ]
 first
  | exact OK (Pd (OM ⟨_,rfl,OM h⟩) htake)
  | exact OK (Pd (OK (OM (OM ⟨_,rfl,OM h⟩))) htake)
  | exact OK (OK (Pd (OM (OM ⟨_,rfl,OM h⟩)) htake))
  | exact OK (OK (Pd (OM ⟨_,rfl,OM h⟩) htake))
end
end _T
namespace _L
open PySem PySem.Spec PyProof.Rows
abbrev TO:=St->Hp->(Option Int->Hp->Prop)->Prop
def PO(X:Cx)(e:Option Expr)(t:TO):Prop:=
 ∀(Ti:List (Addr×Obj)) (s:OO) (σ:St) (H:Hp) (Q:Option Int->Hp->Prop),Inv X Ti σ H s->t σ H Q->
  OT (model X.prog X.w) X.A (evalPart e X.env) (λu s'=>∃o H',Inv X Ti σ H' s'/\RO u o/\Q o H') X.xe s
def uB:TO:=λ_ H Q=>Q none H
def BC(t:TE):TO:=λσ H Q=>t σ H λx H1=>∃i,x= .int i/\Q (some i) H1
theorem jG:∀{us:List OL},Vals (ns.map V.int) us->PF us ns:=by
 induction ns with
 | nil=>intro us r;cases r;exact .nil
 | cons n ns ih=>
  intro us r
  cases r with
  | cons r1 r2=>
   obtain⟨t,e⟩:=r1
   subst e
   exact .cons n t (ih r2)
section
variable{X:Cx}{e:Expr}{te:TE}{lo hi:Option Expr}{tl th:TO}{pos p2:Pos}
theorem kY:PO X none uB:=by
 intro Ti s σ H Q I h
 exact OM ⟨none,H,I,.none,h⟩
theorem kZ(h:PE X e te):PO X (some e) (BC te):=by
 intro Ti s σ H Q I hw
 refine thn (h Ti s σ H _ I hw) λu s1 z=>?_
 obtain⟨x,H1,I1,r1,q1⟩:=z
 obtain⟨i,rfl,q⟩:=q1
 obtain⟨t,rfl⟩:=r1
 exact⟨some i,H1,I1,.int i t,q⟩
def SlR(X:Cx)(r:V->Option Int->Option Int->Hp->VK->Prop):Prop:=
 ∀(Ti:List (Addr×Obj)) (s:OO) (σ:St) (H:Hp) (x:V) (v vl vu:OL) (lo hi:Option Int) (sl:Addr) (Q:VK),Inv X Ti σ H s->RelV x v->s.heap.IsSliceOf sl vl vu .none->RO vl lo->RO vu hi->r x lo hi H Q->
  ∃T id,Qi (.type T) "__getitem__" =pure (some (.builtin id))/\s.TypeIs v T/\OT (model X.prog X.w) X.A (Ri v (.ref sl)) (EP X Ti σ Q) X.xe s
def tSl(r:V->Option Int->Option Int->Hp->VK->Prop)(te:TE)(tl th:TO):TE:=λσ H Q=>te σ H λx H1=>tl σ H1 λl H2=>th σ H2 λu H3=>r x l u H3 Q
theorem jH(hr:SlR X r)(he:PE X e te)(hl:PO X lo tl)(hu:PO X hi th):PE X (.Subscript e (.Slice lo hi none p2) pos) (tSl r te tl th):=by
 intro Ti s σ H Q I h
 refine Sd (thn (he Ti s σ H _ I h) λv s1 y=>?_)
 obtain⟨x,H1,I1,r1,q1⟩:=y
 refine wpAny_Slice (thn (hl Ti s1 σ H1 _ I1 q1) λvl s2 ⟨l,H2,I2,pl,q2⟩=>thn (hu Ti s2 σ H2 _ I2 q2) λvu s3 z=>?_)
 obtain⟨u,H3,I3,pu,q3⟩:=z
 apply OM
 have I4:Inv X Ti σ H3 {s3 with heap:=s3.heap.push {cls:=.type "slice",data:=.fields #[vl,vu,.none]}}:=I3.kept λb ob q=>MO _ q
 obtain⟨T,id,hT,ht,hg⟩:=hr Ti {s3 with heap:=s3.heap.push {cls:=.type "slice",data:=.fields #[vl,vu,.none]}} σ H3 x v vl vu l u s3.heap.objs.size Q I4 r1 (Heap.IsSliceOf.new ..) pl pu q3
 exact tail_any (ops:=[.ref s3.heap.objs.size,v]) ht hT hg (by with_unfolding_all rfl)
def eA(xs:List V)(lo hi:Option Int):List V:=(xs.drop (_T.sIx xs.length 0 lo)).take (_T.sIx xs.length xs.length hi-_T.sIx xs.length 0 lo)
theorem lO(xs:List V)(lo hi:Option Int):(eA xs lo hi).length<=xs.length:=by
 unfold eA
 rw [NT,N7]
 lia
def Ja(K:N5):V->Option Int->Option Int->Hp->VK->Prop:=λx lo hi H Q=>∃a xs,x= .ref a/\SqT K H a xs/\
 ¬(_T.sIx xs.length 0 lo=0/\_T.sIx xs.length xs.length hi=xs.length)/\∀p,H p=none->Q (.ref p) (upd H p (.tup (eA xs lo hi)))
theorem Eu:SlR X (Ja X.K):=by
 intro Ti s σ H x v vl vu lo hi sl Q I rx hs pl pu h
 obtain⟨a,xs,rfl,hx,hw,q⟩:=h
 cases rx
 obtain⟨its,r,ht,hz⟩:=I.tuple hx
 have JZ:its.toArray.size=xs.length:=by rw [MZ];exact r.length.symm
 refine⟨"tuple",_,P9.lookup,ht.typeIs,?_⟩
 refine _T.lI ht hs pl pu (by rw [JZ];exact hw) ?_ (by rw [JZ];exact hz)
 rw [JZ]
 refine⟨.ref s.heap.objs.size,_,I.laid (o:=.tup (eA xs lo hi)) (λb ob q=>MO _ q) (Nat.le_refl _) ?_,rfl,q _ (I.hok.fresh (Nat.le_refl _))⟩
 exact⟨Nat.le_trans (lO xs lo hi) hz,_,(r.drop (_T.sIx xs.length 0 lo)).take (_T.sIx xs.length xs.length hi-_T.sIx xs.length 0 lo),SG.new _ _⟩
def Ev(K:N5):R2:=λx y H Q=>∃a b ns ms,x= .ref a/\y= .ref b/\SqT K H a (ns.map V.int)/\SqT K H b (ms.map V.int)/\Q (.bl (_T.aR ns ms)) H
theorem xA(hu:X.A.units<Ra):OpR X (Pc .Lt) (Ev X.K):=by
 intro Ti s σ H x y v u Q I rx ry h
 obtain⟨a,b,ns,ms,rfl,rfl,ha,hb,q⟩:=h
 cases rx
 cases ry
 obtain⟨its,r1,p1,_⟩:=I.tuple ha
 obtain⟨its2,r2,p2,_⟩:=I.tuple hb
 have i1:=jG r1
 have i2:=jG r2
 exact _T.we p1 p2 i1 i2 hu ⟨.bl (_T.aR ns ms),H,I,rfl,q⟩
def BD(K:N5):R2:=λx y H Q=>∃a b xs ys,x= .ref a/\y= .ref b/\SqT K H a xs/\SqT K H b ys/\xs≠[]/\xs.length+ys.length<=ON/\
 (ys= []->Q (.ref a) H)/\(ys≠[]->∀p,H p=none->Q (.ref p) (upd H p (.tup (xs++ys))))
theorem Vals.nil_iff(r:Vals xs us):us= []↔xs= []:=by
 cases r with
 | nil=>simp
 | cons _ _=>simp
theorem fG:OpR X (PX .Add) (BD X.K):=by
 intro Ti s σ H x y v u Q I rx ry h
 obtain⟨a,b,xs,ys,rfl,rfl,ha,hb,hx,hz,q1,q2⟩:=h
 cases rx
 cases ry
 obtain⟨its,r1,p1,_⟩:=I.tuple ha
 obtain⟨its2,r2,p2,_⟩:=I.tuple hb
 refine _T.Cn p1 p2 (λz=>hx (r1.nil_iff.mp z)) (λz=>⟨.ref a,H,I,rfl,q1 (r2.nil_iff.mp z)⟩) (λz=>?_) (by rw [<-r1.length,<-r2.length];exact hz)
 refine⟨.ref s.heap.objs.size,_,I.laid (o:=.tup (xs++ys)) (λb ob q=>MO _ q) (Nat.le_refl _) ?_,rfl,q2 (λw=>z (r2.nil_iff.mpr w)) _ (I.hok.fresh (Nat.le_refl _))⟩
 exact⟨by rw [MW];exact hz,_,r1.append r2,SG.new _ _⟩
end
noncomputable def ixN(n:Nat)(i:Int):Option Nat:=if 0<=i then (if i<n then some i.toNat else none) else if -(n:Int)<=i then some (i+n).toNat else none
noncomputable def atI{α:Type}(xs:List α)(i:Int):Option α:=(ixN xs.length i).bind λj=>xs[j]?
theorem uC(h:ixN n i=some j):SL i n=some j/\j<n/\ -(n:Int)<=i/\i<n:=by
 unfold ixN at h
 by_cases h0:0<=i
 ·rw [Th h0] at h
  by_cases h1:i<n
  ·rw [Th h1] at h
   have e:=Option.some.inj h
   exact⟨by rw [RP h0 h1,e],by lia,by lia,h1⟩
  ·simp_all
 ·rw [Tf h0] at h
  by_cases h1: -(n:Int)<=i
  ·rw [Th h1] at h
   have e:=Option.some.inj h
   exact⟨by rw [RB (by lia) h1,e],by lia,h1,by lia⟩
  ·simp_all
theorem uD(h:atI xs i=some v):∃j,SL i xs.length=some j/\xs[j]? =some v/\j<xs.length/\ -(xs.length:Int)<=i/\i<xs.length:=by
 unfold atI at h
 cases e:ixN xs.length i with
 | none=>simp_all
 | some j=>
  rw [e] at h
  obtain⟨h1,h2,h3,h4⟩:=uC e
  exact⟨j,h1,h,h2,h3,h4⟩
theorem cH{xs:List α}{j:Nat}{v:α}(h:xs[j]? =some v):atI xs (j:Int)=some v:=by
 have hj:=(List.getElem?_eq_some_iff.mp h).1
 have e:ixN xs.length (j:Int)=some j:=by
  unfold ixN
  rw [Th (by lia),Th (by lia)];simp
 unfold atI;rw [e];exact h
theorem rC(xs:List α)(v:α):atI (xs++[v]) (-1)=some v:=by
 have hl:(xs++[v]).length=xs.length+1:=by simp
 have e:ixN (xs++[v]).length (-1)=some xs.length:=by
  unfold ixN
  rw [hl,Tf (by decide),Th (by lia)]
  congr 1
  lia
 unfold atI
 rw [e]
 simp
def uE(b:Expr):Prop:=∀o i,subscripted b false o i=operate [o,i] (Ri o i)
def IxR(X:Cx)(r:R2):Prop:=
 ∀(value slice:Expr) (Ti:List (Addr×Obj)) (s:OO) (σ:St) (H:Hp) (x y:V) (v u:OL) (Q:VK),Inv X Ti σ H s->RelV x v->RelV y u->r x y H Q->
  subscripted slice false v u=operate [v,u] (Ri v u)->OT (model X.prog X.w) X.A (subscriptTail value slice v u) (EP X Ti σ Q) X.xe s
def MtR (X : Cx) (id : String) (r : V → List V → Hp → VK → Prop) : Prop :=
  ∀ (Ti : List (Addr × Obj)) (s : OO) (σ : St) (H : Hp) (x : V) (xs : List V) (v : OL) (us : List OL) (Q : VK), Inv X Ti σ H s → RelV x v → Vals xs us → r x xs H Q →
    OT (model X.prog X.w) X.A (call (.builtin id) (v :: us)) (EP X Ti σ Q) X.xe s
section
variable{X:Cx}{a b:Expr}{ta tb:TE}{pos:Pos}
theorem Hw(hr:IxR X r)(ha:PE X a ta)(hb:PE X b tb)(hs:uE b):PE X (.Subscript a b pos) (tOp r ta tb):=by
 intro Ti s σ H Q I h
 exact Sd (zH ha hb I h λv u s2 x y H2 I2 rx ry q=>hr a b Ti s2 σ H2 x y v u Q I2 rx ry q (hs _ _))
def Ew(K:N5):R2:=λx y H Q=>∃p xs i v,x= .ref p/\y= .int i/\SqL K H p xs/\atI xs i=some v/\Q v H
def Jb(K:N5):R2:=λx y H Q=>∃p xs i v,x= .ref p/\y= .int i/\SqT K H p xs/\atI xs i=some v/\Q v H
theorem Co:IxR X (Ew X.K):=by
 intro value slice Ti s σ H x y v u Q I rx ry h hs
 obtain⟨p,xs,i,z,rfl,rfl,hq,he,q⟩:=h
 cases rx
 obtain⟨t,rfl⟩:=ry
 obtain⟨its,r,pl,hz⟩:=I.list hq
 obtain⟨j,h1,h2,h3,h4,h5⟩:=uD he
 obtain⟨w,ew,rw'⟩:=r.get h2
 have hl:=r.length
 have hn:=nM
 have fin:EP X Ti σ Q w s:=⟨z,H,I,rw',q⟩
 by_cases h0:0<=i
 ·have hj:i.toNat=j:=by
   rw [RP h0 h5] at h1
   exact Option.some.inj h1
  exact item_listR pl.isList h0 (by lia) (by rw [hj];simpa using ew) fin hs
 ·have hj:(i+(its.toArray.size:Int)).toNat=j:=by
   rw [RB (by lia) h4] at h1
   rw [MZ,<-hl]
   exact Option.some.inj h1
  exact subscriptTail_builtinR pl.isList.typeIs slot_list_getitem.lookup
   (wpAny_getItem_list_neg pl.isList (by lia) (by rw [MZ]<;>lia) (by lia) (by rw [hj];simpa using ew) ⟨rfl,fin⟩) hs
theorem Ex:IxR X (Jb X.K):=by
 intro value slice Ti s σ H x y v u Q I rx ry h hs
 obtain⟨p,xs,i,z,rfl,rfl,hq,he,q⟩:=h
 cases rx
 obtain⟨t,rfl⟩:=ry
 obtain⟨its,r,pl,hz⟩:=I.tuple hq
 obtain⟨j,h1,h2,h3,h4,h5⟩:=uD he
 obtain⟨w,ew,rw'⟩:=r.get h2
 have hl:=r.length
 have hn:=nM
 have fin:EP X Ti σ Q w s:=⟨z,H,I,rw',q⟩
 exact subscriptTail_builtinR pl.typeIs slot_tuple_getitem.lookup
  (getItem_tuple pl (by lia) (by lia) (by rw [MZ,<-hl];exact h1) (by simpa using ew) ⟨rfl,fin⟩) hs
theorem wj(its:List OL)(n j:Nat)(u:OL):Obj.mapSeq (·.setIfInBounds j u) {cls:=.type "list",data:=.seq its.toArray n}={cls:=.type "list",data:=.seq (its.set j u).toArray n}:=by
 simp [Obj.mapSeq]
theorem Inv.lst{σ:St}(I:Inv X Ti σ H s)(h:H p=some (.lst xs)):
 ∃(its:List OL) (n:Nat),Vals xs its/\s.heap.get? p=some {cls:=.type "list",data:=.seq its.toArray n}/\xs.length<=ON:=by
 obtain⟨z,its,n,r,e⟩:=I.hok p _ h
 exact⟨its,n,r,e,z⟩
theorem Inv.lstUpd{σ:St}{its:List OL}(I:Inv X Ti σ H s)(h:H p=some (.lst xs))
 (ho:s.heap.get? p=some {cls:=.type "list",data:=.seq its.toArray n}) (hf:f {cls:=.type "list",data:=.seq its.toArray n}={cls:=.type "list",data:=.seq its'.toArray n'}) (r:Vals ys its') (hz:ys.length<=ON) (t:Nat):
 Inv X Ti σ (upd H p (.lst ys)) {s with heap:=s.heap.update p f,toks:=t}:=by
 have e:(s.heap.update p f).get? p=some {cls:=.type "list",data:=.seq its'.toArray n'}:=by
  rw [Heap.get?_update_self f ho (by rw [hf]<;>rfl),hf]
 refine I.write (by rw [h];trivial) (.inl rfl) (λb u hb q=>(Heap.get?_update_other _ _ (Ne.symm hb)).trans q) ⟨_,e⟩ ?_
 exact⟨hz,its',n',r,e⟩
def Hx:V->V->V->Hp->(Hp->Prop)->Prop:=λo i v H Q=>∃p xs k j,o= .ref p/\i= .int k/\H p=some (.lst xs)/\ixN xs.length k=some j/\Q (upd H p (.lst (xs.set j v)))
theorem zR:vN X Hx:=by
 intro Ti s σ H o i v ov iv u Q I ro ri rv h
 obtain⟨p,xs,k,j,rfl,rfl,hp,hj,q⟩:=h
 cases ro
 obtain⟨t,rfl⟩:=ri
 obtain⟨its,n,r,ho,hz⟩:=I.lst hp
 obtain⟨h1,h2,h3,h4⟩:=uC hj
 have hl:=r.length
 have hn:=nM
 have I':Inv X Ti σ (upd H p (.lst (xs.set j v))) {s with heap:=s.heap.update p (Obj.mapSeq (·.setIfInBounds j u))}:=
  I.lstUpd hp ho (wj its n j u) (r.set rv j) (by rw [N3];exact hz) s.toks
 by_cases h0:0<=k
 ·have hk:k.toNat=j:=by
   rw [RP h0 h4] at h1
   exact Option.some.inj h1
  exact PySem.W.ki_setAt ho h0 (by lia) (by rw [MZ,<-hl];exact h4) (by rw [hk];exact⟨_,I',q⟩)
 ·have hk:(k+(its.toArray.size:Int)).toNat=j:=by
   rw [RB (by lia) h3] at h1
   rw [MZ,<-hl]
   exact Option.some.inj h1
  exact PySem.W.ki_setBack ho (by lia) (by rw [MZ,<-hl];exact h3) (by lia) (by rw [hk];exact⟨_,I',q⟩)
theorem rD(lo hi:Option Int)(n:Nat):(P6 lo hi none n).1=((_T.sIx n 0 lo:Nat):Int)/\(P6 lo hi none n).2.1=((_T.sIx n n hi:Nat):Int)/\(P6 lo hi none n).2.2=1:=by
 refine⟨?_,?_,rfl⟩
 ·cases lo with
  | none=>simp [P6,_T.sIx]
  | some i=>
   simp only [P6,_T.sIx,OG,show(1:Int)>0 by decide,if_true]
   by_cases h:i<0
   ·simp only [h,if_true]<;>lia
   ·simp only [h,if_false]<;>lia
 ·cases hi with
  | none=>simp [P6,_T.sIx]
  | some i=>
   simp only [P6,_T.sIx,OG,show(1:Int)>0 by decide,if_true]
   by_cases h:i<0
   ·simp only [h,if_true]<;>lia
   ·simp only [h,if_false]<;>lia
theorem qy(its:List OL)(lo hi:Option Int):slicePick its.toArray lo hi none=((its.drop (_T.sIx its.length 0 lo)).take (_T.sIx its.length its.length hi-_T.sIx its.length 0 lo)).toArray:=by
 obtain⟨h1,h2,h3⟩:=rD lo hi its.toArray.size
 unfold slicePick
 rw [h1,h2,h3]
 simp only [sliceRange_one,pick_run]<;>rfl
def Jc(K:N5):V->Option Int->Option Int->Hp->VK->Prop:=λx lo hi H Q=>∃a xs,x= .ref a/\SqL K H a xs/\∀p,H p=none->Q (.ref p) (upd H p (.lst (eA xs lo hi)))
theorem uF:SlR X (Jc X.K):=by
 intro Ti s σ H x v vl vu lo hi sl Q I rx hs pl pu h
 obtain⟨a,xs,rfl,hx,q⟩:=h
 cases rx
 obtain⟨its,r,ht,hz⟩:=I.list hx
 have JZ:=r.length
 refine⟨"list",_,slot_list_getitem.lookup,ht.isList.typeIs,?_⟩
 refine wpAny_getItem_list_slice ht.isList hs pl pu .none (by simp) ?_ (by rw [MZ]<;>lia)
 rw [qy,<-JZ]
 refine⟨.ref s.heap.objs.size,_,I.laid (o:=.lst (eA xs lo hi)) (λb ob q=>MO _ q) (Nat.le_refl _) ?_,rfl,q _ (I.hok.fresh (Nat.le_refl _))⟩
 exact⟨Nat.le_trans (lO xs lo hi) hz,_,0,(r.drop (_T.sIx xs.length 0 lo)).take (_T.sIx xs.length xs.length hi-_T.sIx xs.length 0 lo),MS _ rfl⟩
def dD:V->Bool
 | .non=>true
 | .bl _=>true
 | .int _=>true
 | .str _=>true
 | _=>false
noncomputable def eqV:V->V->Bool
 | .non,.non=>true
 | .bl a,.bl b=>a==b
 | .bl a,.int b=>(if a then 1 else 0)==b
 | .int a,.bl b=>a==(if b then 1 else 0)
 | .int a,.int b=>a==b
 | .str a,.str b=>a==b
 | _,_=>false
theorem Ey(ry:RelV y u)(rx:RelV x v)(fy:dD y=true)(fx:dD x=true):SeqAt.EqAt A s u v (eqV y x):=by
 cases y with
 | non=>
  cases ry
  cases x with
  | non=>cases rx;exact SeqAt.EqAt.same _
  | bl b=>cases rx;exact SeqAt.EqAt.none_bool b
  | int b=>obtain⟨t,rfl⟩:=rx;exact SeqAt.EqAt.none_int b t
  | str b=>obtain⟨t,rfl⟩:=rx;exact SeqAt.EqAt.none_str b t
  | _=>exact absurd (fx) Bool.false_ne_true
 | bl a=>
  cases ry
  cases x with
  | non=>cases rx;exact SeqAt.EqAt.bool_none a
  | bl b=>cases rx;exact SeqAt.EqAt.bool_bool a b
  | int b=>obtain⟨t,rfl⟩:=rx;exact SeqAt.EqAt.bool_int a b t
  | str b=>obtain⟨t,rfl⟩:=rx;exact SeqAt.EqAt.bool_str a b t
  | _=>exact absurd (fx) Bool.false_ne_true
 | int a=>
  obtain⟨t',rfl⟩:=ry
  cases x with
  | non=>cases rx;exact SeqAt.EqAt.int_none a t'
  | bl b=>cases rx;exact SeqAt.EqAt.int_bool a t' b
  | int b=>obtain⟨t,rfl⟩:=rx;exact SeqAt.EqAt.int_int a t' b t
  | str b=>obtain⟨t,rfl⟩:=rx;exact SeqAt.EqAt.int_str a t' b t
  | _=>exact absurd (fx) Bool.false_ne_true
 | str a=>
  obtain⟨t',rfl⟩:=ry
  cases x with
  | non=>cases rx;exact SeqAt.EqAt.str_none a t'
  | bl b=>cases rx;exact SeqAt.EqAt.str_bool a t' b
  | int b=>obtain⟨t,rfl⟩:=rx;exact SeqAt.EqAt.str_int a t' b t
  | str b=>obtain⟨t,rfl⟩:=rx;exact SeqAt.EqAt.str_str a t' b t
  | _=>exact absurd (fx) Bool.false_ne_true
 | _=>exact absurd (fy) Bool.false_ne_true
noncomputable def eqU(x:V)(u:OL):Bool:=match u with
 | .none=>eqV .non x
 | .bool b=>eqV (.bl b) x
 | .int i _=>eqV (.int i) x
 | .str z _=>eqV (.str z) x
 | _=>false
theorem xB(r:RelV y u)(f:dD y=true):eqU x u=eqV y x:=by
 cases y with
 | non=>cases r;rfl
 | bl b=>cases r;rfl
 | int i=>obtain⟨t,rfl⟩:=r;rfl
 | str z=>obtain⟨t,rfl⟩:=r;rfl
 | _=>exact absurd (f) Bool.false_ne_true
theorem uG{x:V}:∀{xs:List V} {us:List OL},Vals xs us->xs.all dD=true->us.any (eqU x)=xs.any λy=>eqV y x:=by
 intro xs us h
 induction h with
 | nil=>intro _;rfl
 | cons r t ih=>
  intro f
  rw [List.all_cons,M0] at f
  rw [OB,OB,xB r f.1,ih f.2]
theorem mt{s:OO}{x:V}{v:OL}(rx:RelV x v)(fx:dD x=true):∀{xs:List V} {us:List OL},Vals xs us->xs.all dD=true->∀u∈us,SeqAt.EqAt A s u v (eqU x u)
 | _,_,.nil,_=>λu hu=>by cases hu
 | y::xs,u::us,.cons r t,f=>λu' hu=>by
  rw [List.all_cons,M0] at f
  rcases List.mem_cons.mp hu with rfl | hu
  ·rw [xB r f.1];exact Ey r rx f.1 fx
  ·exact mt rx fx t f.2 u' hu
def inV(x:V)(xs:List V):Bool:=xs.any λy=>eqV y x
def rIn(K:N5)(neg:Bool):R2:=λx y H Q=>∃p xs,y= .ref p/\(SqL K H p xs\/SqT K H p xs)/\dD x=true/\xs.all dD=true/\Q (.bl (if neg then !inV x xs else inV x xs)) H
theorem xC:OpR X (Pc .In) (rIn X.K false):=by
 intro Ti s σ H x y v u Q I rx ry h
 obtain⟨p,xs,rfl,hq,fx,fs,q⟩:=h
 cases ry
 rcases hq with hq | hq
 ·obtain⟨its,r,pl,hz⟩:=I.list hq
  refine SeqAt.in_listAt (eqU x) pl.isList (λw hw=>mt rx fx r fs w (by simpa using hw)) ⟨.bl _,H,I,rfl,?_⟩
  rw [show its.toArray.any (eqU x)=its.any (eqU x) by simp,uG r fs]
  exact q
 ·obtain⟨its,r,pl,hz⟩:=I.tuple hq
  refine SeqAt.in_tupleAt (eqU x) pl (λw hw=>mt rx fx r fs w (by simpa using hw)) ⟨.bl _,H,I,rfl,?_⟩
  rw [show its.toArray.any (eqU x)=its.any (eqU x) by simp,uG r fs]
  exact q
theorem eU:bD X (.builtin "len") (λxs H Q=>∃p ys,xs= [.ref p]/\(SqL X.K H p ys\/SqT X.K H p ys)/\Q (.int ys.length) H):=by
 intro Ti s σ H xs us Q I r h
 obtain⟨p,ys,rfl,hq,q⟩:=h
 obtain⟨u,rfl,rx⟩:=dR r
 cases rx
 have hn:=nM
 rcases hq with hq | hq
 ·obtain⟨its,r',pl,hz⟩:=I.list hq
  have JZ:=r'.length
  exact Calls.call_len_list pl.isList (by simp only [MZ]<;>lia) ⟨.int ys.length,H,I.tok _,⟨s.toks+1,by rw [MZ,JZ]⟩,q⟩
 ·obtain⟨its,r',pl,hz⟩:=I.tuple hq
  have JZ:=r'.length
  exact len_tuple pl (by simp only [MZ]<;>lia) ⟨.int ys.length,H,I.tok _,⟨s.toks+1,by rw [MZ,JZ]⟩,q⟩
theorem rE:bD X (.type "list") (λxs H Q=>∃p ys,xs= [.ref p]/\(SqL X.K H p ys\/SqT X.K H p ys)/\∀l,H l=none->Q (.ref l) (upd H l (.lst ys))):=by
 intro Ti s σ H xs us Q I r h
 obtain⟨p,ys,rfl,hq,q⟩:=h
 obtain⟨u,rfl,rx⟩:=dR r
 cases rx
 have fin:∀(its:List OL),Vals ys its->ys.length<=ON->∀(h':Heap) (c':Nat),(∀b o',s.heap.get? b=some o'->h'.get? b=some o')->
  h'.get? s.heap.objs.size=some {cls:=.type "list",dict:=none,data:=.seq its.toArray c',slots:= #[]}->EP X Ti σ Q (.ref s.heap.objs.size) {s with heap:=h'}:=λits r' hz h' c' kp e=>
  ⟨.ref s.heap.objs.size,_,I.laid kp (Nat.le_refl _) (show ObjOk X.prog X.w _ h' _ (.lst ys) from ⟨hz,its,c',r',e⟩),rfl,q _ (I.hok.fresh (Nat.le_refl _))⟩
 rcases hq with hq | hq
 ·obtain⟨its,r',pl,hz⟩:=I.list hq
  have JZ:=r'.length
  obtain⟨o,ho,hc,n,hd⟩:=pl.isList
  exact call_list_seq p (.inl rfl) ho hc hd (λh' c' kp e=>fin its r' hz h' c' kp e) (by simp only [MZ]<;>lia)
 ·obtain⟨its,r',pl,hz⟩:=I.tuple hq
  have JZ:=r'.length
  obtain⟨o,ho,hc,n,hd⟩:=pl
  exact call_list_seq p (.inr rfl) ho hc hd (λh' c' kp e=>fin its r' hz h' c' kp e) (by simp only [MZ]<;>lia)
def tyV (K : N5) (T : String) (x : V) (H : Hp) : Prop := match x with
  | .str _ => T = "str"
  | .int _ => T = "int"
  | .ref p => (T = "list" ∧ ∃ xs, SqL K H p xs) ∨ (T = "tuple" ∧ ∃ o, K.lookup p = some o ∧ o.cls = .type "tuple" ∧ o.dict = none) ∨
      (T = "dict" ∧ ((∃ kvs, H p = some (.dK kvs)) ∨ ∃ kvs, H p = some (.dT kvs))) ∨ (T = "set" ∧ ∃ S n, H p = some (.set S n))
  | _ => False
theorem gR{σ:St}(I:Inv X Ti σ H s)(r:RelV x v)(ty:tyV X.K T x H):
 s.TypeIs v T/\∀a,v= .ref a->∃ob,s.heap.get? a=some ob/\ob.dict=none:=by
 cases x with
 | str z=>
  obtain⟨t,rfl⟩:=r
  cases (ty)
  exact⟨typeIs_str s z t,λ_ e=>nomatch e⟩
 | int i=>
  obtain⟨t,rfl⟩:=r
  cases (ty)
  exact⟨Se s i t,λ_ e=>nomatch e⟩
 | ref p=>
  cases r
  rcases ty with ⟨rfl,xs,hq⟩ | ⟨rfl,o,hk,hc,hd⟩ | ⟨rfl,hk⟩ | ⟨rfl,S,n,hk⟩
  ·obtain⟨its,_,pl,_⟩:=I.list hq
   refine⟨pl.isList.typeIs,λa e=>?_⟩
   cases e
   obtain⟨o,n,e,c,hd,_⟩:=pl
   exact⟨o,e,hd⟩
  ·refine⟨⟨o,I.kIn p o hk,hc⟩,λa e=>?_⟩
   cases e
   exact⟨o,I.kIn _ o hk,hd⟩
  ·have z:∃o,s.heap.get? p=some o/\o.ExactDict:=by
    rcases hk with ⟨kvs,hk⟩ | ⟨kvs,hk⟩
    ·obtain⟨_,_,_,_,o,_,_,e,ex,_⟩:=I.hok p _ hk
     exact⟨o,e,ex⟩
    ·obtain⟨_,_,_,_,o,_,_,e,ex,_⟩:=I.hok p _ hk
     exact⟨o,e,ex⟩
   obtain⟨o,e,ex⟩:=z
   refine⟨⟨o,e,ex.1⟩,λa e2=>?_⟩
   cases e2
   exact⟨o,e,ex.2.1⟩
  ·obtain⟨o,_,_,_,e,ex,_⟩:=I.hok p _ hk
   refine⟨⟨o,e,ex.1⟩,λa e2=>?_⟩
   cases e2
   exact⟨o,e,ex.2.1⟩
 | _=>exact False.elim ty
def Ez (K : N5) (T : String) (r : V → List V → Hp → VK → Prop) (to : TE) : TE := fun σ H Q => to σ H fun x H1 => tyV K T x H1 ∧ r x [] H1 Q
def tBM (K : N5) (T : String) (r : V → List V → Hp → VK → Prop) (to : TE) (t : TA) : TE := fun σ H Q => to σ H fun x H1 => tyV K T x H1 ∧ t σ H1 fun xs H2 => r x xs H2 Q
variable{o e:Expr}{es:List Expr}{to:TE}{t:TA}{name:Str}{apos cpos:Pos}{T id:String}{r:V->List V->Hp->VK->Prop}
theorem xD(pa:PlainAttrs T)(slot:Slot T name id)(hty:typeOf (.builtin id)=pure (.type "method_descriptor"))(hm:MtR X id r)(ho:PE X o to)
 (hbase:Pe o name X.env (eval o X.env)=eval o X.env:=by rfl) (hline:(apos.endLine==cpos.line)=true:=by rfl):PE X (.Call (.Attribute o name apos) [] [] cpos) (Ez X.K T r to):=by
 intro Ti s σ H Q I h
 refine Pm hbase hline (thn (ho Ti s σ H _ I h) λv s1 z=>?_)
 obtain⟨x,H1,I1,r1,ty,q1⟩:=z
 obtain⟨h1,h2⟩:=gR I1 r1 ty
 exact⟨T,id,pa,slot,hty,h1,h2,Calls.callWith_builtin rfl (PH (hm Ti s1 σ H1 x [] v [] Q I1 r1 .nil q1))⟩
theorem BE(pa:PlainAttrs T)(slot:Slot T name id)(hty:typeOf (.builtin id)=pure (.type "method_descriptor"))(hm:MtR X id r)(ho:PE X o to)(ha:PA X (e::es) t)
 (hbase:Pe o name X.env (eval o X.env)=eval o X.env:=by rfl)
 (hfew:((PP cpos (OU (e::es) X.env)).all (λx=>!x.1)&&(P0 cpos (Ps [] X.env)).all (λx=>x.1.isSome)
  && decide ((e::es).length+([]:List Qq).length+(if ([]:List Qq).isEmpty then 0 else 1)<30))=true:=by rfl)
 (hline:(apos.endLine==cpos.line)=true:=by rfl) (hs:OU (e::es) X.env=(false,eval e X.env)::OU es X.env:=by rfl) (hplain:(PP cpos (OU es X.env)).any (·.1)=false:=by rfl):
 PE X (.Call (.Attribute o name apos) (e::es) [] cpos) (tBM X.K T r to t):=by
 intro Ti s σ H Q I h
 refine wpAny_Call_method_late hbase hfew hline rfl (thn (ho Ti s σ H _ I h) λv s1 y=>?_)
 obtain⟨x,H1,I1,r1,ty,q1⟩:=y
 obtain⟨h1,h2⟩:=gR I1 r1 ty
 refine⟨T,id,pa,slot,hty,h1,h2,?_⟩
 have hA:=ha cpos Ti s1 σ H1 _ I1 q1
 rw [hs] at hA⊢
 refine Calls.callWith_builtin (by show(false || (PP cpos (OU es X.env)).any (·.1))=false;rw [hplain]<;>rfl) (Calls.evalArgs_plain ?_)
 exact thn hA λus s2 z=>by obtain⟨vs,H2,I2,r2,q2⟩:=z;exact hm Ti s2 σ H2 x vs v us Q I2 r1 r2 q2
/- xs.append(e),list.index on a module's tuple .. are MtR facts of 06m -/
end
def MtM (X : Cx) (id : String) (r : V → List V → Hp → VK → Prop) : Prop :=
  ∀ (Ti : List (Addr × Obj)) (s : OO) (σ : St) (H : Hp) (x : V) (xs : List V) (v : OL) (us : List OL) (Q : VK), Inv X Ti σ H s → RelV x v → Vals xs us → r x xs H Q →
    OT (model X.prog X.w) X.A (call (.builtin id) (v :: us)) (EP X Ti σ Q) X.xe s
theorem Vals.one:∀{x:V} {us:List OL},Vals [x] us->∃u,us= [u]/\RelV x u:=by
 intro x us h
 cases h with
 | cons r t=>cases t;exact⟨_,rfl,r⟩
theorem Vals.two:∀{x y:V} {us:List OL},Vals [x,y] us->∃u v,us= [u,v]/\RelV x u/\RelV y v:=by
 intro x y us h
 cases h with
 | cons r t=>
  cases t with
  | cons q t=>cases t;exact⟨_,_,rfl,r,q⟩
theorem Vals.zero:∀{us:List OL},Vals [] us->us= []
 | _,.nil=>rfl
theorem Vals.dropLast(h:Vals xs us):Vals xs.dropLast us.dropLast:=by
 induction h with
 | nil=>exact .nil
 | cons r t ih=>
  cases t with
  | nil=>exact .nil
  | cons q t'=>exact .cons r ih
theorem Vals.eraseIdx:∀{xs:List V} {us:List OL} (i:Nat),Vals xs us->Vals (xs.eraseIdx i) (us.eraseIdx i)
 | _,_,_,.nil=>.nil
 | _,_,0,.cons _ t=>t
 | _,_,i+1,.cons r t=>.cons r (Vals.eraseIdx i t)
theorem Vals.rep{xs:List V}{us:List OL}(h:Vals xs us):∀k:Nat,Vals (Nd k xs).flatten (Nd k us).flatten
 | 0=>.nil
 | k+1=>by
  rw [Nz,Nz,NH,NH]
  exact Vals.append h (Vals.rep h k)
theorem erase_last{α:Type}(l:List α):l.eraseIdx (l.length-1)=l.dropLast:=by grind
theorem pY{α:Type}:∀(l:List α) (i:Nat),(l.eraseIdx i).length<=l.length
 | [],_=>Nat.le_refl _
 | _::_,0=>N8 _
 | _::r,i+1=>Nat.succ_le_succ (pY r i)
theorem pZ(its:List OL):∀(k:Nat) (acc:List OL),
 List.foldl (λx1 x2=>x1++x2) acc.toArray (Nd k its.toArray)=(acc++(Nd k its).flatten).toArray
 | 0,acc=>by simp
 | k+1,acc=>by
  have e:acc.toArray++its.toArray=(acc++its).toArray:=by simp
  have e2:(acc++its)++(Nd k its).flatten=acc++(Nd (k+1) its).flatten:=by
   rw [Nz,NH,Nj]
  rw [<-e2,<-pZ its k (acc++its),<-e,Nz,Os]
section
variable{X:Cx}{Ti:List (Addr×Obj)}{σ:St}{H:Hp}{s:OO}{l b:Addr}{xs ys zs:List V}
theorem Inv.lset{its:List OL}(I:Inv X Ti σ H s)(hH:H l=some (.lst xs))
 (e:s.heap.get? l=some {cls:=.type "list",data:=.seq its.toArray n}) (hf:f its.toArray=its'.toArray) (hv:Vals ys its') (hz:ys.length<=ON):
 Inv X Ti σ (upd H l (.lst ys)) {s with heap:=s.heap.update l (Obj.mapSeq f),toks:=t'}:=by
 have q:=PySem.IsL.update e f
 rw [hf] at q
 refine I.write (by rw [hH];exact trivial) (.inl rfl) (λb' u hb hu=>(Heap.get?_update_other s.heap (Obj.mapSeq f) (Ne.symm hb)).trans hu) ⟨_,q⟩ ?_
 exact⟨hz,its',_,hv,q⟩
theorem Inv.lnew(I:Inv X Ti σ H s)(hv:Vals ys its)(hz:ys.length<=ON):
 Inv X Ti σ (upd H s.heap.objs.size (.lst ys)) {s with heap:=s.heap.push {cls:=.type "list",data:=.seq its.toArray},toks:=t'}:=
 I.laid (λ_ _ q=>MO _ q) (Nat.le_refl _) ⟨hz,its,0,hv,MS _ rfl⟩
theorem Inv.fresh(I:Inv X Ti σ H s):H s.heap.objs.size=none:=I.hok.fresh (Nat.le_refl _)
theorem Inv.lstM(I:Inv X Ti σ H s)(hH:H l=some (.lst xs)):xs.length<=ON/\∃(its:List OL) (n:Nat),Vals xs its/\xs.length=its.length/\s.heap.get? l=some {cls:=.type "list",data:=.seq its.toArray n}:=by
 obtain⟨z,its,n,r,e⟩:=I.hok l _ hH
 exact⟨z,its,n,r,r.length,e⟩
theorem zS{n:Nat}(h:n<=ON):OW.List.listTooLong n=false:=by
 unfold OW.List.listTooLong
 exact decide_eq_false (by lia)
end
section
variable{X:Cx}
def oY:V->List V->Hp->VK->Prop:=λx vs H Q=>∃l xs y,x= .ref l/\vs= [y]/\H l=some (.lst xs)/\xs.length<ON/\Q .non (upd H l (.lst (xs++[y])))
theorem qa:MtM X "list.append" oY:=by
 intro Ti s σ H x vs v us Q I rx rv h
 obtain⟨l,xs,y,rfl,rfl,hH,hz,q⟩:=h
 cases rx
 obtain⟨u,rfl,ru⟩:=rv.one
 obtain⟨z,its,n,r,hl,e⟩:=I.lstM hH
 refine P7 F.slot_list_append ⟨_,e,rfl⟩ F.entry_list_append (F.args_list_append_2 _ _) (PySem.list_append l its.toArray n u (by rw [MZ];lia)) ⟨e,?_⟩
 refine⟨.non,_,I.lset (its':=its++[u]) hH e (by simp) (r.append (.cons ru .nil)) ?_,rfl,q⟩
 rw [MW,ND]
 lia
def Jd:V->List V->Hp->VK->Prop:=λx vs H Q=>∃l xs y,x= .ref l/\vs= []/\H l=some (.lst xs)/\xs[xs.length-1]? =some y/\Q y (upd H l (.lst xs.dropLast))
theorem EA:MtM X "list.pop" Jd:=by
 intro Ti s σ H x vs v us Q I rx rv h
 obtain⟨l,xs,y,rfl,rfl,hH,hy,q⟩:=h
 cases rx
 have hus:=rv.zero
 subst hus
 obtain⟨z,its,n,r,hl,e⟩:=I.lstM hH
 obtain⟨u,hu,ru⟩:=r.get hy
 have hy':its.toArray[its.toArray.size-1]? =some u:=by
  show its.toArray[its.length-1]? =some u
  rw [<-Array.getElem?_toList,<-hl]
  exact hu
 refine P7 F.slot_list_pop ⟨_,e,rfl⟩ F.entry_list_pop (F.args_list_pop_1 _) (MeetsSeq.list_pop_last l its.toArray n u hy' (by rw [MZ];lia)) ⟨e,?_⟩
 refine⟨y,_,I.lset hH e ?_ r.dropLast ?_,ru,q⟩
 ·simp_all
 ·rw [List.length_dropLast]
  lia
def EB:V->List V->Hp->VK->Prop:=λx vs H Q=>∃l xs i k y,x= .ref l/\vs= [.int i]/\H l=some (.lst xs)/\ -(2^63)<=i/\i<2^63/\SL i xs.length=some k/\xs[k]? =some y/\Q y (upd H l (.lst (xs.eraseIdx k)))
theorem zT:MtM X "list.pop" EB:=by
 intro Ti s σ H x vs v us Q I rx rv h
 obtain⟨l,xs,i,k,y,rfl,rfl,hH,h1,h2,hk,hy,q⟩:=h
 cases rx
 obtain⟨u,rfl,ru⟩:=rv.one
 obtain⟨t,rfl⟩:=ru
 obtain⟨z,its,n,r,hl,e⟩:=I.lstM hH
 obtain⟨w,hw,rw'⟩:=r.get hy
 refine P7 F.slot_list_pop ⟨_,e,rfl⟩ F.entry_list_pop (F.args_list_pop_2 _ _)
  (MeetsSeq.list_pop_at l its.toArray n i t k w (Rc h1 h2) (by rw [MZ,<-hl];exact hk) (by rw [<-Array.getElem?_toList];lia)) ⟨e,?_⟩
 refine⟨y,_,I.lset hH e ?_ (r.eraseIdx k) ?_,rw',q⟩
 ·simp_all
 ·have:=pY xs k
  lia
def Je:R2:=λx y H Q=>∃l b xs zs,x= .ref l/\y= .ref b/\H l=some (.lst xs)/\H b=some (.lst zs)/\xs.length+zs.length<=ON/\∀p,H p=none->Q (.ref p) (upd H p (.lst (xs++zs)))
theorem EC:OpR X (PX .Add) Je:=by
 intro Ti s σ H x y v u Q I rx ry h
 obtain⟨l,b,xs,zs,rfl,rfl,hH,hB,hz,q⟩:=h
 cases rx
 cases ry
 obtain⟨z,its,n,r,hl,e⟩:=I.lstM hH
 obtain⟨z2,its2,n2,r2,hl2,e2⟩:=I.lstM hB
 refine PySem.P.add_list e e2 ?_ (by rw [MZ,MZ];lia)
 have ea:its.toArray++its2.toArray=(its++its2).toArray:=by simp
 rw [ea]
 exact⟨.ref _,_,I.lnew (r.append r2) (by rw [MW];lia),rfl,q _ I.fresh⟩
def Jf:R2:=λx y H Q=>∃l k xs,x= .ref l/\y= .int k/\H l=some (.lst xs)/\ -(2^63)<=k/\k<2^63/\xs.length*k.toNat<=ON/\
 ∀p,H p=none->Q (.ref p) (upd H p (.lst (Nd k.toNat xs).flatten))
theorem Cp{α:Type}(xs:List α)(k:Nat):(Nd k xs).flatten.length=k*xs.length:=by
 induction k with
 | zero=>simp
 | succ k ih=>rw [Nz,NH,MW,ih,Nat.succ_mul,OD]
theorem ED:OpR X (PX .Mult) Jf:=by
 intro Ti s σ H x y v u Q I rx ry h
 obtain⟨l,k,xs,rfl,rfl,hH,h1,h2,hz,q⟩:=h
 cases rx
 obtain⟨t,rfl⟩:=ry
 obtain⟨z,its,n,r,hl,e⟩:=I.lstM hH
 have JZ:its.toArray.size*k.toNat<=ON:=by rw [MZ,<-hl];exact hz
 have hcap:¬its.toArray.size*k.toNat>(2^63-1)/8:=by
  have:(ON:Nat)<=(2^63-1)/8:=by decide
  lia
 have hfit:¬(!OW.List.listFitsIndex k)=true:=by
  rw [Rc h1 h2]
  exact Bool.false_ne_true
 have hlong:¬OW.List.listTooLong (its.toArray.size*k.toNat)=true:=by
  rw [zS JZ]
  exact Bool.false_ne_true
 have hnew:List.foldl (λx1 x2=>x1++x2) #[] (Nd (if its.toArray.isEmpty=true then 0 else k.toNat) its.toArray)=(Nd k.toNat its).flatten.toArray:=by
  have f0:∀m:Nat,List.foldl (λx1 x2=>x1++x2) #[] (Nd m its.toArray)=(Nd m its).flatten.toArray:=λm=>by
   have:=pZ its m []
   rw [NO] at this
   exact this
  rw [f0]
  cases its with
  | nil=>simp
  | cons a r'=>rw [Tf (by simp)]
 refine wpAny_binaryOp_repeat_ref (T:="list") (U:="int") (by decide) ⟨_,e,rfl⟩ (λs'=>Se s' k t) noFill_list_mul F.fills_int_mul F.slot_int_rmul repeat_list F.slot_int_index.lookup
  (P7 F.slot_int_rmul (Se s k t) F.entry_int_rmul (F.args_int_rmul_2 _ _) (int___rmul___int_list k t l its.toArray n)
   ⟨e,rfl,⟨_,e,rfl⟩,P7 F.slot_list_mul ⟨_,e,rfl⟩ F.entry_list_mul (F.args_list_mul_2 _ _) (AutoListH.list___mul___list_int_3 l its.toArray n k t hfit hcap hlong) ⟨e,?_⟩⟩)
 rw [hnew]
 exact⟨.ref _,_,I.lnew (t':=s.toks) (r.rep k.toNat) (by rw [Cp,Nat.mul_comm];exact hz),rfl,q _ I.fresh⟩
end
section
variable{prog:OR}{w:OV}{A:OY}{E:OL->OO->Prop}{s:OO}
end
section
variable{X:Cx}
end
section
variable{κ:Type}[DecidableEq κ]
noncomputable def bL(kvs:List (κ×V))(k:κ):Option V:=(kvs.find? λkv=>decide (kv.1=k)).map (·.2)
noncomputable def cD(kvs:List (κ×V))(k:κ)(v:V):List (κ×V):=
 if (kvs.any λkv=>decide (kv.1=k))=true then kvs.map (λkv=>if kv.1=k then (kv.1,v) else kv) else kvs++[(k,v)]
noncomputable def iD(kvs:List (κ×V))(k:κ):List (κ×V):=kvs.filter λkv=>decide (kv.1≠k)
theorem gS{p:κ×V}(e:p.1=k):bL (p::r) k=some p.2:=by simp [bL,e]
theorem mv{p:κ×V}(e:¬p.1=k):bL (p::r) k=bL r k:=by simp [bL,e]
theorem rF(k:κ):∀kvs:List (κ×V),(kvs.any λkv=>decide (kv.1=k))=(bL kvs k).isSome
 | []=>rfl
 | p::r=>by
  rw [OB]
  by_cases e:p.1=k
  ·simp only [gS e,decide_eq_true e,Bool.true_or,Option.isSome_some]
  ·rw [mv e,decide_eq_false e];exact rF k r
theorem iV(kvs:List (κ×V))(k:κ)(v:V):(cD kvs k v).length<=kvs.length+1:=by
 unfold cD
 split
 ·grind
 ·simp_all
theorem RelO.isSome_eq(r:RelO o u):o.isSome=u.isSome:=by
 cases o with
 | none=>cases u with
  | none=>rfl
  | some _=>exact(r).elim
 | some _=>cases u with
  | none=>exact(r).elim
  | some _=>rfl
theorem RelO.getD(r:RelO o u)(rd:RelV d d'):RelV (o.getD d) (u.getD d'):=by
 cases o with
 | none=>cases u with
  | none=>exact rd
  | some _=>exact(r).elim
 | some _=>cases u with
  | none=>exact(r).elim
  | some _=>exact r
theorem KV.val(r:KV kvs vs)(k:κ):RelO (bL kvs k) (RQ vs k):=by
 induction r with
 | nil=>exact True.intro
 | @cons p q ps qs h t ih=>
  obtain⟨h1,h2⟩:=h
  by_cases e:p.1=k
  ·have e':=h1.symm.trans e
   have b:RQ (q::qs) k=some q.2:=by simp [RQ,e']
   rw [gS e,b];exact h2
  ·have e':¬q.1=k:=λz=>e (h1.trans z)
   have b:RQ (q::qs) k=RQ qs k:=by simp [RQ,e']
   rw [mv e,b];exact ih
theorem KV.any(r:KV kvs vs)(k:κ):(kvs.any λkv=>decide (kv.1=k))=vs.any λkv=>decide (kv.1=k):=by
 induction r with
 | nil=>rfl
 | cons h t ih=>simp_all
theorem KV.repl(r:KV kvs vs)(k:κ)(ry:RelV y u):
 KV (kvs.map λkv=>if kv.1=k then (kv.1,y) else kv) (vs.map λkv=>if kv.1=k then (kv.1,u) else kv):=by
 induction r with
 | nil=>exact .nil
 | @cons p q ps qs h t ih=>
  rw [Ng,Ng]
  refine .cons ?_ ih
  obtain⟨h1,h2⟩:=h
  by_cases e:p.1=k
  ·rw [Th e,Th (h1.symm.trans e)];exact⟨h1,ry⟩
  ·rw [Tf e,Tf (λz=>e (h1.trans z))];exact⟨h1,h2⟩
theorem KV.put(r:KV kvs vs)(k:κ)(ry:RelV y u):KV (cD kvs k y) (stored vs k u):=by
 unfold cD stored
 rw [r.any k]
 by_cases e:(vs.any λkv=>decide (kv.1=k))=true
 ·rw [Th e,Th e];exact r.repl k ry
 ·rw [Tf e,Tf e];exact Qo.snoc r ⟨rfl,ry⟩
theorem KV.drop(r:KV kvs vs)(k:κ):KV (iD kvs k) (without vs k):=by
 unfold iD without
 induction r with
 | nil=>exact .nil
 | @cons p q ps qs h t ih=>
  obtain⟨h1,h2⟩:=h
  rw [List.filter_cons,List.filter_cons]
  by_cases e:p.1=k
  ·have a:¬decide (p.1≠k)=true:=by simp [e]
   have b:¬decide (q.1≠k)=true:=by simp [h1.symm.trans e]
   rw [Tf a,Tf b];exact ih
  ·have e':¬q.1=k:=λz=>e (h1.trans z)
   have a:decide (p.1≠k)=true:=by simp [e]
   have b:decide (q.1≠k)=true:=by simp [e']
   rw [Th a,Th b];exact .cons ⟨h1,h2⟩ ih
theorem KV.keys{kvs:List (κ×V)}(r:KV kvs vs):kvs.map (·.1)=vs.map (·.1):=by
 induction r with
 | nil=>rfl
 | cons h t ih=>simp_all
theorem KV.length{kvs:List (κ×V)}(r:KV kvs vs):kvs.length=vs.length:=Qo.length r
theorem zU(kvs:List (κ×V))(k:κ):(iD kvs k).length<=kvs.length:=List.length_filter_le _ _
end
theorem iE(r:RelV (kV k) u):(aN P w).is k u=true:=by
 cases k with
 | inl i=>obtain⟨t,e⟩:=(r);subst e;exact tY P w i t
 | inr x=>obtain⟨t,e⟩:=(r);subst e;exact tZ P w x t
theorem qb:∀{ks:List Key} {us:List OL},Vals (ks.map kV) us->ItemsAre (aN P w) ks us
 | [],_,r=>by rw [N0] at r;cases r;exact .nil
 | k::ks,_,r=>by
  cases r with
  | cons h t=>exact .cons (iE h) (qb t)
abbrev KT(H:Hp):List (List Key×V)->List (List Key×Addr×OL)->Prop:=Qo λp q=>p.1=q.1/\H q.2.1=some (.tup (p.1.map kV))/\RelV p.2 q.2.2
theorem KT.val(r:KT H kvs xs)(k:List Key):RelO (bL kvs k) ((SM xs k).map (·.2)):=by
 induction r with
 | nil=>exact True.intro
 | @cons p q ps qs h t ih=>
  obtain⟨h1,_,h2⟩:=h
  by_cases e:p.1=k
  ·have e':=h1.symm.trans e
   have b:SM (q::qs) k=some q.2:=by simp [SM,e']
   rw [gS e,b];exact h2
  ·have e':¬q.1=k:=λz=>e (h1.trans z)
   have b:SM (q::qs) k=SM qs k:=by simp [SM,e']
   rw [mv e,b];exact ih
theorem KT.repl(r:KT H kvs xs)(k:List Key)(ry:RelV y u):
 KT H (kvs.map λkv=>if kv.1=k then (kv.1,y) else kv) (xs.map (putAt k u)):=by
 induction r with
 | nil=>exact .nil
 | @cons p q ps qs h t ih=>
  rw [Ng]
  refine .cons ?_ ih
  obtain⟨h1,h2,h3⟩:=h
  unfold putAt
  by_cases e:p.1=k
  ·rw [Th e,Th (h1.symm.trans e)];exact⟨h1,h2,ry⟩
  ·rw [Tf e,Tf (λz=>e (h1.trans z))];exact⟨h1,h2,h3⟩
theorem KT.put(r:KT H kvs xs)(k:List Key)(hb:H b=some (.tup (k.map kV)))(ry:RelV y u):
 KT H (cD kvs k y) (storedH xs k b u):=by
 have e:(kvs.any λkv=>decide (kv.1=k))=(SM xs k).isSome:=by
  rw [rF,(r.val k).isSome_eq,Ox]
 unfold cD storedH
 rw [e]
 by_cases q:(SM xs k).isSome=true
 ·rw [Th q,Th q];exact r.repl k ry
 ·rw [Tf q,Tf q];exact Qo.snoc r ⟨rfl,hb,ry⟩
theorem KT.keeps(r:KT H kvs xs)(ht:∀b ys,H b=some (.tup ys)->H' b=some (.tup ys)):KT H' kvs xs:=
 Qo.mapP r λ_ _ z=>⟨z.1,ht _ _ z.2.1,z.2.2⟩
section
variable{P:OR}{w:OV}{H:Hp}{h:Heap}{a:Addr}
theorem BF(ok:HOk P w H h)(e:Rd H a u):ObjOk P w H h a u:=e.ok ok
theorem lc(ok:HOk P w H h)(e:Rd H a (.dK kvs)):kvs.length<=ON/\(a==Pi)=false/\∃vs,KV kvs vs/\h.DictOf (aN P w) a vs:=
 show ObjOk P w H h a (.dK kvs) from BF ok e
theorem eV(ok:HOk P w H h)(e:H a=some (.dK kvs)):kvs.length<=ON/\(a==Pi)=false/\∃vs,KV kvs vs/\h.DictOf (aN P w) a vs:=lc ok (.inl e)
theorem kh(ok:HOk P w H h)(e:H a=some (.tup (ks.map kV))):(QR (aN P w)).is h ks a:=by
 obtain⟨_,its,r,o,h1,h2,n,h3⟩:=(ok a _ e)
 exact⟨o,its.toArray,n,h1,h2,h3,by simpa using qb r⟩
theorem li(ok:HOk P w H h)(e:Rd H a (.dT kvs)):kvs.length<=ON/\(a==Pi)=false/\
 ∃xs,KT H kvs xs/\h.DictOfH (QR (aN P w)) a xs:=by
 obtain⟨z,y,xs,r,o,es,ep,h1,h2,h3,h4,h5⟩:=(BF ok e)
 refine⟨z,y,xs,r,o,es,ep,h1,h2,h3,h4,λx hx=>?_,h5⟩
 have all:∀{l:List (List Key×V)} {m:List (List Key×Addr×OL)},KT H l m->∀x∈m,(QR (aN P w)).is h x.1 x.2.1:=by
  intro l m q
  induction q with
  | nil=>simp_all
  | @cons p q ps qs hq t ih=>
   intro x hx
   rcases List.mem_cons.mp hx with e | hx
   ·subst e
    exact kh ok (by rw [<-hq.1];exact hq.2.1)
   ·exact ih x hx
 exact all r x hx
theorem Hy(ok:HOk P w H h)(e:H a=some (.dT kvs)):kvs.length<=ON/\(a==Pi)=false/\
 ∃xs,KT H kvs xs/\h.DictOfH (QR (aN P w)) a xs:=li ok (.inl e)
end
def DGet(H:Hp)(a:Addr)(y:V)(r:Option V):Prop:=
 (∃kvs k,Rd H a (.dK kvs)/\y=kV k/\r=bL kvs k)\/∃kvs k b,Rd H a (.dT kvs)/\y= .ref b/\H b=some (.tup (k.map kV))/\r=bL kvs k
def DPut(H:Hp)(a:Addr)(y v:V)(H':Hp):Prop:=
 (∃kvs k,H a=some (.dK kvs)/\y=kV k/\kvs.length<ON/\H'=upd H a (.dK (cD kvs k v)))\/
 ∃kvs k b,H a=some (.dT kvs)/\y= .ref b/\H b=some (.tup (k.map kV))/\kvs.length<ON/\H'=upd H a (.dT (cD kvs k v))
theorem DGet.k{k:Key}(e:H a=some (.dK kvs)):DGet H a (kV k) (bL kvs k):=.inl ⟨kvs,k,.inl e,rfl,rfl⟩
theorem DPut.k{k:Key}(e:H a=some (.dK kvs))(hl:kvs.length<ON):DPut H a (kV k) v (upd H a (.dK (cD kvs k v))):=.inl ⟨kvs,k,e,rfl,hl,rfl⟩
section
variable{X:Cx}{Ti:List (Addr×Obj)}{σ:St}{H:Hp}{s:OO}{a:Addr}{y v:V}{u r:OL}{o:Option V}{A:OY}{E:OL->OO->Prop}
theorem Inv.big(I:Inv X Ti σ H s):Pi<s.heap.objs.size:=by
 have h:=(I.mod.glob.keeps I.bk).lt
 exact OA (by decide) h
theorem xE(hu:A.units+1<Ra)(I:Inv X Ti σ H s)(g:DGet H a y (some v))(ry:RelV y u)(h:∀w' s',Inv X Ti σ H s'->RelV v w'->Q w' s'):
 OT (model X.prog X.w) A (Ri (.ref a) u) Q E s:=by
 rcases g with ⟨kvs,k,e,ey,l⟩ | ⟨kvs,k,b,e,ey,eb,l⟩
 ·subst ey
  obtain⟨z,hd,vs,rel,dd⟩:=lc I.hok e
  obtain⟨w',hw,rw'⟩:=RelO.some_of (by rw [l];exact rel.val k)
  exact wpAny_getItem_of (iE ry) dd.mapOf hw (h w' _ (I.tok _) rw')
 ·subst ey
  cases (ry)
  obtain⟨z,hd,xs,rel,dd⟩:=li I.hok e
  obtain⟨w',hw,rw'⟩:=RelO.some_of (o:=(SM xs k).map (·.2)) (by rw [l];exact rel.val k)
  obtain⟨p,hp,hp2⟩:=Option.map_eq_some_iff.mp hw
  apply wpAny_getItem_heap (P2 hu) (kh I.hok eb) dd hp
  rw [hp2]
  exact h w' _ (I.tok _) rw'
theorem Jg(hu:A.units+1<Ra)(I:Inv X Ti σ H s)(g:DGet H a y o)(ry:RelV y u)(h:∀s',Inv X Ti σ H s'->Q (.bool o.isSome) s'):
 OT (model X.prog X.w) A (Pc .In u (.ref a)) Q E s:=by
 rcases g with ⟨kvs,k,e,ey,l⟩ | ⟨kvs,k,b,e,ey,eb,l⟩
 ·subst ey
  obtain⟨z,hd,vs,rel,dd⟩:=lc I.hok e
  apply wpAny_in_of (iE ry) hd dd.mapOf
  rw [<-(rel.val k).isSome_eq,<-l]
  exact h _ (I.tok _)
 ·subst ey
  cases (ry)
  obtain⟨z,hd,xs,rel,dd⟩:=li I.hok e
  apply wpAny_in_heap (P2 hu) (kh I.hok eb) hd dd
  have q:=(rel.val k).isSome_eq
  rw [Ox] at q
  rw [<-q,<-l]
  exact h _ (I.tok _)
theorem oZ(I:Inv X Ti σ H s)(mu:Mut (H a))(hs:Heap.SameBut a s.heap h')(he:∃q,h'.get? a=some q)(new:ObjOk X.prog X.w (upd H a ob) h' a ob):
 Inv X Ti σ (upd H a ob) {s with heap:=h',toks:=t'}:=
 I.write mu (.inl rfl) (λb q hb z=>(hs.2 b hb).trans z) he new
theorem xF(z:kvs.length<=ON)(hd:(a==Pi)=false)(rel:KV kvs vs)(dd:h'.DictOf (aN P w) a vs):
 ObjOk P w H' h' a (.dK kvs):=⟨z,hd,vs,rel,dd⟩
theorem xG(hu:A.units+1<Ra)(I:Inv X Ti σ H s)(g:DPut H a y v H')(ry:RelV y u)(rv:RelV v r)(h:∀s',Inv X Ti σ H' s'->Q () s'):
 OT (model X.prog X.w) A (setItem (.ref a) u r) Q E s:=by
 rcases g with ⟨kvs,k,e,ey,l,eH⟩ | ⟨kvs,k,b,e,ey,eb,l,eH⟩
 ·subst ey eH
  obtain⟨z,hd,vs,rel,dd⟩:=eV I.hok e
  have hz:vs.length<=ON:=by rw [<-rel.length];exact z
  have hl:(cD kvs k v).length<=ON:=by have:=iV kvs k v;lia
  refine wpAny_setItem_pairs (iE ry) dd λh' dd' hs=>h _ ?_
  have he:∃q,h'.get? a=some q:=let ⟨q,_,_,hq,_⟩:=dd';⟨q,hq⟩
  exact oZ I (by rw [e];exact True.intro) hs he (xF hl hd (rel.put k rv) dd')
 ·subst ey eH
  cases (ry)
  obtain⟨z,hd,xs,rel,dd⟩:=Hy I.hok e
  have hz:xs.length<=ON:=by rw [<-Qo.length rel];exact z
  have hl:(cD kvs k v).length<=ON:=by have:=iV kvs k v;lia
  refine wpAny_setItem_heap (P2 hu) (kh I.hok eb) dd λh' dd' hs=>h _ ?_
  obtain⟨q,es,ep,hq,h2,h3,h4,_,h5⟩:=dd'
  refine oZ I (by rw [e];exact True.intro) hs ⟨q,hq⟩ ⟨hl,hd,_,(rel.put k eb rv).keeps λc ys ec=>?_,q,es,ep,hq,h2,h3,h4,h5⟩
  rw [aI (Hr ec e (λz=>nomatch z))]
  exact ec
end
section
variable{X:Cx}{Ti:List (Addr×Obj)}{σ:St}{H:Hp}{s:OO}{a:Addr}{kvs:List (Key×V)}{k:Key}{u:OL}{A:OY}{E:OL->OO->Prop}
theorem Hz(I:Inv X Ti σ H s)(e:H a=some (.dK kvs))(ry:RelV (kV k) u)(l:bL kvs k=some v)(hm:more= []\/∃x,more= [x])
 (h:∀w' s',Inv X Ti σ (upd H a (.dK (iD kvs k))) s'->RelV v w'->Q w' s'):OT (model X.prog X.w) A (call (.builtin "dict.pop") (.ref a::u::more)) Q E s:=by
 obtain⟨z,hd,vs,rel,dd⟩:=eV I.hok e
 obtain⟨w',hw,rw'⟩:=RelO.some_of (by rw [<-l];exact rel.val k)
 have hp:(keyPart u).isSome=true:=by
  cases k with
  | inl i=>obtain⟨t,q⟩:=(ry);subst q;rfl
  | inr x=>obtain⟨t,q⟩:=(ry);subst q;rfl
 have ha:argsOk "dict.pop" ⟨.ref a::u::more,[]⟩:=by
  rcases hm with q | ⟨x,q⟩
  ·subst q;exact PySem.F.args_dict_pop_2 _ _
  ·subst q;exact PySem.F.args_dict_pop_3 _ _ _
 refine PY Q6 dd.typeIs PySem.F.entry_dict_pop ha (meets_dict_pop_there (aN X.prog X.w) a (iE ry) more hm hp)
  ⟨vs,w',dd,by rw [<-rel.length];exact z,hw,λh' dd' hs=>h w' _ ?_ rw'⟩
 have he:∃q,h'.get? a=some q:=let ⟨q,_,_,hq,_⟩:=dd';⟨q,hq⟩
 exact oZ I (by rw [e];exact True.intro) hs he (xF (Nat.le_trans (zU kvs k) z) hd (rel.drop k) dd')
end
def EE(i:Expr):Prop:=∀ov iv,subscripted i false ov iv=operate [ov,iv] (Ri ov iv)
theorem Cq {id : String}
    (hl : Qi (.type T) "__getitem__" = pure (some (.builtin id))) (hs : EE slice)
    (h : OT (model prog w) A (eval value env) (fun o s₁ => OT (model prog w) A (eval slice env) (fun i s₂ => s₂.TypeIs o T ∧ OT (model prog w) A (Ri o i) Q E s₂) E s₁) E s) :
    OT (model prog w) A (eval (.Subscript value slice pos) env) Q E s := by
  refine Sd (O6 h (fun o s₁ h₁ => O6 h₁ (fun i s₂ h₂ => ?_) fun _ _ x => x) fun _ _ x => x)
  obtain ⟨hT, h₂⟩ := h₂
  apply OK
  refine OK (wpAny_specialOf hT hl ?_)
  have fin : OT (model prog w) A (subscripted slice false o i) (fun r s₃ => OT (model prog w) A (letTemporaryGo value o r >>= fun _ => pure r) Q E s₃) E s₂ := by
    rw [hs o i]
    exact wpAny_operating (O6 h₂ (fun r s₃ h₃ => OK (wpAny_letTemporaryGo (OM h₃))) fun _ _ x => x)
  first
    | exact OM (OK fin)
    | exact OK (OM (OK fin))
    | exact OK fin
theorem t0{σ:St}(I:Inv X Ti σ H s)(g:DGet H a y o):s.TypeIs (.ref a) "dict":=by
 rcases g with ⟨kvs,k,e,_⟩ | ⟨kvs,k,b,e,_⟩
 ·obtain⟨_,_,vs,_,dd⟩:=lc I.hok e
  exact dd.typeIs
 ·obtain⟨_,_,xs,_,dd⟩:=li I.hok e
  exact dd.typeIs
section
variable{X:Cx}{o i e value:Expr}{pos pos' tpos:Pos}{td ty tv:TE}
end
theorem zV(h:Heap)(hb:Pi<h.objs.size):ObjOk P w H (h.push {cls:=.type "dict",data:=.dict #[]}) h.objs.size (.dK []):=
 ⟨Nk _,beq_eq_false_iff_ne.mpr (Ne.symm (Nf hb)),[],.nil,Heap.DictOf.new h⟩
def xH:TE:=λ_ H Q=>∀p,H p=none->Q (.ref p) (upd H p (.dK []))
section
variable{X:Cx}{pos:Pos}
theorem zW:PE X (.Dict [] [] pos) xH:=λTi s σ H Q I h=>
 wpAny_Dict_empty ⟨.ref s.heap.objs.size,_,I.laid (o:=.dK []) (λ_ _ q=>MO _ q) (Nat.le_refl _) (zV s.heap I.big),rfl,h _ (I.hok.fresh (Nat.le_refl _))⟩
end
def xI:List (TE×TE)->St->Hp->(List (V×V)->Hp->Prop)->Prop
 | [],_,H,Q=>Q [] H
 | (tk,tv)::r,σ,H,Q=>tk σ H λx H1=>tv σ H1 λy H2=>xI r σ H2 λps H3=>Q ((x,y)::ps) H3
structure M1(X:Cx)(o:Expr)(m:Str)(apos:Pos)(e:Expr)(cpos:Pos):Prop where
 base:Pe o m X.env (eval o X.env)=eval o X.env
 few:((PP cpos (OU [e] X.env)).all (λx=>!x.1)&&(P0 cpos (Ps [] X.env)).all (λx=>x.1.isSome)
  && decide (([e]:List Expr).length+([]:List Qq).length+(if ([]:List Qq).isEmpty then 0 else 1)<30))=true
 line:(apos.endLine==cpos.line)=true
 trees:PP cpos (OU [e] X.env)= [(false,eval e X.env)]
structure M2(X:Cx)(o:Expr)(m:Str)(apos:Pos)(e f:Expr)(cpos:Pos):Prop where
 base:Pe o m X.env (eval o X.env)=eval o X.env
 few:((PP cpos (OU [e,f] X.env)).all (λx=>!x.1)&&(P0 cpos (Ps [] X.env)).all (λx=>x.1.isSome)
  && decide (([e,f]:List Expr).length+([]:List Qq).length+(if ([]:List Qq).isEmpty then 0 else 1)<30))=true
 line:(apos.endLine==cpos.line)=true
 trees:PP cpos (OU [e,f] X.env)= [(false,eval e X.env),(false,eval f X.env)]
def IsD(H:Hp)(a:Addr):Prop:=(∃kvs,Rd H a (.dK kvs))\/∃kvs,Rd H a (.dT kvs)
theorem xJ{σ:St}(I:Inv X Ti σ H s)(d:IsD H a):
 s.TypeIs (.ref a) "dict"/\(∀b,OL.ref a= .ref b->∃ob,s.heap.get? b=some ob/\ob.dict=none)/\(a==Pi)=false:=by
 rcases d with ⟨kvs,e⟩ | ⟨kvs,e⟩
 ·obtain⟨_,hd,vs,_,dd⟩:=lc I.hok e
  refine⟨dd.typeIs,λb q=>?_,hd⟩
  cases q
  obtain⟨ob,_,_,h1,h2,_⟩:=dd
  exact⟨ob,h1,h2.2.1⟩
 ·obtain⟨_,hd,xs,_,dd⟩:=li I.hok e
  refine⟨dd.typeIs,λb q=>?_,hd⟩
  cases q
  obtain⟨ob,_,_,h1,h2,_⟩:=dd
  exact⟨ob,h1,h2.2.1⟩
section
variable{X:Cx}{Ti:List (Addr×Obj)}{σ:St}{H:Hp}{s:OO}{a:Addr}{y d:V}{u r:OL}{o:Option V}{A:OY}{E:OL->OO->Prop}
theorem EF(hu:A.units+1<Ra)(I:Inv X Ti σ H s)(g:DGet H a y o)(ry:RelV y u)(rd:RelV d r)(h:∀w' s',Inv X Ti σ H s'->RelV (o.getD d) w'->Q w' s'):
 OT (model X.prog X.w) A (call (.builtin "dict.get") [.ref a,u,r]) Q E s:=by
 rcases g with ⟨kvs,k,e,ey,l⟩ | ⟨kvs,k,b,e,ey,eb,l⟩
 ·subst ey
  obtain⟨z,hd,vs,rel,dd⟩:=lc I.hok e
  refine PY Qc dd.typeIs QP (QL _ _ _) (meets_dict_get_default (aN X.prog X.w) a (iE ry) hd r) ⟨_,dd.mapOf,h _ _ (I.tok _) ?_⟩
  rw [l]
  exact(rel.val k).getD rd
 ·subst ey
  cases (ry)
  obtain⟨z,hd,xs,rel,dd⟩:=li I.hok e
  refine PY Qc dd.typeIs QP (QL _ _ _) (meetsH_dict_get_default (QR (aN X.prog X.w)) a b hd r) ⟨P2 hu,k,xs,kh I.hok eb,dd,h _ _ (I.tok _) ?_⟩
  rw [l]
  exact(rel.val k).getD rd
end
def EG(td ty tx:TE):TE:=λσ H Q=>td σ H λx H1=>∃a,x= .ref a/\IsD H1 a/\ty σ H1 λy H2=>tx σ H2 λz H3=>∃o,DGet H3 a y o/\Q (o.getD z) H3
def EH(td ty:TE):TE:=λσ H Q=>td σ H λx H1=>∃a,x= .ref a/\IsD H1 a/\ty σ H1 λy H2=>∃kvs k v,H2 a=some (.dK kvs)/\y=kV k/\bL kvs k=some v/\Q v (upd H2 a (.dK (iD kvs k)))
section
variable{X:Cx}{o e f:Expr}{apos cpos:Pos}{td ty tx:TE}
theorem zX(hu:X.A.units+1<Ra)(ho:PE X o td)(he:PE X e ty)(hf:PE X f tx)(m:M2 X o "get" apos e f cpos):PE X (.Call (.Attribute o "get" apos) [e,f] [] cpos) (EG td ty tx):=by
 intro Ti s σ H Q I h
 refine wpAny_Call_method m.base m.few m.line Pg Qc PySem.F.type_dict_get (thn (ho Ti s σ H _ I h) λu s1 w=>?_)
 obtain⟨x,H1,I1,rx,a,ex,d,q1⟩:=w
 subst ex
 obtain rfl:u=OL.ref a:=rx
 obtain⟨t1,t2,_⟩:=xJ I1 d
 refine⟨t1,t2,?_⟩
 rw [m.trees]
 refine Calls.callWith_builtin rfl (Calls.evalArgs_plain (Calls.spliced_cons (thn (he Ti s1 σ H1 _ I1 q1) λiv s2 ⟨y,H2,I2,ry,q2⟩=>
  Calls.spliced_cons (thn (hf Ti s2 σ H2 _ I2 q2) λfv s3 ⟨z,H3,I3,rz,ov,g,q3⟩=>Calls.spliced_nil ?_))))
 exact EF hu I3 g ry rz λw' s4 I4 rw'=>⟨_,H3,I4,rw',q3⟩
theorem zY(ho:PE X o td)(he:PE X e ty)(m:M1 X o "pop" apos e cpos):PE X (.Call (.Attribute o "pop" apos) [e] [] cpos) (EH td ty):=by
 intro Ti s σ H Q I h
 refine wpAny_Call_method m.base m.few m.line Pg Q6 PySem.F.type_dict_pop (thn (ho Ti s σ H _ I h) λu s1 z=>?_)
 obtain⟨x,H1,I1,rx,a,ex,d,q1⟩:=z
 subst ex
 obtain rfl:u=OL.ref a:=rx
 obtain⟨t1,t2,_⟩:=xJ I1 d
 refine⟨t1,t2,?_⟩
 rw [m.trees]
 refine Calls.callWith_builtin rfl (Calls.evalArgs_plain (Calls.spliced_cons (thn (he Ti s1 σ H1 _ I1 q1) λiv s2 ⟨y,H2,I2,ry,kvs,k,v,ea,ey,l,q2⟩=>Calls.spliced_nil ?_)))
 subst ey
 exact Hz I2 ea ry l (.inl rfl) λw' s3 I3 rw'=>⟨v,_,I3,rw',q2⟩
end
section
variable{X:Cx}{Ti:List (Addr×Obj)}{σ:St}{H:Hp}{s:OO}{a:Addr}{kvs:List (Key×V)}{A:OY}{E:OL->OO->Prop}
end
section
variable{X:Cx}{Ti:List (Addr×Obj)}{σ:St}{H:Hp}{s:OO}{a:Addr}{y:V}{u:OL}{A:OY}{E:OL->OO->Prop}
end
end _L
namespace _A
open PySem PySem.W PySem.Calls PyProof.Rows
theorem nQ:∀(ns:List Int) (vs:List OL),WellAll P h vs (ns.map WData.int)->PF vs ns:=by
 intro ns
 induction ns with
 | nil=>
  intro vs w
  cases w
  exact .nil
 | cons n ns ih=>
  intro vs w
  cases w with
  | cons a b=>
   cases a
   exact .cons _ _ (ih _ b)
theorem xK{l:SA}(hn:l.most=some n)
 (hpre:l.row.toRowW.claim.pre args=true) (hwl:WellAll P h vals args):
 ∃a vs ns,vals= [OL.ref a]/\args= [WData.list (ns.map WData.int)]/\h.get? a=some {cls:=.type "list",data:=.seq vs.toArray}/\PF vs ns/\ns.length<=n:=by
 have hsh:WShape.hasAll [] args [.list .int]=true:=(pre_splitW hpre).1
 have hc:l.pre.holds [] {args:=args}=true:=(pre_splitW hpre).2
 obtain⟨d,r,rfl,h1,h2⟩:=hasAllW_cons hsh
 obtain rfl:=hasAllW_nil h2
 obtain⟨xs,rfl,h3⟩:=hasW_list h1
 obtain⟨ns,rfl⟩:=items_int h3
 have JZ:ns.length<=n:=by
  have h4:(WTm.not (.lt (.lit (.int (n:Int))) (.len (.arg 0)))).holds [] {args:=[.list (ns.map .int)]}=true:=by
   have h4:=(holds_andW hc).1
   rw [hn] at h4
   exact h4
  have h5:=condW_of h4 (w_not (w_lt w_lit (w_len_list (w_arg rfl))))
  refine Nat.le_of_not_lt λq=>?_
  first
   | (rw [decide_eq_true q'] at h5;exact absurd h5 (by decide))
   | (simp at h5;lia)
 cases hwl with
 | cons w1 w2=>
  cases w2
  cases w1 with
  | list ho hall=>exact⟨_,_,ns,rfl,rfl,ho,nQ ns _ hall,JZ⟩
theorem xL(l:SA)(args:List WData):l.row.toRowW.claim.post args (.bool true) args=true:=
 postW_of (X:=(true==true))
  (show WShape.has [] (.bool true) .bool=true by first | rfl | decide | simp [WShape.has])
  (w_eq_bool (w_res rfl) w_lit) rfl
theorem t7{l:SA}
 (hn:l.most=some n) (hdf:d.params.defaults= [])
 (call:∀(w:OV) (s₀ s₁:OO) (mg mb:Str->Option OL) (fa:Addr) (o:Obj) (pm cd doc:OL) (a:Addr) (vs:List OL) (ns:List Int),
  Ground q loose [] XP w s₀ mg mb s₁.heap->YP w s₁.heap->
  s₁.heap.get? fa=some o->o.data= .func (docDef d.name d.params d.body d.scope pm cd doc)->s₁.heap.CodeRec cd d.name->mg d.name=some (.ref fa)->
  s₁.heap.get? a=some {cls:=.type "list",data:=.seq vs.toArray}->PF vs ns->ns.length<=n->s₁.gens= #[]->
  QG (model l.prog w) Rz (.call (.ref fa) ⟨[.ref a],[]⟩) (λr s'=>r= .ok (.ret (.bool true))/\OldK s₁.heap s'.heap/\s'.os=s₁.os/\QS s'.gens) s₁):
 WalkO q loose XP YP l.row.toRowW d [] (λf vs=>Sy f vs):=by
 intro w s₀ s₁ mg mb G Y fa o pm cd doc dV kV ho hd hcd hD hmg hg args vals as hpre hlay hrd hwl hlo
 obtain rfl:dV= .none:=Dflts.none hD hdf
 obtain rfl:kV= .none:=Dflts.noKw hD
 obtain⟨a,vs,ns,rfl,rfl,hobj,hints,JZ⟩:=xK hn hpre hwl
 refine enter_call (QV (call w s₀ s₁ mg mb fa o pm cd doc a vs ns G Y ho (fd_plain hd) hcd hmg hobj hints JZ hg) λr s' hq=>?_)
 obtain⟨rfl,h2,h3,h4⟩:=hq
 exact⟨.inl ⟨.bool true,.bool true,[],rfl,λ_=>rfl,.bool true,xL l _,λ_=>⟨List.Pairwise.nil,λ_ hm=>(nomatch hm)⟩⟩,h2,h3,h4⟩
section
variable{prog:OR}{w:OV}{A:OY}{E:OL->OO->Prop}{s:OO}{K:Frag}
end
end _A
namespace _L
open PySem PySem.Spec PyProof.Rows
theorem xM:∀{vs:List OL} {ns:List Int},PF vs ns->Vals (ns.map V.int) vs:=by
 intro x0 x1 zq
 induction zq with
 | nil=>exact .nil
 | cons n t h ih=>exact .cons ⟨t,rfl⟩ ih
def zZ(H:Hp):Prop:=∀b,H b=none\/∃o xs,H b=some (.frz o (.lst xs))
theorem z9{K:N5}
 (KX:K.In s₁.heap) (hns:s₁.heap.Ns OX mg) (hb:s₁.heap.Ns Rx mb) (hbb:∀x:Str,x≠"__name__"->mb x=Pa x) (hlim:s₁.heap.NoLimit) (hg:s₁.gens= #[])
 (ha:s₁.heap.get? a=some {cls:=.type "list",data:=.seq vs.toArray}) (hi:PF vs ns) (hl:ns.length<=ON) (hr:Room k Rz)
 (F:∀base:Heap,K.In base->base.Ns OX mg->eu P w K mg base CX k fa fd [x] sp) (hbind:∀(s:OO) (u:OL),Ry s fd ⟨[u],[]⟩ [(x,u)])
 (hsp:∀H:Hp,zZ H->SqL K H a (ns.map V.int)->sp [.ref a] H (λv _=>v= .bl true) λ_ _ _=>False)
 (hCX:∀H e s',CX [] H s₁ (λ_ _ _=>False) e s'->False):
 QG (model P w) Rz (.call (.ref fa) ⟨[.ref a],[]⟩) (λr s'=>r= .ok (.ret (.bool true))/\OldK s₁.heap s'.heap/\s'.os=s₁.os/\QS s'.gens) s₁:=by
 have rv:=xM hi
 have lenV:=hi.length
 -- from an abstract heap in which nothing but the script may be tracked
 have core:∀H:Hp,zZ H->SqL K H a (ns.map V.int)->HOk P w H s₁.heap->(∀b,H b≠none->b=a)->(H a≠none->K.lookup a=none)->
  QG (model P w) Rz (.call (.ref fa) ⟨[.ref a],[]⟩) (λr s'=>r= .ok (.ret (.bool true))/\OldK s₁.heap s'.heap/\s'.os=s₁.os/\QS s'.gens) s₁:=by
  intro H hO hS hok hA hK
  have base_of:∀{b:Addr} {o:Obj},s₁.heap.get? b=some o->H b=none->(j4 s₁.heap H).get? b=some o:=λe n=>zC e n
  have noA:∀{b:Addr} {o:Obj} {es:Array QU} {ep:Nat},s₁.heap.get? b=some o->o.data= .dict es ep->H b=none:=λ{b o es ep} e d=>by
   cases q:H b with
   | none=>rfl
   | some u=>
    have e':=hA b (by rw [q];simp)
    subst e'
    rw [ha] at e;cases e
    have d':=d
    cases d'
  have nsK:∀{b:Addr} {m:Str->Option OL},s₁.heap.Ns b m->(j4 s₁.heap H).Ns b m:=λ{b m} y=>by obtain⟨o,es,ep,e,d,r⟩:=y;exact⟨o,es,ep,base_of e (noA e d),d,r⟩
  have hKb:=λb o e=>base_of (KX b o e) (by
   cases q:H b with
   | none=>rfl
   | some u=>
    have e':=hA b (by rw [q];simp)
    subst e'
    rw [hK (by rw [q];simp)] at e;cases e)
  have hM:Mod K mg (j4 s₁.heap H):=⟨hKb,nsK hns,⟨mb,nsK hb,hbb⟩,let ⟨mc,h1,h2⟩:=hlim;⟨mc,nsK h1,h2⟩⟩
  have e0:Env0 P w K mg (j4 s₁.heap H) Rz [] s₁ H:=⟨rfl,hM,λb o e=>Cb e,NJ (xn _ _),trivial,λb hb=>absurd (show b∈([]:List Addr) from hb) (by simp),hok,.of_eq hg⟩
  refine QV ((F _ hKb (nsK hns)).run Rz [] s₁ H ⟨[.ref a],[]⟩ [.ref a] [.ref a] _ _ hr e0 (hbind s₁ (.ref a)) (.cons rfl .nil) (hsp H hO hS)) λr s' h=>?_
  cases r with
  | error e=>exact(hCX H e s' h).elim
  | ok fl=>
   cases fl with
   | next=>exact False.elim h
   | brk=>exact False.elim h
   | cont=>exact False.elim h
   | ret u=>
    obtain⟨v,H',os,bare,un,hok',r',q⟩:=h
    have q':=q
    subst q'
    obtain rfl:u=OL.bool true:=r'
    refine⟨rfl,OldK.of_keep λb o e=>?_,os,bare⟩
    cases q:H b with
    | none=>exact un.keep b o e q (by intro z;exact absurd (show b∈([]:List Addr) from z) (by simp)) (by simp)
    | some u=>
     rcases hO b with z | ⟨ob,xs,z⟩
     ·rw [q] at z;cases z
     ·have z2:=un.frzs b ob _ z
      obtain⟨e1,_⟩:=hok b _ z
      obtain⟨e2,_⟩:=hok' b _ z2
      rw [e] at e1;cases e1
      exact e2
 cases hk:K.lookup a with
 | some o=>
  -- the script is one of the module's own objects
  have e:=KX a o hk
  rw [ha] at e
  cases e
  refine core (λ_=>none) (λ_=>.inl rfl) (.inr ⟨_,vs.toArray,_,hk,rfl,rfl,rfl,by rw [MZ,lenV];exact hl,by simpa using rv⟩) (λb u z=>by have z':=z;cases z') (λb z=>absurd rfl z) λz=>absurd rfl z
 | none=>
  refine core (λb=>if b=a then some (.frz {cls:=.type "list",data:=.seq vs.toArray} (.lst (ns.map V.int))) else none) (λb=>?_) (.inl (.inr ⟨{cls:=.type "list",data:=.seq vs.toArray},Th rfl⟩)) (λb u z=>?_) (λb z=>?_) λ_=>hk
  ·by_cases hb:b=a
   ·exact .inr ⟨_,_,Th hb⟩
   ·exact .inl (Tf hb)
  ·by_cases hb:b=a
   ·have z':=(Th hb).symm.trans z
    cases z'
    subst hb
    exact⟨ha,by rw [MQ];exact hl,vs,_,rv,ha⟩
   ·simp_all
  ·simp_all
end _L
/- THE LAST THEOREM (shape;LID,My.* are yours):
 My.Adr:a structure of the addresses that your layer names (classes,functions);My.Txt K t:a structure (Prop) of the equations over K;
 My.txt_mk:{K} {implicit addresses ..} (e1:nsIn K OX "law" =some (some (.ref f))) (e2:K.lookup f=some ⟨oc,od,.func (fnOf "law" "law" params body scope dV kV doc pm an cdv ct),sl⟩) (e3:codeIn K cdv "law" =true) ..:∃t,My.Txt K t
set_option maxRecDepth 100000 in
set_option maxHeartbeats 0 in
theorem PySem.Challenge.cw_LID_holds : PySem.Challenge.rw_LID.Holds := by
 w_on;o_law;k_head;(case hw=>w_witness2)
 k_fill
 refine _L.walk_of (l:=PySem.Challenge.rw_LID) (n:=63) (k:=40) (x:="script") (CX:=λw=>..) (sp:=λ_=>My.sp_law) rfl (by decide) rfl ⟨rfl,by decide,by decide⟩ (λw h Y=>kIn_of Y) ?F ?S ?C
 case F=>
  intro w mg fa h KX G hmg
  have T:∃t,My.Txt (_L.KOf KX) t:=by
   dsimp only [_L.KOf] -- K must stand as «<heap const> w.params» for k_is
   refine' My.txt_mk ?e1 ?e2 ?e3 ..
   (case e1=>PySem.W.k_is) -- in the order: a name -> its address -> its object -> its parts
   (case e2=>PySem.W.k_is)
   ..
  obtain⟨t,T⟩:=T
  have e0:=hmg.symm.trans (Rw KX G T.law)
  cases e0 -- fa is the law's own address
  exact⟨_,λs u=>.of_eq rfl,λbase kb nb=>My.law_fn T kb nb⟩ -- if «.of_eq rfl» comes too early: refine' ⟨_, ?b, fun base kb nb => My.law_fn T kb nb⟩; exact fun s u => .of_eq rfl
 case S=>exact λw H a ns hl hO hS=>..
 case C=>exact ..
(the tactic k_is has no namespace:write k_is) -/
namespace _L
open PySem PySem.Spec PyProof.Rows
noncomputable def aQ(s:Stmt)(j:Nat):Stmt:=match s with
 | .ClassDef _ _ _ body _ _ _ _ _ _ _=>body.getD j (.Pass ⟨0,0,0,0⟩)
 | _=>.Pass ⟨0,0,0,0⟩
noncomputable def fH(s:Stmt):Arguments:=match s with
 | .FunctionDef _ a _ _ _ _ _ _ _ _=>a
 | _=>{posonlyargs:=[],args:=[],vararg:=none,kwonlyargs:=[],kw_defaults:=[],kwarg:=none,defaults:=[]}
def b7(s:Stmt):List Stmt:=match s with
 | .FunctionDef _ _ b _ _ _ _ _ _ _=>b
 | _=>[]
noncomputable def ai(s:Stmt):Ql:=match s with
 | .FunctionDef _ _ _ _ _ _ sc _ _ _=>sc
 | _=>{kind:=.function,names:=[],isGenerator:=false,isCoroutine:=false}
abbrev CX0:CXT:=λ_ _ _ _ _ _=>False
abbrev E0:XK:=λ_ _ _=>False
theorem fT:jf CX0 X E0:=λ_ _ _ _ _ _ _ h=>h.elim
structure Fun(K:N5)(x qual:Str)(st:Stmt)(f:Addr)(fd:Rq):Prop where
 ex:∃(oc:OL) (od:Option Addr) (kV doc pm:OL) (an:Option Addr) (cdv ct:OL) (osl:Array (Option OL)),
  fd=RJ x qual (fH st) (b7 st) (ai st) .none kV doc pm an cdv ct/\K.lookup f=some ⟨oc,od,.func fd,osl⟩/\R7 K cdv qual=true
 kp:PV K (.ref f)=true
section
variable{P:OR}{w:OV}{K:N5}{mg:Str->Option OL}{base:Heap}
theorem Fun.ok{st:Stmt}(F:Fun K x qual st f fd)(S:au N ps (ai st))(len:∀vs H Q E,sp vs H Q E->vs.length=ps.length)
 (hbody:∀(cdv:OL) (A:OY) (outer:List Env) (s:OO) (H:Hp) (vs:List V) (Q:VK) (E:XK),Room k (A.deeper (Pl qual (ai st) s.heap.objs.size f cdv))->sp vs H Q E->
  ∃t,PSs (eT CX0 P w K mg base N qual (ai st) f cdv A outer s H E).nox (b7 st) t/\t {nx:=λ_ H'=>Q .non H',rt:=Q} (start N vs) H):eu P w K mg base CX0 (k+1) f fd ps sp:=by
 obtain⟨oc,od,kV,doc,pm,an,cdv,ct,osl,rfl,lk,hcd⟩:=F.ex
 refine nO lk hcd S len λA outer s H vs Q E hr hsp=>?_
 obtain⟨t,h,q⟩:=hbody cdv A outer s H vs Q E hr hsp
 exact⟨t,h.nox,q⟩
end
theorem cn(hr:Room k A):A.units+1<Ra:=Nu (Nat.add_le_add_left (by decide:1<=64) _) hr.units
theorem xN(h:n<=1000):n<ON:=Nu h (by decide)
section
variable{X:Cx}
theorem pv(i:Nat){pos:Pos}(hN:X.N[i]? =some x:=by rfl)(hv:Vis X.env.scope x:=by first | exact Or.inl rfl | exact Or.inr (Or.inl rfl) | exact Or.inr (Or.inr rfl))(hd:(x==("__debug__":Str))=false:=by decide)
 (hcd:(x==("__classdict__":Str))=false:=by decide):PE X (.Name x pos) (dF i):=Ed hN hv hd hcd
end
theorem Jh{B:Prop}(h:B):if false=true then A else B:=by
 exact h
theorem Ji{B:Prop}(h:A):if true=true then A else B:=by
 exact h
theorem dI{B:Prop}[Decidable c](h1:c->A)(h2:¬c->B):if c then A else B:=by simp_all
def Same(H H':Hp):Prop:=∀b o,H b=some o->H' b=some o
theorem Same.trans(a:Same H H1)(b:Same H1 H2):Same H H2:=λc o h=>b c o (a c o h)
theorem Same.free(e:Same H H')(h:H' l=Option.none):H l=Option.none:=by
 cases q:H l with
 | none=>rfl
 | some o=>
  rw [e l o q] at h
  cases h
section
variable{X:Cx}
end
section
variable{κ:Type}[DecidableEq κ]
end
end _L
set_option maxHeartbeats 4000000
namespace _L
open PySem PySem.Spec PyProof.Rows
mutual
inductive Rp (K:N5) (H:Hp):V->OQ->Prop
 | non:Rp K H .non .none
 | bl (b:Bool):Rp K H (.bl b) (.bool b)
 | int (i:Int):Rp K H (.int i) (.int i)
 | str (x:Str):Rp K H (.str x) (.str x)
 | lst {a:Addr} {xs:List V} {ds:List OQ}:H a=some (.lst xs)->RpL K H xs ds->Rp K H (.ref a) (.list ds)
 | tup {a:Addr} {xs:List V} {ds:List OQ}:H a=some (.tup xs)->RpL K H xs ds->Rp K H (.ref a) (.tuple ds)
inductive RpL (K:N5) (H:Hp):List V->List OQ->Prop
 | nil:RpL K H [] []
 | cons {x:V} {d:OQ} {xs:List V} {ds:List OQ}:Rp K H x d->RpL K H xs ds->RpL K H (x::xs) (d::ds)
end
theorem Rp.mono{K:N5}{H H':Hp}(g:Same H H'):∀{v:V} {d:OQ},Rp K H v d->Rp K H' v d:=λh=>Rp.rec (motive_1:=λv d _=>Rp K H' v d) (motive_2:=λv d _=>RpL K H' v d) .non .bl .int .str (λh _ i=>.lst (g _ _ h) i) (λh _ i=>.tup (g _ _ h) i) .nil (λ_ _ i j=>.cons i j) h
theorem RpL.mono{K:N5}{H H':Hp}(g:Same H H'):∀{vs:List V} {ds:List OQ},RpL K H vs ds->RpL K H' vs ds:=λh=>RpL.rec (motive_1:=λv d _=>Rp K H' v d) (motive_2:=λv d _=>RpL K H' v d) .non .bl .int .str (λh _ i=>.lst (g _ _ h) i) (λh _ i=>.tup (g _ _ h) i) .nil (λ_ _ i j=>.cons i j) h
theorem Rp.reads{X:Cx}{Ti:List (Addr×Obj)}{σ:St}{H:Hp}{s:OO}(I:Inv X Ti σ H s):∀{v:V} {d:OQ} {u:OL},Rp X.K H v d->RelV v u->∃as,Reads s.heap u d as:=by
 intro v d u h
 refine Rp.rec (motive_1:=λv d _=>∀{u},RelV v u->∃as,Reads s.heap u d as) (motive_2:=λv d _=>∀{u},Vals v u->∃as,ReadsAll s.heap u d as) ?_ ?_ ?_ ?_ ?_ ?_ ?_ ?_ h
 ·intro _ r;cases r;exact⟨_,.none⟩
 ·intro b _ r;cases r;exact⟨_,.bool b⟩
 ·intro i _ r;obtain⟨t,rfl⟩:=r;exact⟨_,.int i t⟩
 ·intro x _ r;obtain⟨t,rfl⟩:=r;exact⟨_,.str x t⟩
 ·intro _ _ _ h _ q _ r
  cases r
  obtain⟨its,rv,⟨o,n,e,hc,hd,hs⟩,_⟩:=I.list (SqL.of h)
  obtain⟨as,ra⟩:=q rv
  exact⟨_,.list e hc hs (by simpa using ra)⟩
 ·intro _ _ _ h _ q _ r
  cases r
  obtain⟨its,rv,⟨o,e,hc,n,hs⟩,_⟩:=I.tuple (SqT.of h)
  obtain⟨as,ra⟩:=q rv
  exact⟨_,.tuple e hc hs (by simpa using ra)⟩
 ·intro _ r;cases r;exact⟨_,.nil⟩
 ·intro _ _ _ _ _ _ h q _ r
  cases r with
  | cons r t=>
   obtain⟨as,ra⟩:=h r
   obtain⟨bs,rb⟩:=q t
   exact⟨_,.cons ra rb⟩
theorem aZ(h:H p=none)(o:HO):Same H (upd H p o):=λb u q=>by rw [aI (av q h)];exact q
section
variable{X:Cx}
def EI(K:N5):R2:=λx y H Q=>∃d e,Rp K H x d/\Rp K H y e/\SeqAt.shaped d=true/\SeqAt.shaped e=true/\Q (.bl (OQ.eqv d e)) H
def EJ(K:N5):R2:=λx y H Q=>∃d e,Rp K H x d/\Rp K H y e/\SeqAt.shaped d=true/\SeqAt.shaped e=true/\Q (.bl (!OQ.eqv d e)) H
theorem gT(hu:X.A.units+64<Ra):OpR X (Pc .Eq) (EI X.K):=by
 intro Ti s σ H x y v u Q I rx ry h
 obtain⟨d,e,hx,hy,sd,se,q⟩:=h
 obtain⟨as,ra⟩:=hx.reads I rx
 obtain⟨bs,rb⟩:=hy.reads I ry
 exact eq_dataH ra rb sd se hu ⟨.bl _,H,I,rfl,q⟩
theorem xO(hu:X.A.units+64<Ra):OpR X (Pc .NotEq) (EJ X.K):=by
 intro Ti s σ H x y v u Q I rx ry h
 obtain⟨d,e,hx,hy,sd,se,q⟩:=h
 obtain⟨as,ra⟩:=hx.reads I rx
 obtain⟨bs,rb⟩:=hy.reads I ry
 exact ne_dataH ra rb sd se hu ⟨.bl _,H,I,rfl,q⟩
theorem uH{pos:Pos}(hg:Gl X n)(hm:X.mg n=none)(hv:Pa n=some (.type T))(hn:n≠"__name__":=by decide)(hd:(n==("__debug__":Str))=false:=by decide):PE X (.Name n pos) (tC (.ty T)):=
 Cg hg hm hv rfl hn hd
end
def o0:R2:=λx y H Q=>∃p i xs v,x= .ref p/\y= .int i/\(H p=some (.tup xs)\/H p=some (.lst xs))/\atI xs i=some v/\Q v H
theorem Jj:IxR X o0:=by
 intro value slice Ti s σ H x y v u Q I rx ry h hs
 obtain⟨p,i,xs,z,rfl,rfl,hq,he,q⟩:=h
 rcases hq with hq | hq
 ·exact Ex value slice Ti s σ H _ _ v u Q I rx ry ⟨p,xs,i,z,rfl,rfl,SqT.of hq,he,q⟩ hs
 ·exact Co value slice Ti s σ H _ _ v u Q I rx ry ⟨p,xs,i,z,rfl,rfl,SqL.of hq,he,q⟩ hs
theorem BG:atI (a::l) 0=some a:=cH rfl
theorem HG:atI (a::b::l) 1=some b:=cH rfl
theorem HH:atI (a::b::c::l) 2=some c:=cH rfl
theorem HI:atI (a::b::c::d::l) 3=some d:=cH rfl
theorem HJ{α:Type}{a b c d e:α}{l:List α}:atI (a::b::c::d::e::l) 4=some e:=cH (j:=4) rfl
theorem cK{R:Addr->Hp->Prop}(h:∀p H',H p=none->Same H H'->H' p=some o->R p H'):∀p,H p=none->R p (upd H p o):=λp hp=>h p _ hp (aZ hp o) aC
theorem sz(h:n<=1000):(n<=ON)=True:=eq_true (Nat.le_of_lt (xN h))
theorem mn1:min 1 (n+1)=1:=by lia
theorem mn2{n:Nat}:min 2 (n+2)=2:=by lia
theorem na2:Int.natAbs 2=2:=rfl
theorem Jk:Int.natAbs 10=10:=rfl
theorem sz0:(0<=ON)=True:=sz (by decide)
theorem sz1:(1<=ON)=True:=sz (by decide)
theorem sz2:(2<=ON)=True:=sz (by decide)
theorem sz3:(3<=ON)=True:=sz (by decide)
theorem sz4:(4<=ON)=True:=sz (by decide)
theorem sz5:(5<=ON)=True:=sz (by decide)
theorem sz6:(6<=ON)=True:=sz (by decide)
theorem km:(Str.ofString a=Str.ofString b)=(a=b):=by
 apply propext
 constructor
 ·intro h
  rw [Str.ofString_eq_toList,Str.ofString_eq_toList] at h
  injection h with h
  have h2:a.toList.map Char.toNat=b.toList.map Char.toNat:=by simpa using congrArg Array.toList h
  have inj:∀c d:Char,c.toNat=d.toNat->c=d:=λc d e=>Char.ext (UInt32.toNat_inj.mp e)
  exact String.toList_inj.mp (List.map_inj_right (λc d e=>inj c d e) |>.mp h2)
 ·rintro rfl;rfl
theorem RpL.nil_inv{K:N5}(h:RpL K H vs []):vs= []:=by cases h;rfl
theorem RpL.cons_inv{K:N5}(h:RpL K H vs (d::ds)):∃x xs,vs=x::xs/\Rp K H x d/\RpL K H xs ds:=by cases h with | cons a b=>exact⟨_,_,rfl,a,b⟩
theorem Rp.str_inv{K:N5}(h:Rp K H v (.str x)):v= .str x:=by cases h;rfl
theorem Rp.int_inv{K:N5}(h:Rp K H v (.int x)):v= .int x:=by cases h;rfl
theorem Rp.non_inv{K:N5}{H:Hp}{v:V}(h:Rp K H v .none):v= .non:=by cases h;rfl
theorem Rp.tup_inv{K:N5}(h:Rp K H v (.tuple ds)):∃a xs,v= .ref a/\H a=some (.tup xs)/\RpL K H xs ds:=by cases h with | tup a b=>exact⟨_,_,rfl,a,b⟩
theorem Rp.tup1{K:N5}(h:Rp K H v (.tuple [d])):∃a x,v= .ref a/\H a=some (.tup [x])/\Rp K H x d:=by
 obtain⟨a,xs,rfl,ha,r⟩:=h.tup_inv
 obtain⟨x,xs,rfl,hx,r⟩:=r.cons_inv
 cases r.nil_inv
 exact⟨a,x,rfl,ha,hx⟩
theorem Rp.tup2{K:N5}(h:Rp K H v (.tuple [d,e])):∃a x y,v= .ref a/\H a=some (.tup [x,y])/\Rp K H x d/\Rp K H y e:=by
 obtain⟨a,xs,rfl,ha,r⟩:=h.tup_inv
 obtain⟨x,xs,rfl,hx,r⟩:=r.cons_inv
 obtain⟨y,xs,rfl,hy,r⟩:=r.cons_inv
 cases r.nil_inv
 exact⟨a,x,y,rfl,ha,hx,hy⟩
theorem Rp.tup3{K:N5}{H:Hp}{v:V}{d e f:OQ}(h:Rp K H v (.tuple [d,e,f])):∃a x y z,v= .ref a/\H a=some (.tup [x,y,z])/\Rp K H x d/\Rp K H y e/\Rp K H z f:=by
 obtain⟨a,xs,rfl,ha,r⟩:=h.tup_inv
 obtain⟨x,xs,rfl,hx,r⟩:=r.cons_inv
 obtain⟨y,xs,rfl,hy,r⟩:=r.cons_inv
 obtain⟨z,xs,rfl,hz,r⟩:=r.cons_inv
 cases r.nil_inv
 exact⟨a,x,y,z,rfl,ha,hx,hy,hz⟩
theorem rG{kvs:List (Key×V)}{k:Key}{v:V}(h:bL kvs k=some v):∃kv∈kvs,kv.2=v:=by
 unfold bL at h
 cases q:kvs.find? (λkv=>decide (kv.1=k)) with
 | none=>rw [q] at h;cases h
 | some p=>rw [q] at h;exact⟨p,List.mem_of_find?_eq_some q,Option.some.inj h⟩
def ej:V->Option Key
 | .int i=>some (.inl i)
 | .str x=>some (.inr x)
 | _=>none
theorem lj(h:ej y=some k):y=kV k:=by
 cases y<;>simp only [ej,Option.some.injEq,reduceCtorEq] at h<;>subst h<;>rfl
section
variable{X:Cx}{i o e value:Expr}{ty td te tv:TE}{pos pos' apos cpos:Pos}
def BH(ty td:TE):TE:=λσ H Q=>ty σ H λy H1=>td σ H1 λx H2=>∃a kvs k,x= .ref a/\H2 a=some (.dK kvs)/\ej y=some k/\Q (.bl (bL kvs k).isSome) H2
def xP(td ty:TE):TE:=λσ H Q=>td σ H λx H1=>ty σ H1 λy H2=>∃a kvs k v,x= .ref a/\H2 a=some (.dK kvs)/\ej y=some k/\bL kvs k=some v/\Q v H2
def EK(td ty tv:TE):TS:=λD σ H=>tv σ H λv H1=>td σ H1 λx H2=>ty σ H2 λy H3=>∃a kvs k,x= .ref a/\H3 a=some (.dK kvs)/\ej y=some k/\kvs.length<ON/\D.nx σ (upd H3 a (.dK (cD kvs k v)))
theorem dJ(hu:X.A.units+1<Ra)(ho:PE X o td)(hi:PE X i ty)(hs:EE i):PE X (.Subscript o i pos) (xP td ty):=by
 intro Ti s σ H Q I h
 refine Cq PySem.F.slot_dict_getitem.lookup hs (thn (ho Ti s σ H _ I h) λu s1 ⟨x,H1,I1,rx,q1⟩=>thn (hi Ti s1 σ H1 _ I1 q1) λiv s2 z=>?_)
 obtain⟨y,H2,I2,ry,a,kvs,k,v,ex,ha,ek,ev,q2⟩:=z
 subst ex
 obtain rfl:u=OL.ref a:=rx
 have g:DGet H2 a y (some v):=by rw [lj ek,<-ev];exact DGet.k ha
 exact⟨t0 I2 g,xE hu I2 g ry λw' s3 I3 rw'=>⟨v,H2,I3,rw',q2⟩⟩
theorem Cr(hu:X.A.units+1<Ra)(hi:PE X i ty)(ho:PE X o td):PC X .In i o (BH ty td):=by
 intro Ti s σ H Q I h
 refine thn (hi Ti s σ H _ I h) λiv s1 ⟨y,H1,I1,ry,q1⟩=>thn (ho Ti s1 σ H1 _ I1 q1) λu s2 z=>?_
 obtain⟨x,H2,I2,rx,a,kvs,k,ex,ha,ek,q2⟩:=z
 subst ex
 obtain rfl:u=OL.ref a:=rx
 have g:DGet H2 a y (bL kvs k):=by rw [lj ek];exact DGet.k ha
 exact Jg hu I2 g ry λs3 I3=>⟨.bl _,H2,I3,rfl,q2⟩
theorem Aa(hu:X.A.units+1<Ra)(ho:PE X o td)(hi:PE X i ty)(hv:PE X value tv)(hs:Qx value (some (.Subscript o i pos')) pos.line X.env=pure false:=by rfl):
 PS X (.Assign [.Subscript o i pos'] value pos) (EK td ty tv):=by
 intro Ti s σ H D I h
 refine wpAny_Assign_Subscript (thn (hv Ti s σ H _ I h) λr s1 ⟨v,H1,I1,rv,q1⟩=>thn (ho Ti s1 σ H1 _ I1 q1) λu s2 ⟨x,H2,I2,rx,q2⟩=>thn (hi Ti s2 σ H2 _ I2 q2) λiv s3 z=>?_) hs
 obtain⟨y,H3,I3,ry,a,kvs,k,ex,ha,ek,hz,q3⟩:=z
 subst ex
 obtain rfl:u=OL.ref a:=rx
 have g:DPut H3 a y v (upd H3 a (.dK (cD kvs k v))):=by rw [lj ek];exact DPut.k ha hz
 exact xG hu I3 g ry rv λs4 I4=>⟨σ,_,I4,q3⟩
def Jl(to te:TE):TE:=λσ H Q=>to σ H λx H1=>∃l xs,x= .ref l/\H1 l=some (.lst xs)/\te σ H1 λy H2=>oY (.ref l) [y] H2 Q
theorem EL(ho:PE X o td)(he:PE X e te)
 (hbase:Pe o "append" X.env (eval o X.env)=eval o X.env:=by rfl)
 (hfew:((PP cpos (OU [e] X.env)).all (λx=>!x.1)&&(P0 cpos (Ps [] X.env)).all (λx=>x.1.isSome)
  && decide ([e].length+([]:List Qq).length+(if ([]:List Qq).isEmpty then 0 else 1)<30))=true:=by rfl)
 (hline:(apos.endLine==cpos.line)=true:=by rfl) (hs:OU [e] X.env= [(false,eval e X.env)]:=by rfl):
 PE X (.Call (.Attribute o "append" apos) [e] [] cpos) (Jl td te):=by
 intro Ti s σ H Q I h
 refine wpAny_Call_method_late hbase hfew hline rfl (thn (ho Ti s σ H _ I h) λv s1 y=>?_)
 obtain⟨x,H1,I1,r1,l,xs,ex,hl,q1⟩:=y
 subst ex
 obtain⟨h1,h2⟩:=gR I1 r1 (Or.inl ⟨rfl,xs,SqL.of hl⟩)
 refine⟨"list",_,Pn,PySem.F.slot_list_append,PySem.F.type_list_append,h1,h2,?_⟩
 have hA:=(uw he aL (hs:=by rw [hs];rfl)) cpos Ti s1 σ H1 (λvs H2=>oY (.ref l) vs H2 Q) I1 q1
 rw [hs] at hA⊢
 refine Calls.callWith_builtin (by rfl) (Calls.evalArgs_plain ?_)
 exact thn hA λus s2 z=>by obtain⟨vs,H2,I2,r2,q2⟩:=z;exact qa Ti s2 σ H2 _ vs v us Q I2 r1 r2 q2
end
theorem Cs{a b:Str}:iU (.str a) (.str b)=true:=rfl
theorem Ct{a b:Int}:iU (.int a) (.int b)=true:=rfl
theorem Cu{a b:Bool}:iU (.bl a) (.bl b)=true:=rfl
theorem Cv:iU .non .non=true:=rfl
theorem Cw{b:Str}:iU .non (.str b)=true:=rfl
theorem Cy{b:Str}:iU (.str b) .non=true:=rfl
theorem Cz{b:Int}:iU .non (.int b)=true:=rfl
theorem CB{b:Int}:iU (.int b) .non=true:=rfl
theorem CC{a:Str}:ej (.str a)=some (.inr a):=rfl
theorem CD{a:Int}:ej (.int a)=some (.inl a):=rfl
theorem EM{a:Str}:dD (.str a)=true:=rfl
theorem EN{a:Int}:dD (.int a)=true:=rfl
theorem EO:dD .non=true:=rfl
theorem EQ{a:Bool}:dD (.bl a)=true:=rfl
theorem CF{x:V}:inV x []=false:=rfl
theorem Ab{x y:V}{l:List V}:inV x (y::l)=(eqV y x || inV x l):=rfl
theorem ER:eqV (.str a) (.str b)=decide (a=b):=by rfl
theorem ES{a b:Int}:eqV (.int a) (.int b)=decide (a=b):=by
 show(a==b)=_
 rw [Bool.eq_iff_iff];simp
theorem Jm{CX:CXT}{P:OR}{w:OV}{K:N5}{mg:Str->Option OL}{base:Heap}{N:List Str}{qual:Str}{scope:Ql}{f:Addr}{cd:OL}{A:OY}{outer:List Env}{s:OO}{H:Hp}{E:XK}:(eT CX P w K mg base N qual scope f cd A outer s H E).K=K:=rfl
section
variable{X:Cx}
def ET(neg:Bool):R2:=λx y H Q=>∃p xs,y= .ref p/\(H p=some (.tup xs)\/H p=some (.lst xs))/\dD x=true/\xs.all dD=true/\Q (.bl (if neg then !inV x xs else inV x xs)) H
theorem kn:OpR X (Pc .In) (ET false):=by
 intro Ti s σ H x y v u Q I rx ry h
 obtain⟨p,xs,rfl,hq,fx,fs,q⟩:=h
 exact xC Ti s σ H x _ v u Q I rx ry ⟨p,xs,rfl,hq.symm.imp SqL.of SqT.of,fx,fs,q⟩
def BI(n:Nat)(t:TGs):TG:=λv σ H Q=>∃a xs,v= .ref a/\H a=some (.tup xs)/\xs.length=n/\t xs σ H Q
theorem bF{k:Nat}{pos:Pos}(n:Nat)(hc:X.calm=true)(h:PGs X es t)
 (hn:(PL es X.env).length=n:=by rfl) (hst:(PL es X.env).findIdx? (·.1)=none:=by rfl):PG X (.Tuple es k pos) (BI n t):=by
 intro Ti s σ H v u Q I r hw
 obtain⟨a,xs,e1,hq,hl,hw⟩:=hw
 exact Ei hc h hn hst Ti s σ H v u Q I r ⟨a,xs,e1,SqT.of hq,hl,hw⟩
def tM(t:TE):TE:=λσ H Q=>∃Q1:VK,t σ H Q1/\∀v H',Q1 v H'->Q v H'
theorem PE.up(h:PE X e t):PE X e (tM t):=by
 intro Ti s σ H Q I hq
 obtain⟨Q1,h1,h2⟩:=hq
 exact thn (h Ti s σ H Q1 I h1) λu s' z=>by obtain⟨v,H',I',r,q⟩:=z;exact⟨v,H',I',r,h2 v H' q⟩
def EU:V->Option Int->Option Int->Hp->VK->Prop:=λx lo hi H Q=>∃a xs,x= .ref a/\
 ((H a = some (.tup xs) ∧ ¬ (_T.sIx xs.length 0 lo = 0 ∧ _T.sIx xs.length xs.length hi = xs.length) ∧ ∀ p H', H p = none → Same H H' → H' p = some (.tup (eA xs lo hi)) → Q (.ref p) H') ∨
  (H a=some (.lst xs)/\∀p H',H p=none->Same H H'->H' p=some (.lst (eA xs lo hi))->Q (.ref p) H'))
theorem EV:SlR X EU:=by
 intro Ti s σ H x v vl vu lo hi sl Q I rx hs pl pu h
 obtain⟨a,xs,rfl,⟨ha,hn,q⟩ | ⟨ha,q⟩⟩:=h
 ·exact Eu Ti s σ H _ v vl vu lo hi sl Q I rx hs pl pu ⟨a,xs,rfl,SqT.of ha,hn,cK q⟩
 ·exact uF Ti s σ H _ v vl vu lo hi sl Q I rx hs pl pu ⟨a,xs,rfl,SqL.of ha,cK q⟩
def Jn(K:N5):V->Option Int->Option Int->Hp->VK->Prop:=λx lo hi H Q=>∃a xs,x= .ref a/\SqL K H a xs/\∀p H',H p=none->Same H H'->H' p=some (.lst (eA xs lo hi))->Q (.ref p) H'
theorem EW:SlR X (Jn X.K):=by
 intro Ti s σ H x v vl vu lo hi sl Q I rx hs pl pu h
 obtain⟨a,xs,rfl,ha,q⟩:=h
 exact uF Ti s σ H _ v vl vu lo hi sl Q I rx hs pl pu ⟨a,xs,rfl,ha,cK q⟩
def tMA(t:TA):TA:=λσ H Q=>∃Q1:List V->Hp->Prop,t σ H Q1/\∀vs H',Q1 vs H'->Q vs H'
theorem PA.up(h:PA X es t):PA X es (tMA t):=by
 intro pos Ti s σ H Q I hq
 obtain⟨Q1,h1,h2⟩:=hq
 exact thn (h pos Ti s σ H Q1 I h1) λus s' z=>by obtain⟨vs,H',I',r,q⟩:=z;exact⟨vs,H',I',r,h2 vs H' q⟩
def wk(t:TA):TE:=λσ H Q=>t σ H λxs H1=>xs.length<=ON/\∀p H',H1 p=none->Same H1 H'->H' p=some (.tup xs)->Q (.ref p) H'
def jI(t:TA):TE:=λσ H Q=>t σ H λxs H1=>xs.length<=ON/\∀p H',H1 p=none->Same H1 H'->H' p=some (.lst xs)->Q (.ref p) H'
theorem ad(h:PA X es t):PE X (.Tuple es x1 pos) (wk t):=λTi s σ H Q I hq=>
 Es h.up Ti s σ H Q I ⟨_,hq,λ_ _ q=>⟨q.1,cK q.2⟩⟩
theorem aq(h:PA X es t):PE X (.List es pos) (jI t):=λTi s σ H Q I hq=>
 Et h.up Ti s σ H Q I ⟨_,hq,λ_ _ q=>⟨q.1,cK q.2⟩⟩
def xQ:TE:=λ_ H Q=>∀p H',H p=none->Same H H'->H' p=some (.dK [])->Q (.ref p) H'
theorem rH:PE X (.Dict [] [] pos) xQ:=λTi s σ H Q I h=>zW Ti s σ H Q I (cK h)
structure Mu(H:Hp)(l:Addr)(o:HO)(H':Hp):Prop where
 at_:H' l=some o
 else_:∀a,a≠l->H' a=H a
theorem Mu.mk':Mu H l o (upd H l o):=⟨aC,λ_ h=>aI h⟩
theorem Mu.old(m:Mu H l o H')(h:H a=some u)(n:a≠l):H' a=some u:=by rw [m.else_ a n];exact h
theorem Mu.same(m:Mu H l o H')(g:Same H0 H)(n:H0 l=none):Same H0 H':=λa u h=>m.old (g a u h) (av h n)
def qP(to te:TE):TE:=λσ H Q=>to σ H λx H1=>∃l xs,x= .ref l/\H1 l=some (.lst xs)/\te σ H1 λy H2=>∃ys,H2 l=some (.lst ys)/\ys.length<ON/\∀H3,Mu H2 l (.lst (ys++[y])) H3->Q .non H3
theorem cy{apos cpos:Pos}(ho:PE X o td)(he:PE X e te)
 (hbase:Pe o "append" X.env (eval o X.env)=eval o X.env:=by rfl)
 (hfew:((PP cpos (OU [e] X.env)).all (λx=>!x.1)&&(P0 cpos (Ps [] X.env)).all (λx=>x.1.isSome)
  && decide ([e].length+([]:List Qq).length+(if ([]:List Qq).isEmpty then 0 else 1)<30))=true:=by rfl)
 (hline:(apos.endLine==cpos.line)=true:=by rfl) (hs:OU [e] X.env= [(false,eval e X.env)]:=by rfl):
 PE X (.Call (.Attribute o "append" apos) [e] [] cpos) (qP td te):=λTi s σ H Q I h=>
 EL ho.up he.up hbase hfew hline hs Ti s σ H Q I ⟨_,h,λ_ _ w=>by obtain⟨l,xs,e1,h1,q⟩:=w;exact⟨l,xs,e1,h1,_,q,λy _ z=>by obtain⟨ys,h2,hz,q⟩:=z;exact⟨l,ys,y,rfl,rfl,h2,hz,q _ .mk'⟩⟩⟩
def uI(td ty tv:TE):TS:=λD σ H=>tv σ H λv H1=>td σ H1 λx H2=>ty σ H2 λy H3=>∃a kvs k,x= .ref a/\H3 a=some (.dK kvs)/\ej y=some k/\kvs.length<ON/\∀H4,Mu H3 a (.dK (cD kvs k v)) H4->D.nx σ H4
theorem xR(hu:X.A.units+1<Ra)(ho:PE X o td)(hi:PE X i ty)(hv:PE X value tv)(hs:Qx value (some (.Subscript o i pos')) pos.line X.env=pure false:=by rfl):
 PS X (.Assign [.Subscript o i pos'] value pos) (uI td ty tv):=λTi s σ H D I h=>
 Aa hu ho.up hi.up hv.up hs Ti s σ H D I ⟨_,h,λ_ _ q=>⟨_,q,λ_ _ q=>⟨_,q,λ_ _ z=>by obtain⟨a,kvs,k,e1,e2,e3,e4,q⟩:=z;exact⟨a,kvs,k,e1,e2,e3,e4,q _ .mk'⟩⟩⟩⟩
noncomputable def pairsOf:List (V×V)->Option (List (Key×V))
 | []=>some []
 | (x,y)::r=>(ej x).bind λk=>(pairsOf r).bind λl=>some ((k,y)::l)
def gI(a:Addr)(o:HO)(g:TG)(tb:TS)(D:fB):List V->St->Hp->Prop
 | [],σ,H=>H a=some o/\D.nx σ H
 | x::r,σ,H=>H a=some o/\g x σ H λσ2 H2=>tb {D with nx:=gI a o g tb D r,ct:=gI a o g tb D r,bk:=D.nx} σ2 H2
def BJ(tl:TE)(g:TG)(tb:TS):TS:=λD σ H=>tl σ H λx H1=>∃a xs,x= .ref a/\H1 a=some (.tup xs)/\gI a (.tup xs) g tb D xs σ H1
theorem xS{xs:List V}(h:gI a o g tb D (xs.drop i) σ H):H a=some o/\
 ((xs.length<=i/\D.nx σ H)\/∃x,xs[i]? =some x/\g x σ H λσ2 H2=>tb {D with nx:=gI a o g tb D (xs.drop (i+1)),ct:=gI a o g tb D (xs.drop (i+1)),bk:=D.nx} σ2 H2):=by
 by_cases hi:i<xs.length
 ·rw [Nt hi] at h
  exact⟨h.1,.inr ⟨xs[i],MR hi,h.2⟩⟩
 ·rw [List.drop_eq_nil_of_le (by lia)] at h
  exact⟨h.1,.inl ⟨by lia,h.2⟩⟩
theorem CG(hp:O1 (model X.prog X.w) X.A X.env X.xe)(hc:X.calm=true)(hi:PE X iter tl)(hg:PG X tg g)(hb:PSs X body tb)
 (hs:∀x,Pq iter X.env x=pure x:=by intro _;rfl):PS X (.For tg iter body [] pos) (BJ tl g tb):=by
 intro Ti s σ H D I h
 refine cB hp hc (xp hi.up) hg hb hs Ti s σ H D I ⟨_,h,λx H1 q=>?_⟩
 obtain⟨a,xs,rfl,ha,q⟩:=q
 refine⟨a,rfl,⟨xs,SqT.of ha⟩,λi m σ H=>m=xs.length-i/\i<=xs.length/\gI a (.tup xs) g tb D (xs.drop i) σ H,⟨_,rfl,Nk _,q⟩,?_⟩
 rintro i m σ H ⟨rfl,hi,q⟩
 obtain⟨hH,⟨hl,q⟩ | ⟨x,hx,q⟩⟩:=xS q
 ·exact .inl ⟨⟨xs,SqT.of hH,hl⟩,q⟩
 ·have hlt:=(List.getElem?_eq_some_iff.mp hx).1
  refine .inr ⟨⟨xs,x,SqT.of hH,hx⟩,gI a (.tup xs) g tb D (xs.drop (i+1)),λσ' H' q'=>⟨xs.length-(i+1),by lia,rfl,hlt,q'⟩,λy H' z=>?_⟩
  obtain⟨rfl,z⟩:=z
  cases (hx.symm.trans (z xs (SqT.of hH)))
  exact q
end
noncomputable def hoT:HO->Option String
 | .lst _=>some "list"
 | .tup _=>some "tuple"
 | .dK _=>some "dict"
 | _=>none
noncomputable def tyG(H:Hp):V->Option String
 | .non=>some "NoneType"
 | .bl _=>some "bool"
 | .int _=>some "int"
 | .str _=>some "str"
 | .ref a=>(H a).bind hoT
 | _=>none
theorem HK{H:Hp}:tyG H .non=some "NoneType":=rfl
theorem HM{H:Hp}{x:Bool}:tyG H (.bl x)=some "bool":=rfl
theorem HQ{H:Hp}{x:Int}:tyG H (.int x)=some "int":=rfl
theorem HR{H:Hp}{x:Str}:tyG H (.str x)=some "str":=rfl
theorem BK:tyG H (.ref a)=(H a).bind hoT:=rfl
theorem HS{xs:List V}:hoT (.lst xs)=some "list":=rfl
theorem HU{xs:List V}:hoT (.tup xs)=some "tuple":=rfl
theorem HV{xs:List (Key×V)}:hoT (.dK xs)=some "dict":=rfl
theorem CI{K:N5}(h:tyG H x=some t):fE K H x (.type t):=by
 cases x with
 | non=>cases h;exact .non
 | bl b=>cases h;exact .bl b
 | int b=>cases h;exact .int b
 | str b=>cases h;exact .str b
 | ref a=>
  rw [BK] at h
  cases e:H a with
  | none=>simp_all
  | some o=>
   rw [e] at h
   cases o with
   | lst xs=>cases h;exact .lst e
   | tup xs=>cases h;exact .tup e
   | dK xs=>cases h;exact .dK e
   | _=>cases h
 | _=>cases h
theorem EX{K:N5}:OP K (.type "int") (.type "int")=some true:=rfl
theorem EY{K:N5}:OP K (.type "int") (.type "tuple")=some false:=rfl
theorem EZ{K:N5}:OP K (.type "int") (.type "list")=some false:=rfl
theorem E1{K:N5}:OP K (.type "int") (.type "str")=some false:=rfl
theorem E2{K:N5}:OP K (.type "int") (.type "bool")=some false:=rfl
theorem E3{K:N5}:OP K (.type "int") (.type "dict")=some false:=rfl
theorem E4{K:N5}:OP K (.type "NoneType") (.type "int")=some false:=rfl
theorem E5{K:N5}:OP K (.type "NoneType") (.type "tuple")=some false:=rfl
theorem E6{K:N5}:OP K (.type "NoneType") (.type "list")=some false:=rfl
theorem E7{K:N5}:OP K (.type "NoneType") (.type "str")=some false:=rfl
theorem E8{K:N5}:OP K (.type "NoneType") (.type "bool")=some false:=rfl
theorem E9{K:N5}:OP K (.type "NoneType") (.type "dict")=some false:=rfl
theorem Fa{K:N5}:OP K (.type "tuple") (.type "int")=some false:=rfl
theorem Fb{K:N5}:OP K (.type "tuple") (.type "tuple")=some true:=rfl
theorem Fc{K:N5}:OP K (.type "tuple") (.type "list")=some false:=rfl
theorem Fd{K:N5}:OP K (.type "tuple") (.type "str")=some false:=rfl
theorem Fe{K:N5}:OP K (.type "tuple") (.type "bool")=some false:=rfl
theorem Ff{K:N5}:OP K (.type "tuple") (.type "dict")=some false:=rfl
theorem Fg{K:N5}:OP K (.type "list") (.type "int")=some false:=rfl
theorem Fh{K:N5}:OP K (.type "list") (.type "tuple")=some false:=rfl
theorem Fi{K:N5}:OP K (.type "list") (.type "list")=some true:=rfl
theorem Fj{K:N5}:OP K (.type "list") (.type "str")=some false:=rfl
theorem Fk{K:N5}:OP K (.type "list") (.type "bool")=some false:=rfl
theorem Fl{K:N5}:OP K (.type "list") (.type "dict")=some false:=rfl
theorem Fm{K:N5}:OP K (.type "str") (.type "int")=some false:=rfl
theorem Fn{K:N5}:OP K (.type "str") (.type "tuple")=some false:=rfl
theorem Fo{K:N5}:OP K (.type "str") (.type "list")=some false:=rfl
theorem Fp{K:N5}:OP K (.type "str") (.type "str")=some true:=rfl
theorem Fq{K:N5}:OP K (.type "str") (.type "bool")=some false:=rfl
theorem Fr{K:N5}:OP K (.type "str") (.type "dict")=some false:=rfl
theorem Fs{K:N5}:OP K (.type "bool") (.type "int")=some true:=rfl
theorem Ft{K:N5}:OP K (.type "bool") (.type "tuple")=some false:=rfl
theorem Fu{K:N5}:OP K (.type "bool") (.type "list")=some false:=rfl
theorem Fv{K:N5}:OP K (.type "bool") (.type "str")=some false:=rfl
theorem Fw{K:N5}:OP K (.type "bool") (.type "bool")=some true:=rfl
theorem Fx{K:N5}:OP K (.type "bool") (.type "dict")=some false:=rfl
theorem Fy{K:N5}:OP K (.type "dict") (.type "int")=some false:=rfl
theorem FA{K:N5}:OP K (.type "dict") (.type "tuple")=some false:=rfl
theorem FB{K:N5}:OP K (.type "dict") (.type "list")=some false:=rfl
theorem FC{K:N5}:OP K (.type "dict") (.type "str")=some false:=rfl
theorem FD{K:N5}:OP K (.type "dict") (.type "bool")=some false:=rfl
theorem FE{K:N5}:OP K (.type "dict") (.type "dict")=some true:=rfl
def bt:Expr->Bool
 | .Starred _ _=>false
 | _=>true
theorem dy(h:bt e=true):OU (e::es) env=(false,eval e env)::OU es env:=by
 cases e with
 | Starred v q=>exact absurd (h) Bool.false_ne_true
 | _=>rfl
theorem c9:∀{es:List Expr},es.all bt=true->(PP pos (OU es env)).any (·.1)=false
 | [],_=>rfl
 | e::es,h=>by
  rw [List.all_cons,M0] at h
  rw [dy h.1]
  show(false || (PP pos (OU es env)).any (·.1))=false
  rw [c9 h.2]
  rfl
section
variable{X:Cx}{e:Expr}{es:List Expr}{te:TE}{t:TA}{x:Str}{p pos:Pos}{id T:String}{r:List V->Hp->VK->Prop}
theorem cT(ha:PE X e te)(hr:PA X es t)(hn:bt e=true:=by rfl):PA X (e::es) (cP te t):=uw ha hr (dy hn)
theorem iF(hc:bD X (.builtin id) r)(hg:Gl X x)(hm:X.mg x=none)(hv:Pa x=some (.builtin id))(ha:PA X (e::es) t)(hn:x≠"__name__":=by decide)(hdb:(x==("__debug__":Str))=false:=by decide)
 (hs:(e::es).all bt=true:=by rfl):PE X (.Call (.Name x p) (e::es) [] pos) (tCB r t):=
 zM hc hg hm hv ha hn hdb (dy (Bool.and_eq_true_iff.mp hs).1) (c9 (Bool.and_eq_true_iff.mp hs).2)
theorem FF(hc:bD X (.type T) r)(hg:Gl X x)(hm:X.mg x=none)(hv:Pa x=some (.type T))(ha:PA X (e::es) t)(hn:x≠"__name__":=by decide)(hdb:(x==("__debug__":Str))=false:=by decide)
 (hs:(e::es).all bt=true:=by rfl):PE X (.Call (.Name x p) (e::es) [] pos) (tCB r t):=
 xz hc hg hm hv ha hn hdb (dy (Bool.and_eq_true_iff.mp hs).1) (c9 (Bool.and_eq_true_iff.mp hs).2)
end
structure DefAt(K:N5)(mg:Str->Option OL)(x:Str)(st:Stmt)(ps:List Str):Prop where
 ex:∃f fd,mg x=some (.ref f)/\Fun K x x st f fd/\Binds K fd ps []
structure OkD(P:OR)(w:OV)(K:N5)(mg:Str->Option OL)(base:Heap)(n:Nat)(x:Str)(ps:List Str)(sp:Sp):Prop where
 ex:∃f fd,mg x=some (.ref f)/\PV K (.ref f)=true/\Binds K fd ps []/\eu P w K mg base CX0 n f fd ps sp
def wl(sp:Sp)(t:TA):TE:=λσ H Q=>t σ H λvs H1=>sp vs H1 Q E0
section
variable{P:OR}{w:OV}{K:N5}{mg:Str->Option OL}{base:Heap}{x:Str}{st:Stmt}{N ps:List Str}{k:Nat}{sp:Sp}
theorem DefAt.ok(D:DefAt K mg x st ps)(S:au N ps (ai st))(len:∀vs H Q E,sp vs H Q E->vs.length=ps.length)
 (hbody:∀(f:Addr) (cdv:OL) (A:OY) (outer:List Env) (s:OO) (H:Hp) (vs:List V) (Q:VK) (E:XK),Room k (A.deeper (Pl x (ai st) s.heap.objs.size f cdv))->sp vs H Q E->
  ∃t,PSs (eT CX0 P w K mg base N x (ai st) f cdv A outer s H E).nox (b7 st) t/\t {nx:=λ_ H'=>Q .non H',rt:=Q} (start N vs) H):OkD P w K mg base (k+1) x ps sp:=by
 obtain⟨f,fd,hm,F,hb⟩:=D.ex
 exact⟨f,fd,hm,F.kp,hb,F.ok S len (hbody f)⟩
theorem DefAt.never(D:DefAt K mg x st ps)(n:Nat)(h:∀vs H Q E,¬sp vs H Q E):OkD P w K mg base n x ps sp:=by
 obtain⟨f,fd,hm,F,hb⟩:=D.ex
 exact⟨f,fd,hm,F.kp,hb,⟨λvs H Q E q=>absurd q (h vs H Q E),λA outer s H args us vs Q E _ _ _ _ q=>absurd q (h vs H Q E)⟩⟩
end
section
variable{X:Cx}{k n:Nat}{ps:List Str}{sp:Sp}{x:Str}{p pos:Pos}{e:Expr}{es:List Expr}{t:TA}
theorem aH(G:OkD X.prog X.w X.K X.mg X.base k x ps sp)(hr:Room n X.A)(hg:Gl X x)(ha:PA X (e::es) t)(hk:k<=n:=by lia)(hdb:(x==("__debug__":Str))=false:=by decide)
 (hs:(e::es).all bt=true:=by rfl):PE X (.Call (.Name x p) (e::es) [] pos) (wl sp t):=by
 obtain⟨f,fd,hm,kp,hb,F⟩:=G.ex
 intro Ti s σ H Q I h
 apply Cl F (hr.mono hk) hg hm kp hb .nil fT ha hdb (dy (Bool.and_eq_true_iff.mp hs).1) (c9 (Bool.and_eq_true_iff.mp hs).2) Ti s σ H Q I
 have e:(λvs H1=>sp (vs++[]) H1 Q E0)=λvs H1=>sp vs H1 Q E0:=by funext vs H1;rw [Nv]
 show t σ H λvs H1=>sp (vs++[]) H1 Q E0
 rw [e]
 exact h
end
def wm(K:N5):Sp:=λvs H Q _=>∃(a:Addr) (ns:List Int),vs= [.ref a]/\SqL K H a (ns.map V.int)/\ns.length<=63/\∀H',Q (.bl true) H'
section
variable{M:Model}{A:OY}{E:OL->OO->Prop}{s:OO}{base:Heap}{env:Env}{outer:List Env}{L x:Addr}{oe:Obj}{vs:Array OL}{Q:Unit->OO->Prop}
end
section
variable{X:Cx}{Ti:List (Addr×Obj)}{σ:St}{H1:Hp}{s1:OO}
end
section
variable{P:OR}{w:OV}{K:N5}{mg:Str->Option OL}{base:Heap}{N:List Str}{qual:Str}{scope:Ql}{f:Addr}{cd:OL}{A:OY}{outer:List Env}{s:OO}{H:Hp}{E:XK}
end
section
variable{X:Cx}{E:XK}{x:Str}{C:Addr}{np cpos pos:Pos}{e:Expr}{es:List Expr}{t:TA}
end
section
variable{P:OR}{w:OV}{K:N5}{mg:Str->Option OL}{base:Heap}{N:List Str}{qual:Str}{scope:Ql}{f:Addr}{cd:OL}{A:OY}{outer:List Env}{s:OO}{H:Hp}{E:XK}
end
section
variable{P:OR}{w:OV}{K:N5}{mg:Str->Option OL}{base:Heap}{x:Str}{st:Stmt}{N ps:List Str}{k:Nat}{sp:Sp}
end
section
variable{X:Cx}{E:XK}{k n:Nat}{ps:List Str}{sp:Sp}{x:Str}{p pos:Pos}{e:Expr}{es:List Expr}{t:TA}
end
section
variable{X:Cx}{Ti:List (Addr×Obj)}{σ:St}{H:Hp}{s:OO}
end
section
open PySem.W
end
abbrev TX:=St->Hp->VK->XK->Prop
section
variable{X:Cx}{k n:Nat}{ps:List Str}{sp:Sp}{x:Str}{p pos:Pos}{e:Expr}{es:List Expr}{t:TA}
end
section
variable{X:Cx}{B:Addr}{i:Nat}{n cx:Str}{e:Expr}{b0:Stmt}{suite:List Stmt}{ep np hpos pos:Pos}{t:TX}{th:TS}
end
noncomputable abbrev Cx.comp(X:Cx)(scope:Ql)(cl:List (Str×Addr))(N:List Str)(C:Addr)(fp:List Addr)(s₀:OO)(H₀:Hp):Cx:=
 {X with N:=N,s₀:=s₀,H₀:=H₀,env:=compEnvC scope cl C X.env,outer:=X.stack,ex:=fp,fn:=λ_=>false,pn:=[],xe:=λ_ _=>False}
def qQ(σ:St)(cap:List Nat):St:=cap.map λi=>(σ[i]?).join
section
variable{X:Cx}{Ti:List (Addr×Obj)}{σ:St}{H:Hp}{s:OO}{scope:Ql}{cl:List (Str×Addr)}{N:List Str}{cap:List Nat}
end
def PTs(X:Cx)(ifs:List Expr)(t:TT):Prop:=
 ∀(Ti:List (Addr×Obj)) (s:OO) (σ:St) (H:Hp) (Q:Bool->Hp->Prop),Inv X Ti σ H s->t σ H Q->
  OT (model X.prog X.w) X.A (forIn ifs true λc r=>if r=true then do let ok <-SJ c X.env (eval c X.env);pure (ForInStep.yield ok) else pure (ForInStep.yield r)) (TP X Ti σ Q) X.xe s
def rJ:TT:=λ_ H Q=>Q true H
theorem bv{X:Cx}:PTs X [] rJ:=λ_ _ _ H _ I h=>wpAny_tests_nil ⟨H,I,h⟩
theorem CJ{X:Cx}{c:Expr}{t:TT}(h:PT X c t):PTs X [c] t:=λTi s σ H Q I q=>wpAny_tests_one (h Ti s σ H Q I q)
section
variable{X:Cx}{scope:Ql}{cl:List (Str×Addr)}{N:List Str}{cap:List Nat}{x:Str}{px pos:Pos}{iter elt:Expr}{ifs:List Expr}{wi:TI}{tc:TT}{te:TE}
end
structure ko(J:It)(xs:List V)(ok:Hp->Prop):Prop where
 go:∀i H,ok H->i<xs.length->J.go i H
 stop:∀i H,ok H->xs.length<=i->J.stop i H
 yld:∀i H x H',ok H->i<xs.length->J.yld i H x H'->H'=H/\xs[i]? =some x
theorem over_list{K:N5}{a:Addr}{xs:List V}:ko (Itl K a) xs (λH=>H a=some (.lst xs)) where
 go:=λi H e h=>⟨xs,xs[i],SqL.of e,MR h⟩
 stop:=λi H e h=>⟨xs,SqL.of e,h⟩
 yld:=λi H v H' e h y=>⟨y.1,y.2 xs (SqL.of e)⟩
theorem rK{K:N5}{a:Addr}{xs:List V}:ko (Itt K a) xs (λH=>H a=some (.tup xs)) where
 go:=λi H e h=>⟨xs,xs[i],SqT.of e,MR h⟩
 stop:=λi H e h=>⟨xs,SqT.of e,h⟩
 yld:=λi H v H' e h y=>⟨y.1,y.2 xs (SqT.of e)⟩
theorem wn(lo:Int)(n:Nat):ko (Itr lo n) ((List.range n).map λ(k:Nat)=>V.int (lo+k)) (λ_=>True) where
 go:=λi H _ h=>(show i<n by simpa using h)
 stop:=λi H _ h=>(show n<=i by simpa using h)
 yld:=λi H v H' _ h y=>by
  obtain⟨e,rfl⟩:=y
  refine⟨e,?_⟩
  have h':i<n:=by simpa using h
  rw [M4,List.getElem?_range h'];rfl
theorem dU{names:List (Str×Pk)}{y:Str}{k:Pk}(h:names.lookup y=some k):(y,k)∈names:=Pu h
section
variable{X:Cx}
end
def qR:R2:=λx y H Q=>∃l b xs zs,x= .ref l/\y= .ref b/\H l=some (.lst xs)/\H b=some (.lst zs)/\xs.length+zs.length<=ON/\∀p H',H p=none->Same H H'->H' p=some (.lst (xs++zs))->Q (.ref p) H'
theorem cz{X:Cx}:OpR X (PX .Add) qR:=by
 intro Ti s σ H x y v u Q I rx ry h
 obtain⟨l,b,xs,zs,e1,e2,h1,h2,hz,q⟩:=h
 exact EC Ti s σ H x y v u Q I rx ry ⟨l,b,xs,zs,e1,e2,h1,h2,hz,cK q⟩
def BL:V->V->V->Hp->(Hp->Prop)->Prop:=λo i v H Q=>∃p xs k j,o= .ref p/\i= .int k/\H p=some (.lst xs)/\ixN xs.length k=some j/\∀H',Mu H p (.lst (xs.set j v)) H'->Q H'
theorem iG{X:Cx}:vN X BL:=by
 intro Ti s σ H o i v ov iv u Q I ro ri rv h
 obtain⟨p,xs,k,j,e1,e2,h1,h2,q⟩:=h
 exact zR Ti s σ H o i v ov iv u Q I ro ri rv ⟨p,xs,k,j,e1,e2,h1,h2,q _ .mk'⟩
def tMs(t:TS):TS:=λD σ H=>∃Z:St->Hp->Prop,t {D with nx:=Z} σ H/\∀σ' H',Z σ' H'->D.nx σ' H'
theorem ls{X:Cx}{st:Stmt}{t:TS}(h:PS X st t):PS X st (tMs t):=by
 intro Ti s σ H D I hq
 obtain⟨Z,h1,h2⟩:=hq
 refine thn (h Ti s σ H _ I h1) λfl s' hs=>?_
 cases fl with
 | next=>obtain⟨σ',H',I',q⟩:=hs;exact⟨σ',H',I',h2 _ _ q⟩
 | _=>exact hs
section
variable{X:Cx}{Ti:List (Addr×Obj)}{σ:St}{H:Hp}{s:OO}{h':Heap}
theorem Inv.turnedL{ch:List Addr}(I:Inv X Ti σ H s)(k:∀b o,b∉ch->s.heap.get? b=some o->h'.get? b=some o)(hf:∀b∈ch,eQ X Ti H b):Inv X Ti σ H {s with heap:=h',toks:=t'}:=by
 have nit:∀b u,H b=some u->b∉ch:=λb u e z=>by rw [(hf b z).1] at e;cases e
 refine I.step (λb hb=>?_) (λb o _ _ hc e _=>k b o hc e) (λb o _ _ hc e _=>⟨o.slots,k b o hc e⟩) (λ_ _ _ _ n=>n)
  (λb o hc e=>⟨o,k b o hc e⟩) (λ_ _ e=>e) (λ_ _ _ e=>e) (λb ps e=>⟨#[],by rw [e];simp⟩) (λm hm=>?_) (λb u e=>?_) I.bare
 ·obtain⟨_,f1,_,f3,f4,f5⟩:=hf b hb
  exact⟨f3,f1,f4,f5⟩
 ·obtain⟨o,es,ep,ho,r⟩:=hm
  exact⟨o,es,ep,k _ o (λz=>(hf _ z).2.1 rfl) ho,r⟩
 ·refine(I.hok b u e).stay (λc v hc q=>k c v ?_ q) (λ_ q=>q) λ_ _ q=>q
  rcases hc with z | z
  ·rw [z];exact nit b u e
  ·exact nit c _ z
end
inductive F2 (R:V->V->Prop):List V->List V->Prop
 | nil:F2 R [] []
 | cons {x v:V} {xs vs:List V}:R x v->F2 R xs vs->F2 R (x::xs) (v::vs)
theorem gU{α:Type}{f:α->β->Sem (ForInStep β)}(g:α->β->β):∀(l:List α) (b:β),(∀x∈l,∀b,f x b=pure (.yield (g x b)))->forIn l b f=pure (l.foldl (λb x=>g x b) b)
 | [],b,_=>by rw [Ow];rfl
 | x::l,b,h=>by
  rw [Oq,h x MU b]
  exact gU g l (g x b) λy hy=>h y (MV _ hy)
noncomputable def gW(env:Env)(x:Str×Pk)(r:List (Str×Addr)):List (Str×Addr):=if x.2== .free then (x.1,(env.cells.lookup x.1).getD 0)::r else r
def pc(env:Env)(scope:Ql):List (Str×Addr):=scope.names.foldl (λr x=>gW env x r) []
theorem wo(h:∀y∈scope.names,y.2= .free->∃c,env.cells.lookup y.1=some c):Sf scope env=pure (pc env scope):=by
 simp only [Sf]
 rw [gU (gW env) scope.names [] (λx hx b=>by
  obtain⟨n,k⟩:=x
  cases hk:(k==Pk.free) with
  | false=>simp [gW,hk]
  | true=>
   have e:k= .free:=by simpa using hk
   obtain⟨c,hc⟩:=h _ hx e
   have hc':=hc
   simp [gW,hk,cellOf,hc'])]
 rfl
theorem xT:∀(names:List (Str×Pk)) (acc:List (Str×Addr)),(∀y∈names,y.2= .free->∃c,env.cells.lookup y.1=some c)->(∀y c,acc.lookup y=some c->env.cells.lookup y=some c)->
 ∀y c,(names.foldl (λr x=>gW env x r) acc).lookup y=some c->env.cells.lookup y=some c
 | [],acc,_,ha,y,c,e=>ha y c e
 | (n,k)::names,acc,h,ha,y,c,e=>by
  refine xT names (gW env (n,k) acc) (λz hz=>h z (MV _ hz)) (λz d ez=>?_) y c e
  unfold gW at ez
  split at ez
  ·rename_i hk
   have hk':k= .free:=by simpa using hk
   obtain⟨c',hc'⟩:=h _ MU hk'
   rw [NM] at ez
   split at ez
   ·simp_all
   ·exact ha z d ez
  ·exact ha z d ez
theorem xU:∀(names:List (Str×Pk)) (acc:List (Str×Addr)) (y:Str),((y,Pk.free)∈names\/(acc.lookup y).isSome)->((names.foldl (λr x=>gW env x r) acc).lookup y).isSome
 | [],acc,y,h=>h.elim (λz=>absurd z MT) id
 | (n,k)::names,acc,y,h=>by
  apply xU names (gW env (n,k) acc) y
  rcases h with h | h
  ·rcases List.mem_cons.mp h with h | h
   ·obtain⟨rfl,rfl⟩:=Prod.mk.inj h
    right
    simp [gW]
   ·exact .inl h
  ·right
   unfold gW
   split
   ·rw [NM]
    split
    ·rfl
    ·exact h
   ·exact h
theorem fA{env:Env}:∀{names:List (Str×Pk)} {x:Str},names.lookup x=some .free->
 (names.map λ(n,k)=>if (k==Pk.free&&env.scope.kind== .function&&env.kindOf n==some .cell) then (n,Pk.cell) else (n,k)).lookup x=some .cell\/
 (names.map λ(n,k)=>if (k==Pk.free&&env.scope.kind== .function&&env.kindOf n==some .cell) then (n,Pk.cell) else (n,k)).lookup x=some .free
 | [],_,h=>by simp at h
 | (n,k)::r,x,h=>by
  have ih:= @fA env r x
  rw [NM] at h
  rw [Ng]
  cases hx:x==n with
  | true=>
   rw [hx] at h
   have hk:k= .free:=by simpa using h
   subst hk
   dsimp only
   split
   ·left;rw [NM,hx]
   ·right;rw [NM,hx]
  | false=>
   rw [hx] at h
   dsimp only
   split
   ·rw [NM,hx];exact ih h
   ·rw [NM,hx];exact ih h
section
variable{X:Cx}{B:Addr}{cx:Str}{e:Expr}{b0:Stmt}{suite:List Stmt}{ep np hpos pos:Pos}{t:TX}{th:TS}
end
def wq(J:It)(g:TG)(tb:TS)(D:fB)(σ:St)(H1:Hp):Prop:=∃W:Nat->Nat->St->Hp->Prop,(∃m,W 0 m σ H1)/\∀i m σ H,W i m σ H->
 (J.stop i H/\D.nx σ H)\/(J.go i H/\∃N:St->Hp->Prop,(∀σ' H',N σ' H'->∃m',m'<m/\W (i+1) m' σ' H')/\∀x H',J.yld i H x H'->g x σ H' λσ2 H2=>tb {D with nx:=N,ct:=N,bk:=D.nx} σ2 H2)
theorem cI(h:wi σ H λJ H1=>wq J g tb D σ H1):rq wi g tb D σ H:=h
section
variable{X:Cx}{Ti:List (Addr×Obj)}{σ:St}{H:Hp}{s:OO}
def mw(X:Cx)(d:Addr):Prop:=∀o u,X.H₀ d≠some (.frz o u)
theorem Inv.retag{d:Addr}{u u':HO}(I:Inv X Ti σ H s)(hd:H d=some u)(n1:∀xs,u≠.tup xs)(n2:mw X d)(n3:∀ps,u≠.tbl ps)(n4:∀x,u≠.own x)(new:ObjOk X.prog X.w (upd H d u') s.heap d u'):Inv X Ti σ (upd H d u') s:=by
 have ne:∀{b:Addr},H b=none->b≠d:=λh z=>by rw [z,hd] at h;cases h
 have sub:∀{b:Addr},H b=none->upd H d u' b=none:=λ{b} h=>by rw [aI (ne h)];exact h
 have bs:=I.base
 refine⟨I.ok,I.os,I.bare,⟨bs.keep,bs.slot,λb o e n hx=>sub (bs.free b o e n hx),bs.there,λb xs e=>?_,λb o v e=>?_,λb ps e=>?_⟩,I.loc,I.cell,sub I.free,λx c e=>sub (I.freeC x c e),λp hp=>?_,λa v e=>?_,I.len⟩
 ·have:=bs.tups b xs e
  have nb:b≠d:=λz=>by rw [z,hd] at this;exact n1 xs (Option.some.inj this)
  rw [aI nb];exact this
 ·have nb:b≠d:=λz=>n2 o v (by rw [<-z];exact e)
  rw [aI nb];exact bs.frzs b o v e
 ·obtain⟨more,h1⟩:=bs.tbls b ps e
  have nb:b≠d:=λz=>by rw [z,hd] at h1;exact n3 _ (Option.some.inj h1)
  exact⟨more,by rw [aI nb];exact h1⟩
 ·obtain⟨p1,p2,p3,p4,p5⟩:=I.pin p hp
  exact⟨p1,sub p2,p3,p4,p5⟩
 ·by_cases ha:a=d
  ·subst ha
   rw [aC] at e
   cases e
   exact new
  ·rw [aI ha] at e
   refine(I.hok a v e).stay (λ_ _ _ q=>q) (λb q=>?_) λb xs q=>?_
   ·have nb:b≠d:=λz=>by rw [z,hd] at q;exact n4 _ (Option.some.inj q)
    rw [aI nb];exact q
   ·have nb:b≠d:=λz=>by rw [z,hd] at q;exact n1 _ (Option.some.inj q)
    rw [aI nb];exact q
theorem Inv.nofz{d:Addr}{kvs:List (Key×V)}(I:Inv X Ti σ H s)(hd:H d=some (.dK kvs)):mw X d:=λo u e=>by
 have:=I.base.frzs d o u e
 rw [hd] at this;cases this
end
theorem rL{k:Key}{v:OL}(h:iB k v=true):RelV (kV k) v:=by
 rcases bH h with ⟨i,t,rfl,rfl⟩ | ⟨x,t,rfl,rfl⟩
 ·exact⟨t,rfl⟩
 ·exact⟨t,rfl⟩
section
variable{X:Cx}
def BM:V->List V->Hp->VK->Prop:=λx vs H Q=>∃l xs y,x= .ref l/\vs= []/\H l=some (.lst (xs++[y]))/\∀H',Mu H l (.lst xs) H'->Q y H'
theorem uJ:MtR X "list.pop" BM:=by
 intro Ti s σ H x vs v us Q I rx rv h
 obtain⟨l,xs,y,e1,e2,hH,q⟩:=h
 refine EA Ti s σ H x vs v us Q I rx rv ⟨l,xs++[y],y,e1,e2,hH,?_,?_⟩
 ·rw [MW,ND,NY]
  simp
 ·rw [List.dropLast_concat]
  exact q _ .mk'
def wt:R2:=λx y H Q=>∃l k xs,x= .ref l/\y= .int k/\H l=some (.lst xs)/\ -(2^63)<=k/\k<2^63/\xs.length*k.toNat<=ON/\∀p H',H p=none->Same H H'->H' p=some (.lst (Nd k.toNat xs).flatten)->Q (.ref p) H'
theorem CK:OpR X (PX .Mult) wt:=by
 intro Ti s σ H x y v u Q I rx ry h
 obtain⟨l,k,xs,e1,e2,h1,h2,h3,h4,q⟩:=h
 exact ED Ti s σ H x y v u Q I rx ry ⟨l,k,xs,e1,e2,h1,h2,h3,h4,cK q⟩
end
section
variable{prog:OR}{w:OV}{A:OY}{E:OL->OO->Prop}{s:OO}
theorem qc{it t:Addr}{items:Array OL}(hne:t≠it):∀(n i:Nat) (s:OO) (Q:List OL->OO->Prop),s.heap.IsListIter it t i->s.heap.IsList t items->i+n<=items.size->
 (∀h',h'.IsListIter it t (i+n)->Heap.SameBut it s.heap h'->Q ((items.toList.drop i).take n) {s with heap:=h'})->OT (model prog w) A (draw (.ref it) n) Q E s
 | 0,i,s,Q,hit,_,_,hQ=>by
  show OT _ _ (pure []) Q E s
  exact OM (by simpa using hQ s.heap hit (Heap.SameBut.refl ..))
 | n+1,i,s,Q,hit,ht,hle,hQ=>by
  have hlt:i<items.size:=by lia
  show OT _ _ (Ro (.ref it) >>= _) Q E s
  refine OK (P5 hit ht (x:=items[i]) (by simp [hlt]) λh₁ hit₁ hs₁=>?_)
  refine OK (OZ (qc hne n (i+1) _ _ hit₁ (ht.at λo e=>(hs₁.2 t hne).trans e) (by lia) λh₂ hit₂ hs₂=>OM ?_))
  have hd:items.toList.drop i=items[i]::items.toList.drop (i+1):=by simp [Nt,hlt]
  have:=hQ h₂ (by rw [show i+(n+1)=i+1+n by lia];exact hit₂) (hs₁.trans hs₂)
  rw [hd,List.take_succ_cons] at this
  exact this
theorem mx{t:Addr}{items:Array OL}{Q:List OL->OO->Prop}(hh:A.handled=none)(ht:s.heap.IsList t items)
 (hQ:∀h',Heap.ExtBut s.heap.objs.size s.heap h'->Q items.toList {s with heap:=h'}):OT (model prog w) A (unpackItems (.ref t) items.size none) Q E s:=by
 have hlt:t≠s.heap.objs.size:=by obtain⟨o,ho,_⟩:=ht;exact Nf (M3 ho)
 unfold unpackItems
 refine OK ?_
 unfold notIterableAtAll
 refine OK (wpAny_specialOf ht.typeIs F.slot_list_iter.lookup ?_)
 refine OM ?_
 simp only [NC,if_false]
 refine OK (OZ (Py ht ?_))
 refine OK (OZ (qc hlt items.size 0 _ _ ⟨_,MS _ rfl,rfl,rfl⟩ (ht.at λo e=>MO _ e) (by lia) λh₁ hit₁ hs₁=>?_))
 have hall:List.take items.size (List.drop 0 items.toList)=items.toList:=by
  rw [List.drop_zero];exact Nm (by simp)
 rw [hall]
 rw [Tf (by simp)]
 have ht₁:h₁.IsList t items:=(ht.at λo e=>MO _ e).at λo e=>(hs₁.2 t hlt).trans e
 refine OK (OZ (Qb hh hit₁ ht₁ (by simp) λh₂ he₂=>?_))
 simp only [Option.isSome_none,NC,if_false]
 refine OM (hQ h₂ λb o hb e=>he₂ b o hb (hs₁.extBut b o hb (MO _ e)))
end
def BN(n:Nat)(t:TGs):TG:=λv σ H Q=>∃a xs,v= .ref a/\H a=some (.lst xs)/\xs.length=n/\t xs σ H Q
theorem jg{X:Cx}{es:List Expr}{k:Nat}{t:TGs}{pos:Pos}(n:Nat)(hc:X.calm=true)(h:PGs X es t)
 (hn:(PL es X.env).length=n:=by rfl) (hst:(PL es X.env).findIdx? (·.1)=none:=by rfl):PG X (.Tuple es k pos) (BN n t):=by
 intro Ti s σ H v u Q I r hw
 obtain⟨a,xs,e1,hq,hl,hw⟩:=hw
 subst e1
 cases r
 obtain⟨its,rv,p,hz⟩:=I.list (SqL.of hq)
 rw [assign_Tuple]
 refine OK (QF ?_)
 unfold unpack
 have e:(PL es X.env).length=its.toArray.size:=by simp [hn,<-hl,rv.length]
 rw [e,hst]
 refine OK (OZ (mx (I.ok.hd hc) p.isList λh' hx=>?_))
 have I1:Inv X Ti σ H {s with heap:=h'}:=I.kept (t':=s.toks) λb o e=>hx b o (Nf (M3 e)) e
 exact h Ti _ σ H xs _ Q I1 (by simpa using rv) hw
theorem my:∀{ns:List Int} {its:List OL},Vals (ns.map V.int) its->PF its ns
 | [],_,.nil=>.nil
 | n::ns,_,.cons h r=>by
  obtain⟨t,rfl⟩:=h
  exact .cons n t (my r)
theorem mz:∀{ns:List Int} {its:List OL},PF its ns->Vals (ns.map V.int) its:=by
 intro x0 x1 zq
 induction zq with
 | nil=>exact .nil
 | cons n t r ih=>exact .cons ⟨t,rfl⟩ ih
def FG:List V->Hp->VK->Prop:=λxs H Q=>∃(p:Addr) (ns:List Int),xs= [.ref p]/\H p=some (.lst (ns.map V.int))/\Q (.int ns.sum) H
theorem Ac(hc:X.calm=true):bD X (.builtin "sum") FG:=by
 intro Ti s σ H xs us Q I r h
 obtain⟨p,ns,rfl,hp,q⟩:=h
 obtain⟨u,rfl,ru⟩:=dR r
 cases ru
 obtain⟨its,rv,pl,hz⟩:=I.list (SqL.of hp)
 have hi:=my rv
 obtain⟨xs,hx⟩:=hi.allInts.items
 have hl:=hx▸pl.isList
 refine PySem.sum_intListG (I.ok.hd hc) hl λh' tk t' hk=>?_
 have e1:ns=xs.toList.map (·.1):=by
  rw [<-nums_intItems,<-hx]
  exact(hi.numsOf).symm
 have e2:preSum (numAt xs) xs.size=ns.sum:=by
  rw [preSum_eq,Nm (by simp),e1]
 rw [e2]
 exact⟨.int ns.sum,H,I.kept hk,⟨t',rfl⟩,q⟩
def BO:List V->Hp->VK->Prop:=λxs H Q=>∃(p:Addr) (ns:List Int),xs= [.ref p]/\(H p=some (.lst (ns.map V.int))\/∃kvs:List (Key×V),H p=some (.dK kvs)/\kvs.map (·.1)=ns.map Sum.inl)/\ns.length<64/\
 ∀D H' ms,H D=none->Same H H'->H' D=some (.lst (ms.map V.int))->List.Perm ms ns->List.Pairwise (λx y=>x<=y) ms->Q (.ref D) H'
theorem t9(hc:X.calm=true):bD X (.builtin "sorted") BO:=by
 intro Ti s σ H xs us Q I r h
 obtain⟨p,ns,rfl,hp,h64,q⟩:=h
 obtain⟨u,rfl,ru⟩:=dR r
 cases ru
 rcases hp with hp | ⟨kvs,hp,hk⟩
 ·obtain⟨its,rv,pl,hz⟩:=I.list (SqL.of hp)
  have hi:=my rv
  have hl:its.length=ns.length:=by have:=rv.length;rw [MQ] at this;exact this.symm
  refine sorted_ints pl.isList hi (by lia) λout ns' a1 a2 a3=>?_
  obtain⟨e,he⟩:=sortedAll_at s.heap its out
  have ln:ns'.length<=ON:=by have:=a2.length_eq;unfold ON;lia
  have fr:=I.hok.fresh (N8 _)
  have I2:=I.laid (o:=.lst (ns'.map V.int)) (t':=s.toks) (λb u e=>sortedAll_old e) (N8 _) (⟨by rw [MQ];exact ln,out.toList,e,mz a1,he⟩)
  exact⟨.ref (s.heap.objs.size+1),_,I2,rfl,q _ _ _ fr (aZ fr _) aC a2 a3⟩
 ·obtain⟨z1,z2,vs,rel,o,es,ep,ho,r⟩:=eV I.hok hp
  have D0:s.heap.DictAt (aN X.prog X.w) p vs ep:=⟨o,es,ho,r⟩
  have lv:vs.length=ns.length:=by
   have h1:=rel.length
   have h2:=congrArg List.length hk
   rw [MQ,MQ] at h2
   lia
  apply Qa RR RC RD (RE _)
  refine OK (OM ?_)
  refine OK (PySem.W.kdu_collect (OH z2) (I.ok.hd hc) D0 (by rw [lv];unfold ON;lia) λh' tk acc hkp hacc=>?_)
  have hla:acc.toList.length=ns.length:=by rw [Array.length_toList,hacc.1,lv]
  refine OK (QH ?_ (by rw [hla];unfold ON;lia))
  have hi:PF acc.toList ns:=by
   have key:∀(n:Nat) (l:List OL) (ms:List Int),l.length=ms.length->(∀(j:Nat) (v:OL),l[j]? =some v->∃i t,ms[j]? =some i/\v=OL.int i t)->PF l ms:=by
    intro n l
    induction l with
    | nil=>intro ms hl _;cases ms with
     | nil=>exact .nil
     | cons _ _=>cases hl
    | cons v l ih=>
     intro ms hl hv
     cases ms with
     | nil=>cases hl
     | cons i ms=>
      obtain⟨i',t,e1,rfl⟩:=hv 0 v rfl
      cases e1
      exact .cons _ t (ih ms (by simpa using hl) λj v e=>by simpa using hv (j+1) v (by simpa using e))
   refine key 0 _ _ hla λj v e=>?_
   obtain⟨k,x,hx,hkv⟩:=hacc.2 j v (by rw [<-Array.getElem?_toList];exact e)
   obtain⟨h1,h2⟩:=List.getElem?_eq_some_iff.mp hx
   have hj:j<kvs.length:=by have:=rel.length;lia
   have ek:(kvs[j]).1=k:=by
    have h1:=congrArg (λl:List Key=>l[j]?) rel.keys
    simp only [M4,MR hj,hx,Om] at h1
    exact Option.some.inj h1
   have e3:=congrArg (λl:List Key=>l[j]?) hk
   simp only [M4,MR hj,Om] at e3
   have hjn:j<ns.length:=by lia
   rw [MR hjn] at e3
   simp only [Om,Option.some.injEq] at e3
   rw [ek] at e3
   subst e3
   rcases bH (show iB (Sum.inl ns[j]) v=true from hkv) with ⟨i,t,e4,rfl⟩ | ⟨z,t,e4,_⟩
   ·cases e4
    exact⟨_,t,MR hjn,rfl⟩
   ·cases e4
  have hoL:(h'.push (PD "list" acc.toList.toArray 0)).get? h'.objs.size=some (PD "list" acc.toList.toArray 0):=MS _ rfl
  refine OK (OZ (O3 Re ⟨_,hoL,rfl⟩ QX (list_sort_tree hoL hi (by lia) λout ns' a1 a2 a3=>⟨_,rfl,?_⟩) (Rf _)))
  refine OM ⟨_,rfl,?_⟩
  obtain⟨e,he⟩:=sortedHeap_at hoL
  have I1:Inv X Ti σ H {s with heap:=h',toks:=tk}:=I.kept hkp
  have ln:ns'.length<=ON:=by have:=a2.length_eq;unfold ON;lia
  have fr:=I1.hok.fresh (Nat.le_refl _)
  have kp:∀b o,h'.get? b=some o->(Sg (h'.push (PD "list" acc.toList.toArray 0)) h'.objs.size acc.toList out).get? b=some o:=λb o e1=>by
   have l1:=M3 e1
   rw [sortedHeap_old (Nf l1) (by rw [Nq];exact NQ l1)]
   exact MO _ e1
  have I2:=I1.laid (o:=.lst (ns'.map V.int)) (t':=tk) kp (Nat.le_refl _) (⟨by rw [MQ];exact ln,out.toList,e,mz a1,he⟩)
  exact⟨.ref h'.objs.size,_,I2,rfl,q _ _ _ fr (aZ fr _) aC a2 a3⟩
def xV(K:N5):List V->Hp->VK->Prop:=λxs H Q=>∃p ys,xs= [.ref p]/\(H p=some (.lst ys)\/H p=some (.tup ys))/\∀l H',H l=none->Same H H'->H' l=some (.lst ys)->Q (.ref l) H'
theorem cb:bD X (.type "list") (xV X.K):=by
 intro Ti s σ H xs us Q I r h
 obtain⟨p,ys,e,hp,q⟩:=h
 exact rE Ti s σ H xs us Q I r ⟨p,ys,e,hp.elim (λh=>.inl (SqL.of h)) (λh=>.inr (.inl (.inl h))),cK q⟩
def Ad(xs:List V)(k:Nat)(y:V):List V:=xs.take k++y::xs.drop k
def BP:V->List V->Hp->VK->Prop:=λx vs H Q=>∃l xs k y,x= .ref l/\vs= [.int k,y]/\H l=some (.lst xs)/\0<=k/\k<=xs.length/\xs.length<1000/\∀H',Mu H l (.lst (Ad xs k.toNat y)) H'->Q .non H'
theorem CM:MtR X "list.insert" BP:=by
 intro Ti s σ H x vs v us Q I rx rv h
 obtain⟨l,xs,k,y,rfl,rfl,hH,h0,h1,hz,q⟩:=h
 cases rx
 cases rv with
 | cons r1 rv=>
 cases rv with
 | cons r2 rv=>
 cases rv
 obtain⟨t,rfl⟩:=r1
 rename_i u
 obtain⟨z,its,n,r,hl,e⟩:=I.lstM hH
 have hb:1000<=ON:=by unfold ON;decide
 have hf:¬(!OW.List.listFitsIndex k)=true:=by
  have:OW.List.listFitsIndex k=true:=Rc (by lia) (by lia)
  rw [this];decide
 refine P7 F.slot_list_insert ⟨_,e,rfl⟩ F.entry_list_insert (F.args_list_insert_3 _ _ _) (QQ l its.toArray n k t u hf (by rw [MZ];lia)) ⟨e,?_⟩
 refine⟨.non,_,I.lset (its':=its.take k.toNat++u::its.drop k.toNat) hH e ?_ ?_ ?_,rfl,q _ .mk'⟩
 ·show(its.toArray.extract 0 (if k<0 then (k+(its.toArray.size:Int)).toNat else min k.toNat its.toArray.size)).push u++its.toArray.extract (if k<0 then (k+(its.toArray.size:Int)).toNat else min k.toNat its.toArray.size)=_
  rw [Tf (by lia),MZ,Nat.min_eq_left (by lia)]
  apply Array.toList_inj.mp
  simp
  exact Nm (by rw [N7];exact Nat.le_refl _)
 ·exact(r.take _).append (.cons r2 (r.drop _))
 ·unfold Ad
  rw [MW,NT,M8,N7]
  lia
def xW(td ty:TE):TE:=λσ H Q=>td σ H λx H1=>∃a,x= .ref a/\(∃kvs,H1 a=some (.dK kvs))/\ty σ H1 λy H2=>∃kvs k v,H2 a=some (.dK kvs)/\ej y=some k/\bL kvs k=some v/\∀H',Mu H2 a (.dK (iD kvs k)) H'->Q v H'
theorem Ae(ho:PE X o td)(he:PE X e ty)(m:M1 X o "pop" apos e cpos):PE X (.Call (.Attribute o "pop" apos) [e] [] cpos) (xW td ty):=by
 intro Ti s σ H Q I h
 exact zY ho.up he.up m Ti s σ H Q I ⟨_,h,λx H1 w=>by obtain⟨a,e,⟨kvs,hk⟩,q⟩:=w;exact⟨a,e,.inl ⟨kvs,Rd.of hk⟩,_,q,λy H2 z=>by obtain⟨kvs,k,v,h2,ek,ev,q⟩:=z;exact⟨kvs,k,v,h2,lj ek,ev,q _ .mk'⟩⟩⟩
section
variable{prog:OR}{w:OV}{A:OY}{s:OO}
theorem CN(I:Nat->OO->Prop)
 (turn:∀n s,I n s->OT (model prog w) A (Ro it) (λr s₁=>match r with
  | none=>R (.ok .next) s₁
  | some v=>OT (model prog w) A (QT target it v) (λ_ s₀=>OT (model prog w) A (assign target env v) (λ_ s₂=>
   OT (model prog w) A (forIn ifs true λc r=>if r=true then do let ok <-SJ c env (eval c env);pure (ForInStep.yield ok) else pure (ForInStep.yield r)) (λok s₃=>if ok=true then OT (model prog w) A (eval elt env) (λx s₄=>
    OT (model prog w) A (call (.builtin "list.append") [acc,x]) (λ_ s₅=>∃m,m<n/\I m s₅) (RS (model prog w) A env λe s'=>R (.error e) s') s₄) (RS (model prog w) A env λe s'=>R (.error e) s') s₃
    else ∃m,m<n/\I m s₃) (RS (model prog w) A env λe s'=>R (.error e) s') s₂)
   (RS (model prog w) A env λe s'=>R (.error e) s') s₀) (RS (model prog w) A env λe s'=>R (.error e) s') s₁) (RS (model prog w) A env λe s'=>R (.error e) s') s)
 (n:Nat) (h:I n s):QG (model prog w) A (.compLoop (.ListComp elt [⟨target,iter,ifs,0⟩] scope pos) 0 it acc env) R s:=by
 refine codeAny_loop rfl I (λn s hI=>?_) n h
 refine(show OT _ A ((compTurn (.ListComp elt [⟨target,iter,ifs,0⟩] scope pos) 0 it acc env).onRaise _) _ _ s from wpAny_noted ?_)
 rw [compTurn_list]
 refine OK (QF (OK (O6 (turn n s hI) (λr s1 q1=>?_) λ_ _ z=>z)))
 cases r with
 | none=>exact OM q1
 | some v=>
  refine OK (O6 q1 (λ_ s2 q2=>OK (O6 q2 (λ_ s3 q3=>OK (O6 q3 (λb s4 q4=>?_) λ_ _ z=>z)) λ_ _ z=>z)) λ_ _ z=>z)
  cases b with
  | false=>exact OM ⟨rfl,q4⟩
  | true=>exact OK (OK (O6 q4 (λx s5 q5=>OK (O6 q5 (λ_ s6 q6=>OM (OM ⟨rfl,q6⟩)) λ_ _ z=>z)) λ_ _ z=>z))
end
structure dW(X:Cx)(scope:Ql)(cl:List (Str×Addr))(N:List Str)(cap:List Nat)(k:Nat):Prop where
 kind:scope.kind= .function
 clos:X.Ok->Sf scope X.env=pure cl
 ncell:∀y∈scope.names,y.2≠.cell
 names:∀y∈scope.names,y.2= .local->scope.names.lookup y.1=some .local
 nd:N.Nodup
 has:∀y,((relabel scope X.env).names.lookup y=some .cell\/(relabel scope X.env).names.lookup y=some .free)->∃c,cl.lookup y=some c
 sub:X.Ok->∀y c,cl.lookup y=some c->X.env.cells.lookup y=some c
 len:N.length=cap.length+k
 cap:∀(j i:Nat) (y:Str),N[j+k]? =some y->cap[j]? =some i->X.N[i]? =some y/\Vis X.env.scope y/\X.env.kindOf y≠some .local/\((relabel scope X.env).names.lookup y=some .cell\/(relabel scope X.env).names.lookup y=some .free)
def fW(k:Nat)(σ:St)(cap:List Nat):St:=Nd k none++qQ σ cap
def jh(k:Nat)(cap:List Nat)(wi:TI)(g:TG)(tc:TT)(te:TE):TE:=λσ H Q=>wi σ H λJ H1=>∀D,H1 D=none->∃W:Nat->Nat->St->Hp->Prop,(∃m,W 0 m (fW k σ cap) (upd H1 D (.lst [])))/\∀i m σ1 H,W i m σ1 H->
 (J.stop i H/\Q (.ref D) H)\/(J.go i H/\∀x H',J.yld i H x H'->g x σ1 H' λσ2 H1=>tc σ2 H1 λb H2=>if b=true then te σ2 H2 λv H3=>∃ys,H3 D=some (.lst ys)/\ys.length<ON/\∃m',m'<m/\W (i+1) m' σ2 (upd H3 D (.lst (ys++[v])))
  else ∃m',m'<m/\W (i+1) m' σ2 H2)
section
variable{X:Cx}{Ti:List (Addr×Obj)}{σ:St}{H:Hp}{s:OO}{scope:Ql}{cl:List (Str×Addr)}{N:List Str}{cap:List Nat}{k:Nat}
theorem Inv.enterN(S:dW X scope cl N cap k)(I:Inv X Ti σ H s)(f:∀b∈fp,eQ X Ti H b/\b<s.heap.objs.size)(hn:h'.Ns s.heap.objs.size λ_=>none)
 (kp:∀b o,s.heap.get? b=some o->h'.get? b=some o):Inv (X.comp scope cl N s.heap.objs.size fp s H) [] (fW k σ cap) H {s with heap:=h',toks:=tk}:=by
 have ok:=I.ok
 have cellOut:=λy c e=>I.cell y c (S.sub I.ok y c e)
 refine⟨⟨ok.mod,?_,ok.glob,ok.blt,Nat.le_refl _,λx y c a b=>ok.inj x y c (S.sub I.ok x c a) (S.sub I.ok y c b),S.has,λ_ _ z=>absurd z Bool.false_ne_true,ok.hd,ok.frames,.inl rfl,λb hb=>⟨Nf (f b hb).2,λy c e=>(f b hb).1.2.2.2.2.1 y c (S.sub I.ok y c e)⟩,I.bs,Nat.le_trans ok.bsz I.sz,λb o e hb=>?_,λb hb z=>?_,I.stack,I.stkFree⟩,
  rfl,I.bare,Un.kept kp,⟨_,hn,λi y v a b c=>?_⟩,λy c e=>?_,I.hok.fresh (Nat.le_refl _),λy c e=>I.freeC y c (S.sub I.ok y c e),λp hp=>by simp at hp,I.hok.kept kp,?_⟩
 ·exact S.kind
 ·have:=(f b hb).1.2.2.2.1
  rcases this with z | z
  ·exact ok.noex b o e z
  ·have l1:=M3 e
   exact absurd (M7 l1 (Nat.le_trans ok.bsz z)) (NR _)
 ·rcases List.mem_cons.mp (I.stkSub b z) with q | q
  ·exact(f b hb).1.2.1 q
  ·exact(f b hb).1.2.2.1 q
 ·unfold fW at b
  by_cases hik:i<k
  ·rw [Nl (by rw [MY];exact hik)] at b
   simp [hik] at b
  ·obtain⟨j,rfl⟩:∃j,i=j+k:=⟨i-k,by lia⟩
   rw [No (by rw [MY];lia),MY,NY] at b
   unfold qQ at b
   rw [M4] at b
   cases e:cap[j]? with
   | none=>simp_all
   | some i=>
    rw [e] at b
    have b:(σ[i]?).join=some v:=by simpa using b
    obtain⟨p1,p2,p3,p4⟩:=S.cap j i y a e
    have b':σ[i]? =some (some v):=by
     cases q:σ[i]? with
     | none=>rw [q] at b;cases b
     | some w=>rw [q] at b;exact congrArg some b
    obtain⟨m,hm,hl⟩:=I.loc
    obtain⟨u,ru,l⟩:=hl i y v p1 b' p2
    refine⟨u,ru,.inr ⟨p4,?_⟩⟩
    rcases l with l | ⟨l,c0,e0,o',q',hd'⟩
    ·simp_all
    ·obtain⟨c,ec⟩:=S.has y p4
     have:=S.sub I.ok y c ec
     rw [e0] at this
     cases this
     exact⟨c0,ec,o',kp _ _ q',hd'⟩
 ·obtain⟨v,o,q,hd⟩:=cellOut y c e
  exact⟨v,o,kp _ _ q,hd⟩
 ·show(fW k σ cap).length=N.length
  unfold fW qQ
  rw [S.len,MW,MY,MQ]
  lia
end
section
variable{X:Cx}{scope:Ql}{cl:List (Str×Addr)}{N:List Str}{cap:List Nat}{k:Nat}{tg:Expr}{g:TG}{pos:Pos}{iter elt:Expr}{ifs:List Expr}{wi:TI}{tc:TT}{te:TE}
theorem nR{σ:St}(S:dW X scope cl N cap k)(hc:X.calm=true)(hi:PI X tg iter wi)(hg:∀C fp s₀ H₀,PG (X.comp scope cl N C fp s₀ H₀) tg g)
 (ht:∀C fp s₀ H₀,PTs (X.comp scope cl N C fp s₀ H₀) ifs tc) (he:∀C fp s₀ H₀,PE (X.comp scope cl N C fp s₀ H₀) elt te) (hs:∀x,Pq iter X.env x=pure x)
 (I:Inv X Ti σ H s) (h:jh k cap wi g tc te σ H Q)
 (fin:∀(D C:Addr) (H6:Hp) (s6:OO) (m:Str->Option OL),Inv X Ti σ H6 s6->eQ X Ti H6 C->s6.heap.Ns C m->Q (.ref D) H6->compPost (model X.prog X.w) X.A X.xe use Qv (.ref D) C (.ok .next) s6):
 OT (model X.prog X.w) X.A (comprehension (.ListComp elt [⟨tg,iter,ifs,0⟩] scope pos) scope X.env pos' (newList []) false (eval iter X.env) use) Qv X.xe s:=by
 refine wpAny_comprehension_free rfl hs (S.clos I.ok) S.kind S.names (thn (hi Ti s σ H _ I h) λv s1 h1=>thn h1 λitv s2 h2=>?_)
 obtain⟨it,fp,tn,J,H2,rfl,I2,T,st2,f2,q⟩:=h2
 obtain⟨W,⟨m0,w0⟩,turn⟩:=q s2.heap.objs.size (I2.hok.fresh (Nat.le_refl _))
 have I3:Inv X Ti σ (upd H2 s2.heap.objs.size (.lst [])) {s2 with heap:=s2.heap.push {cls:=.type "list",dict:=none,data:=.seq ([]:List OL).toArray}}:=
  I2.laid (λb u e=>MO _ e) (Nat.le_refl _) ⟨Nk _,[],0,.nil,MS _ rfl⟩
 refine Pd (wpAny_newFunctionEnv S.ncell (by intro y hy;simp at hy) (λh4 hns hsb=>?_) S.kind)
 generalize hs3:({s2 with heap:=s2.heap.push {cls:=.type "list",dict:=none,data:=.seq ([]:List OL).toArray}}:OO)=s3 at I3 hns hsb⊢
 have f3:∀b∈fp,eQ X Ti (upd H2 s2.heap.objs.size (.lst [])) b/\b<s3.heap.objs.size:=λb hb=>by
  obtain⟨o,ho,_⟩:=T.obj _ _ st2 b hb
  have l1:=M3 ho
  refine⟨⟨?_,(f2 b hb).2⟩,?_⟩
  ·rw [aI (Nf l1)];exact(f2 b hb).1
  ·rw [<-hs3,Nq];exact NQ l1
 have nsN:h4.Ns s3.heap.objs.size λ_=>none:=by
  have:=hns
  simpa using this
 have keep4:∀b o,s3.heap.get? b=some o->h4.get? b=some o:=λb o e=>(hsb.2 b (Nf (M3 e))).trans (MO _ e)
 have Ic:=I3.enterN (tk:=s3.toks+([]:List (Str×OL)).length) S f3 nsN keep4
 have st4:=T.keep _ _ _ st2 λb hb o e=>keep4 b o (by rw [<-hs3];exact MO _ e)
 have stat:∀{H':Hp},(∀b∈fp,H' b=none)->∀b∈fp,eQ (X.comp scope cl N s3.heap.objs.size fp s3 (upd H2 s2.heap.objs.size (.lst []))) [] H' b:=λhn b hb=>
  ⟨hn b hb,Nf (f3 b hb).2,λz=>(List.mem_cons.mp (I3.stkSub b z)).elim (λq=>(f3 b hb).1.2.1 q) λq=>(f3 b hb).1.2.2.1 q,.inl hb,λy c e=>(f3 b hb).1.2.2.2.2.1 y c (S.sub I.ok y c e),λp hp=>by simp at hp⟩
 have out:∀{σx:St} {H6:Hp} {s6:OO},Inv (X.comp scope cl N s3.heap.objs.size fp s3 (upd H2 s2.heap.objs.size (.lst []))) [] σx H6 s6->Q (.ref s2.heap.objs.size) H6->
  compPost (model X.prog X.w) X.A X.xe use Qv (OL.ref s2.heap.objs.size) s3.heap.objs.size (.ok .next) s6:=λ{σx H6 s6} I6 q6=>by
  obtain⟨m,hm,_⟩:=I6.loc
  have Io:=I3.call' I6.os I6.base I6.hok I6.bare λb hb=>⟨(f3 b hb).1.2.2.2.1,(f3 b hb).1.2.1,(f3 b hb).1.2.2.2.2.1,(f3 b hb).1.2.2.2.2.2⟩
  exact fin _ _ _ _ m Io (I3.fpOk (Nat.le_refl _) I6.free) hm q6
 have loop:QG (model X.prog X.w) X.A (.compLoop (.ListComp elt [⟨tg,iter,ifs,0⟩] scope pos) 0 (.ref it) (.ref s2.heap.objs.size) (compEnvC scope cl s3.heap.objs.size X.env))
  (compPost (model X.prog X.w) X.A X.xe use Qv (OL.ref s2.heap.objs.size) s3.heap.objs.size) {s3 with heap:=h4,toks:=s3.toks+([]:List (Str×OL)).length}:=by
  refine CN (λn s'=>∃i σx H',Inv (X.comp scope cl N s3.heap.objs.size fp s3 (upd H2 s2.heap.objs.size (.lst []))) [] σx H' s'/\tn i s'.heap/\(∀b∈fp,H' b=none)/\W i n σx H') ?_ m0 ⟨0,_,_,Ic,st4,λb hb=>(f3 b hb).1.1,w0⟩
  rintro n s5 ⟨i,σx,H5,I5,st5,fr5,w5⟩
  rcases turn i n σx H5 w5 with ⟨stop,qd⟩ | ⟨go,step⟩
  ·refine O6 (T.done (X.comp scope cl N s3.heap.objs.size fp s3 (upd H2 s2.heap.objs.size (.lst []))) rfl rfl rfl hc i [] s5 _ H5 (λ_ _=>False) I5 (stat fr5) st5 stop) (λr s6 z4=>?_) λ_ _ z=>z.elim
   obtain⟨hr,I6⟩:=z4
   subst hr
   exact out I6 qd
  ·refine O6 (T.item (X.comp scope cl N s3.heap.objs.size fp s3 (upd H2 s2.heap.objs.size (.lst []))) rfl rfl rfl hc i [] s5 _ H5 (λ_ _=>False) I5 (stat fr5) st5 go) (λr s6 z3=>?_) λ_ _ z=>z.elim
   obtain⟨u,hr,h6⟩:=z3
   subst hr
   refine O6 h6 (λ_ s7 z2=>?_) λ_ _ z=>z.elim
   obtain⟨v,H7,I7,r7,y7,st7,fr7⟩:=z2
   have I7':=I7.pinned (stat fr7) (T.obj _ _ st7)
   have again:∀{σ9:St} {H9:Hp} {s9:OO},Inv (X.comp scope cl N s3.heap.objs.size fp s3 (upd H2 s2.heap.objs.size (.lst []))) ([]++j9 fp s7.heap) σ9 H9 s9->(∃m',m'<n/\W (i+1) m' σ9 H9)->
    ∃m',m'<n/\∃i σx H',Inv (X.comp scope cl N s3.heap.objs.size fp s3 (upd H2 s2.heap.objs.size (.lst []))) [] σx H' s9/\tn i s9.heap/\(∀b∈fp,H' b=none)/\W i m' σx H':=λ{σ9 H9 s9} I9 ⟨m',lt,w'⟩=>by
    refine⟨m',lt,i+1,σ9,H9,I9.unpinned,T.keep _ _ _ st7 λb hb o e=>(I9.pin (b,o) (M9 _ (M9 _ (gG hb e)))).1,λb hb=>?_,w'⟩
    obtain⟨o,e,d⟩:=T.obj _ _ st7 b hb
    exact(I9.pin (b,o) (M9 _ (M9 _ (gG hb e)))).2.1
   refine O6 (hg _ _ _ _ _ s7 σx H7 v u _ I7' r7 (step v H7 y7)) (λ_ s8 z1=>?_) λ_ _ z=>z.elim
   obtain⟨σ8,H8,I8,q8⟩:=z1
   refine O6 (ht _ _ _ _ _ s8 _ H8 _ I8 q8) (λb s9 ww=>?_) λ_ _ z=>z.elim
   obtain⟨H9,I9,q9⟩:=ww
   cases b with
   | false=>exact again I9 q9
   | true=>
    refine O6 (he _ _ _ _ _ s9 _ H9 _ I9 q9) (λu' s10 yy=>?_) λ_ _ z=>z.elim
    obtain⟨v',H10,I10,r10,ys,hD,hz,q10⟩:=yy
    refine O6 (qa (X:=X.comp scope cl N s3.heap.objs.size fp s3 (upd H2 s2.heap.objs.size (.lst []))) _ s10 _ H10 (.ref s2.heap.objs.size) [v'] (.ref s2.heap.objs.size) [u'] (λ_ H'=>∃m',m'<n/\W (i+1) m' σ8 H') I10 rfl (.cons r10 .nil) ⟨_,ys,v',rfl,rfl,hD,hz,q10⟩) (λ_ s11 zz=>by obtain⟨_,H11,I11,_,q11⟩:=zz;exact again I11 q11) λ_ _ z=>z.elim
 exact codeAny_compStart_list loop (T.self _ 0 _ _ _ st4 loop)
theorem Af(S:dW X scope cl N cap k)(hc:X.calm=true)(hi:PI X tg iter wi)(hg:∀C fp s₀ H₀,PG (X.comp scope cl N C fp s₀ H₀) tg g)
 (ht:∀C fp s₀ H₀,PTs (X.comp scope cl N C fp s₀ H₀) ifs tc) (he:∀C fp s₀ H₀,PE (X.comp scope cl N C fp s₀ H₀) elt te) (hs:∀x,Pq iter X.env x=pure x:=by intro _;rfl):
 PE X (.ListComp elt [⟨tg,iter,ifs,0⟩] scope pos) (jh k cap wi g tc te):=by
 intro Ti s σ H Q I h
 refine nR S hc hi hg ht he hs I h λD C H6 s6 m Io Cf hm q6=>?_
 exact⟨m,hm,λh' sb=>⟨.ref D,H6,Io.turned (λb o n e=>(sb.2 b n).trans e) Cf.1 Cf.2.1 Cf.2.2.2.1 Cf.2.2.2.2.1 Cf.2.2.2.2.2,rfl,q6⟩⟩
theorem dL{py spos:Pos}(hN:X.N.Nodup)(hiy:X.N[i]? =some y)(hy:Loc X.env.scope y)(S:dW X scope cl N cap k)(hc:X.calm=true)(hi:PI X tg iter wi)(hg:∀C fp s₀ H₀,PG (X.comp scope cl N C fp s₀ H₀) tg g)
 (ht:∀C fp s₀ H₀,PTs (X.comp scope cl N C fp s₀ H₀) ifs tc) (he:∀C fp s₀ H₀,PE (X.comp scope cl N C fp s₀ H₀) elt te) (hs:∀x,Pq iter X.env x=pure x:=by intro _;rfl)
 (hsw:Qx (.ListComp elt [⟨tg,iter,ifs,0⟩] scope pos) (some (.Name y py)) spos.line X.env=pure true:=by rfl)
 (hf:X.fn y=true\/X.env.scope.names.lookup y=some .local:=by first | exact .inl rfl | exact .inr rfl | assumption):
 PS X (.Assign [.Name y py] (.ListComp elt [⟨tg,iter,ifs,0⟩] scope pos) spos) (cG (jh k cap wi g tc te) (bW i)):=by
 intro Ti s σ H D I h
 rw [exec_Assign_Name_used _ _ _ _ hsw]
 refine OK (QF (OK ?_))
 refine OK (O6 (nR (use:=some (assign (.Name y py) X.env)) S hc hi hg ht he hs I h λD' C H6 s6 m Io Cf hm q6=>?_) (λ_ s' hq=>OM (OM hq)) λ_ _ e=>e)
 refine wpAny_assign_Name (pR (v:=.ref D') Io hN hiy hy rfl (λs7 I7 hsb=>?_) hf)
 obtain⟨a,sb,ha⟩:=hsb
 have hne:C≠a:=λe=>ha.elim (λq=>Cf.2.1 (e.trans q)) λq=>Cf.2.2.2.2.1 _ _ q e.symm
 refine⟨m,hm.at' λo e=>(sb.2 C hne).trans e,λh' sb'=>?_⟩
 exact⟨_,H6,I7.turned (λb o n e=>(sb'.2 b n).trans e) Cf.1 Cf.2.1 Cf.2.2.2.1 Cf.2.2.2.2.1 Cf.2.2.2.2.2,q6⟩
end
theorem ce(k:Nat)(hk:scope.kind= .function)(h1:scope.names.all (λy=>y.2 != .cell)=true)(h2:scope.names.all (λy=>y.2 != .local || scope.names.lookup y.1==some .local)=true)
 (h3:scope.names.all (λy=>y.2 != .free || X.env.scope.names.lookup y.1==some .cell || X.env.scope.names.lookup y.1==some .free)=true)
 (nd:N.Nodup) (hl:N.length=cap.length+k) (hc:(N.drop k).map some=cap.map (λi=>X.N[i]?)) (hf:(N.drop k).all (λy=>scope.names.lookup y==some .free)=true):dW X scope (pc X.env scope) N cap k:=by
 have fr:∀y:Str,(y,Pk.free)∈scope.names->X.env.scope.names.lookup y=some .cell\/X.env.scope.names.lookup y=some .free:=λy hy=>by
  have:=List.all_eq_true.mp h3 _ hy
  simpa using this
 have nc:=λy hy=>by
  have:=List.all_eq_true.mp h1 y hy
  simpa using this
 have fr2:X.Ok->∀y∈scope.names,y.2= .free->∃c,X.env.cells.lookup y.1=some c:=λok y hy e=>by
  obtain⟨n,k⟩:=y
  subst e
  exact ok.has n (fr n hy)
 refine⟨hk,λok=>wo (fr2 ok),nc,λy hy e=>?_,nd,λy hy=>?_,λok y c e=>xT scope.names [] (fr2 ok) (λ_ _ z=>by simp at z) y c e,hl,λj i y a b=>?_⟩
 ·have:=List.all_eq_true.mp h2 y hy
  simpa [e] using this
 ·have hm:(y,Pk.free)∈scope.names:=by
   have:∃k',(k'=Pk.cell\/k'=Pk.free)/\(y,k')∈(relabel scope X.env).names:=by
    rcases hy with hy | hy
    ·exact⟨_,.inl rfl,dU hy⟩
    ·exact⟨_,.inr rfl,dU hy⟩
   obtain⟨k',hk',hm⟩:=this
   obtain⟨⟨n,k⟩,hz,e⟩:=List.mem_map.mp hm
   dsimp only at e
   split at e
   ·simp_all
   ·obtain⟨rfl,rfl⟩:=Prod.mk.inj e
    rcases hk' with rfl | rfl
    ·exact absurd rfl (nc _ hz)
    ·exact hz
  have:=xU (env:=X.env) scope.names [] y (.inl hm)
  exact Option.isSome_iff_exists.mp this
 ·have hy:y∈N.drop k:=by
   refine Nc (i:=j) ?_
   rw [NS,OD]
   exact a
  have e1:X.N[i]? =some y:=by
   have:=congrArg (λl=>l[j]?) hc
   simp only [M4,NS,OD k j,a,b] at this
   exact(Option.some.inj this).symm
  have e2:scope.names.lookup y=some .free:=by
   have:=List.all_eq_true.mp hf y hy
   simpa using this
  have e3:=fr y (dU e2)
  refine⟨e1,e3.elim (λz=>.inr (.inl z)) λz=>.inr (.inr z),?_,fA e2⟩
  intro z
  have z:X.env.scope.names.lookup y=some .local:=z
  rcases e3 with e3 | e3<;>rw [e3] at z<;>cases z
def eW(J:It)(g:TG)(tc:TT)(te:TE)(cs:St)(H1:Hp)(Q:VK):Prop:=∀D,H1 D=none->∃W:Nat->Nat->St->Hp->Prop,(∃m,W 0 m cs (upd H1 D (.lst [])))/\∀i m σ1 H,W i m σ1 H->
 (J.stop i H/\Q (.ref D) H)\/(J.go i H/\∀x H',J.yld i H x H'->g x σ1 H' λσ2 H1=>tc σ2 H1 λb H2=>if b=true then te σ2 H2 λv H3=>∃ys,H3 D=some (.lst ys)/\ys.length<ON/\∃m',m'<m/\W (i+1) m' σ2 (upd H3 D (.lst (ys++[v])))
  else ∃m',m'<m/\W (i+1) m' σ2 H2)
theorem bA(h:wi σ H λJ H1=>eW J g tc te (fW k σ cap) H1 Q):jh k cap wi g tc te σ H Q:=h
def CW(xs:List V)(H1:Hp)(D:Addr)(Pv:Nat->List V->St->Hp->Prop)(i m:Nat)(σ1:St)(H:Hp):Prop:=m=xs.length-i/\i<=xs.length/\Same H1 H/\∃ys,H D=some (.lst ys)/\ys.length<=i/\Pv i ys σ1 H
def Put(xs:List V)(H1:Hp)(D:Addr)(Pv:Nat->List V->St->Hp->Prop)(i:Nat)(σ2:St)(v:V)(H3:Hp):Prop:=∃ys,H3 D=some (.lst ys)/\ys.length<ON/\∃m',m'<xs.length-i/\CW xs H1 D Pv (i+1) m' σ2 (upd H3 D (.lst (ys++[v])))
def kq(xs:List V)(H1:Hp)(D:Addr)(Pv:Nat->List V->St->Hp->Prop)(i:Nat)(σ2:St)(H2:Hp):Prop:=∃m',m'<xs.length-i/\CW xs H1 D Pv (i+1) m' σ2 H2
structure At(xs:List V)(H1:Hp)(D:Addr)(i:Nat)(ys:List V)(H:Hp):Prop where
 new:H1 D=none
 lt:i<xs.length
 sz:xs.length<ON
 same:Same H1 H
 lst:H D=some (.lst ys)
 le:ys.length<=i
theorem At.put(a:At xs H1 D i ys H)(g:Same H H4)(p:∀H5,Mu H4 D (.lst (ys++[v])) H5->Pv (i+1) (ys++[v]) σ2 H5):Put xs H1 D Pv i σ2 v H4:=
 ⟨ys,g _ _ a.lst,by have:=a.le;have:=a.lt;have:=a.sz;lia,xs.length-(i+1),by have:=a.lt;lia,rfl,a.lt,Mu.mk'.same (a.same.trans g) a.new,_,aC,by have:=a.le;rw [MW,ND];lia,p _ Mu.mk'⟩
theorem HW(O:ko J xs ok)(hok:∀H,Same H1 H->ok H)(sz:xs.length<ON)(Pv:Nat->List V->St->Hp->Prop)
 (h0:∀H',Same H1 H'->Pv 0 [] cs H')
 (hs:∀D i x ys σ1 H',xs[i]? =some x->At xs H1 D i ys H'->Pv i ys σ1 H'->g x σ1 H' λσ2 H2=>tc σ2 H2 λb H3=>if b=true then te σ2 H3 λv H4=>Put xs H1 D Pv i σ2 v H4 else kq xs H1 D Pv i σ2 H3)
 (hd:∀D ys σ1 H',H1 D=none->Same H1 H'->H' D=some (.lst ys)->ys.length<=xs.length->Pv xs.length ys σ1 H'->Q (.ref D) H'):eW J g tc te cs H1 Q:=by
 intro D hD
 refine⟨CW xs H1 D Pv,⟨_,rfl,Nk _,aZ hD _,[],aC,Nat.le_refl _,h0 _ (aZ hD _)⟩,?_⟩
 rintro i m σ1 H ⟨rfl,hi,sm,ys,hy,ly,p⟩
 by_cases hlt:i<xs.length
 ·refine .inr ⟨O.go i _ (hok _ sm) hlt,λx H' y=>?_⟩
  obtain⟨rfl,hx⟩:=O.yld i _ x H' (hok _ sm) hlt y
  exact hs D i x ys σ1 H' hx ⟨hD,hlt,sz,sm,hy,ly⟩ p
 ·have e:i=xs.length:=by lia
  subst e
  exact .inl ⟨O.stop _ _ (hok _ sm) (Nat.le_refl _),hd D ys σ1 _ hD sm hy ly p⟩
theorem jJ{K:N5}(ha:H1 a=some (.lst xs))(sz:xs.length<ON)(Pv:Nat->List V->St->Hp->Prop)
 (h0:∀H',Same H1 H'->Pv 0 [] cs H')
 (hs:∀D i x ys σ1 H',xs[i]? =some x->At xs H1 D i ys H'->Pv i ys σ1 H'->g x σ1 H' λσ2 H2=>tc σ2 H2 λb H3=>if b=true then te σ2 H3 λv H4=>Put xs H1 D Pv i σ2 v H4 else kq xs H1 D Pv i σ2 H3)
 (hd:∀D ys σ1 H',H1 D=none->Same H1 H'->H' D=some (.lst ys)->ys.length<=xs.length->Pv xs.length ys σ1 H'->Q (.ref D) H'):eW (Itl K a) g tc te cs H1 Q:=
 HW over_list (λH g=>g _ _ ha) sz Pv h0 hs hd
def nw(H H':Hp):Hp:=λa=>match H a with | none=>H' a | some _=>none
theorem iH{H H':Hp}:Same (nw H H') H':=λa u e=>by
 unfold nw at e
 split at e
 ·exact e
 ·cases e
theorem cq{H H':Hp}{a:Addr}{u:HO}(h:H a=none)(h':H' a=some u):nw H H' a=some u:=by
 unfold nw;rw [h];exact h'
theorem eX{H H':Hp}{a:Addr}{u:HO}(e:nw H H' a=some u):H a=none/\H' a=some u:=by
 unfold nw at e
 split at e
 ·rename_i h;exact⟨h,e⟩
 ·cases e
theorem uK{H0 H H' H'':Hp}(g:Same H0 H)(g':Same H' H''):Same (nw H H') (nw H0 H''):=λa u e=>by
 obtain⟨h1,h2⟩:=eX e
 refine cq ?_ (g' _ _ h2)
 cases h:H0 a with
 | none=>rfl
 | some v=>rw [g _ _ h] at h1;cases h1
def dA(D:Addr)(H:Hp):Hp:=λc=>if c=D then none else H c
theorem fI{D c:Addr}{H:Hp}{u:HO}(n:c≠D)(h:H c=some u):dA D H c=some u:=by unfold dA;rw [Tf n];exact h
theorem eB{D c:Addr}{H:Hp}{u:HO}(h:dA D H c=some u):c≠D/\H c=some u:=by
 unfold dA at h
 by_cases e:c=D
 ·rw [Th e] at h;cases h
 ·rw [Tf e] at h;exact⟨e,h⟩
theorem ji{D:Addr}{H:Hp}:Same (dA D H) H:=λc u h=>(eB h).2
theorem kr{D:Addr}{H H':Hp}(g:Same H H'):Same (dA D H) (dA D H'):=λc u h=>fI (eB h).1 (g _ _ (eB h).2)
theorem uL{D:Addr}{H H':Hp}{o:HO}(mu:Mu H D o H'):Same (dA D H) (dA D H'):=λc u h=>fI (eB h).1 (mu.old (eB h).2 (eB h).1)
theorem ku{J:It}{xs:List V}{ok:Hp->Prop}(O:ko J xs ok){g:TG}{tc:TT}{te:TE}{cs:St}{H1:Hp}{Q:VK}(hok:∀H,Same H1 H->ok H)(sz:xs.length<ON)(Pv:Addr->Nat->List V->St->Hp->Prop)
 (h0:∀D H',H1 D=none->Same H1 H'->H' D=some (.lst [])->Pv D 0 [] cs H')
 (hs:∀D i x ys σ1 H',xs[i]? =some x->At xs H1 D i ys H'->Pv D i ys σ1 H'->g x σ1 H' λσ2 H2=>tc σ2 H2 λb H3=>if b=true then te σ2 H3 λv H4=>Put xs H1 D (Pv D) i σ2 v H4 else kq xs H1 D (Pv D) i σ2 H3)
 (hd:∀D ys σ1 H',H1 D=none->Same H1 H'->H' D=some (.lst ys)->ys.length<=xs.length->Pv D xs.length ys σ1 H'->Q (.ref D) H'):eW J g tc te cs H1 Q:=by
 intro D hD
 refine⟨CW xs H1 D (Pv D),⟨_,rfl,Nk _,aZ hD _,[],aC,Nat.le_refl _,h0 D _ hD (aZ hD _) aC⟩,?_⟩
 rintro i m σ1 H ⟨rfl,hi,sm,ys,hy,ly,p⟩
 by_cases hlt:i<xs.length
 ·refine .inr ⟨O.go i _ (hok _ sm) hlt,λx H' y=>?_⟩
  obtain⟨rfl,hx⟩:=O.yld i _ x H' (hok _ sm) hlt y
  exact hs D i x ys σ1 H' hx ⟨hD,hlt,sz,sm,hy,ly⟩ p
 ·have e:i=xs.length:=by lia
  subst e
  exact .inl ⟨O.stop _ _ (hok _ sm) (Nat.le_refl _),hd D ys σ1 _ hD sm hy ly p⟩
theorem iW{K:N5}{a:Addr}{xs:List V}{g:TG}{tc:TT}{te:TE}{cs:St}{H1:Hp}{Q:VK}(ha:H1 a=some (.lst xs))(sz:xs.length<ON)(Pv:Addr->Nat->List V->St->Hp->Prop)
 (h0:∀D H',H1 D=none->Same H1 H'->H' D=some (.lst [])->Pv D 0 [] cs H')
 (hs:∀D i x ys σ1 H',xs[i]? =some x->At xs H1 D i ys H'->Pv D i ys σ1 H'->g x σ1 H' λσ2 H2=>tc σ2 H2 λb H3=>if b=true then te σ2 H3 λv H4=>Put xs H1 D (Pv D) i σ2 v H4 else kq xs H1 D (Pv D) i σ2 H3)
 (hd:∀D ys σ1 H',H1 D=none->Same H1 H'->H' D=some (.lst ys)->ys.length<=xs.length->Pv D xs.length ys σ1 H'->Q (.ref D) H'):eW (Itl K a) g tc te cs H1 Q:=
 ku over_list (λH g=>g _ _ ha) sz Pv h0 hs hd
theorem rM{n:Nat}{g:TG}{tc:TT}{te:TE}{cs:St}{H1:Hp}{Q:VK}(sz:n<100000)(Pv:Addr->Nat->List V->St->Hp->Prop)
 (h0:∀D H',H1 D=none->Same H1 H'->H' D=some (.lst [])->Pv D 0 [] cs H')
 (hs:∀D i ys σ1 H',i<n->At ((List.range n).map λ(k:Nat)=>V.int (0+k)) H1 D i ys H'->Pv D i ys σ1 H'->g (.int (i:Nat)) σ1 H' λσ2 H2=>tc σ2 H2 λb H3=>if b=true then te σ2 H3 λv H4=>Put ((List.range n).map λ(k:Nat)=>V.int (0+k)) H1 D (Pv D) i σ2 v H4 else kq ((List.range n).map λ(k:Nat)=>V.int (0+k)) H1 D (Pv D) i σ2 H3)
 (hd:∀D ys σ1 H',H1 D=none->Same H1 H'->H' D=some (.lst ys)->ys.length<=n->Pv D n ys σ1 H'->Q (.ref D) H'):eW (Itr 0 n) g tc te cs H1 Q:=by
 have el:((List.range n).map λ(k:Nat)=>V.int (0+k)).length=n:=by rw [MQ,Nh]
 refine ku (wn 0 n) (λ_ _=>trivial) (by rw [el];unfold ON;lia) Pv h0 (λD i x ys σ1 H' hx a p=>?_) (λD ys σ1 H' h1 h2 h3 h4 h5=>hd D ys σ1 H' h1 h2 h3 (by rw [el] at h4;exact h4) (by rw [el] at h5;exact h5))
 have hi:i<n:=by have:=a.lt;rw [el] at this;exact this
 have ex:x= .int (i:Nat):=by
  rw [M4,List.getElem?_range hi] at hx
  simp at hx
  exact hx.symm
 rw [ex]
 exact hs D i ys σ1 H' hi a p
section
variable{X:Cx}
def uM:V->List V->Hp->VK->Prop:=λx vs H Q=>∃l xs i y,x= .ref l/\vs= [.int i]/\H l=some (.lst xs)/\0<=i/\i<xs.length/\xs.length<100000/\xs[i.toNat]? =some y/\∀H',Mu H l (.lst (xs.eraseIdx i.toNat)) H'->Q y H'
theorem xX:MtR X "list.pop" uM:=by
 intro Ti s σ H x vs v us Q I rx rv h
 obtain⟨l,xs,i,y,e1,e2,hH,h0,h1,h2,hy,q⟩:=h
 exact zT Ti s σ H x vs v us Q I rx rv ⟨l,xs,i,i.toNat,y,e1,e2,hH,by lia,by lia,RM h0 h1,hy,q _ .mk'⟩
end
theorem Ah{f:Str}:List.lookup f ([]:List (Str×V))=none:=rfl
theorem Ai{g:Str}{v:V}:List.lookup f ((g,v)::r)=if f=g then some v else List.lookup f r:=by
 by_cases h:f=g
 ·have hb:=beq_iff_eq.mpr h
  simp only [List.lookup,hb,Th h]
 ·have hb:=beq_eq_false_iff_ne.mpr h
  simp only [List.lookup,hb,Tf h]
theorem FH{f:Str}{v:V}:bV f v []= [(f,v)]:=rfl
theorem FI{f g:Str}{v x:V}{r:List (Str×V)}:bV f v ((g,x)::r)=if g=f then (g,v)::r else (g,x)::bV f v r:=rfl
structure MethAt(K:N5)(C:Addr)(m q:Str)(st:Stmt)(ps:List Str):Prop where
 ex:∃f fd,mj K C m f/\Fun K m q st f fd/\Binds K fd ps []
structure OkM(P:OR)(w:OV)(K:N5)(mg:Str->Option OL)(base:Heap)(n:Nat)(C:Addr)(m:Str)(ps:List Str)(sp:Sp):Prop where
 ex:∃f fd,mj K C m f/\Binds K fd ps []/\eu P w K mg base CX0 n f fd ps sp
 cl:Cls K C
structure MakeAt(K:N5)(mg:Str->Option OL)(x:Str)(C:Addr)(q:Str)(st:Stmt)(ps:List Str):Prop where
 ex:∃f fd,mg x=some (.ref C)/\Mk K C f/\Fun K "__init__" q st f fd/\Binds K fd ps []
structure OkC(P:OR)(w:OV)(K:N5)(mg:Str->Option OL)(base:Heap)(n:Nat)(x:Str)(C:Addr)(ps:List Str)(sp:Sp):Prop where
 ex:∃f fd,mg x=some (.ref C)/\Mk K C f/\Binds K fd ps []/\eu P w K mg base CX0 n f fd ps sp
section
variable{P:OR}{w:OV}{K:N5}{mg:Str->Option OL}{base:Heap}{x m q:Str}{st:Stmt}{N ps:List Str}{k:Nat}{sp:Sp}{C:Addr}
theorem MethAt.ok(D:MethAt K C m q st ps)(cl:Cls K C)(S:au N ps (ai st))(len:∀vs H Q E,sp vs H Q E->vs.length=ps.length)
 (hbody:∀(f:Addr) (cdv:OL) (A:OY) (outer:List Env) (s:OO) (H:Hp) (vs:List V) (Q:VK) (E:XK),Room k (A.deeper (Pl q (ai st) s.heap.objs.size f cdv))->sp vs H Q E->
  ∃t,PSs (eT CX0 P w K mg base N q (ai st) f cdv A outer s H E).nox (b7 st) t/\t {nx:=λ_ H'=>Q .non H',rt:=Q} (start N vs) H):OkM P w K mg base (k+1) C m ps sp:=by
 obtain⟨f,fd,hm,F,hb⟩:=D.ex
 exact⟨⟨f,fd,hm,hb,F.ok S len (hbody f)⟩,cl⟩
theorem MakeAt.ok(D:MakeAt K mg x C q st ps)(S:au N ps (ai st))(len:∀vs H Q E,sp vs H Q E->vs.length=ps.length)
 (hbody:∀(f:Addr) (cdv:OL) (A:OY) (outer:List Env) (s:OO) (H:Hp) (vs:List V) (Q:VK) (E:XK),Room k (A.deeper (Pl q (ai st) s.heap.objs.size f cdv))->sp vs H Q E->
  ∃t,PSs (eT CX0 P w K mg base N q (ai st) f cdv A outer s H E).nox (b7 st) t/\t {nx:=λ_ H'=>Q .non H',rt:=Q} (start N vs) H):OkC P w K mg base (k+1) x C ps sp:=by
 obtain⟨f,fd,hg,hm,F,hb⟩:=D.ex
 exact⟨f,fd,hg,hm,hb,F.ok S len (hbody f)⟩
end
def BQ(C:Addr)(f:Str)(ta:TE):TE:=λσ H Q=>ta σ H λx H1=>∃a dx fs v,x= .ref a/\H1 a=some (.ins C dx fs)/\fs.lookup f=some v/\Q v H1
def qS(C:Addr)(f:Str)(ta tv:TE):TS:=λD σ H=>tv σ H λy H1=>ta σ H1 λx H2=>∃a dx fs,x= .ref a/\H2 a=some (.ins C dx fs)/\fs.length<1000/\∀H',Mu H2 a (.ins C dx (bV f y fs)) H'->D.nx σ H'
def nS(C:Addr)(m:Str)(sp:Sp)(ta:TE)(t:TA):TE:=λσ H Q=>ta σ H λx H1=>∃a dx fs,x= .ref a/\H1 a=some (.ins C dx fs)/\fs.lookup m=none/\t σ H1 λvs H2=>sp (x::vs) H2 Q E0
def rN(C:Addr)(sp:Sp)(t:TA):TE:=λσ H Q=>t σ H λvs H1=>∀x dx H',H1 x=none->H1 dx=none->Same H1 H'->H' x=some (.ins C dx [])->H' dx=some (.own x)->sp (.ref x::vs) H' (λv H2=>v= .non/\Q (.ref x) H2) E0
section
variable{X:Cx}{k n:Nat}{ps:List Str}{sp:Sp}{x m f:Str}{p pos pos' apos:Pos}{o e value:Expr}{es:List Expr}{t:TA}{ta tv:TE}{C:Addr}
theorem aj(c:Cls X.K C)(nn:NoAttr X.K C f)(he:PE X e ta)(hb:Pe e f X.env (eval e X.env)=eval e X.env:=by rfl):PE X (.Attribute e f pos) (BQ C f ta):=by
 intro Ti s σ H Q I h
 refine Ck hb (thn (he Ti s σ H _ I h) λu s1 z=>?_)
 obtain⟨x,H1,I1,rx,a,dx,fs,v,ex,ea,l,q⟩:=z
 subst ex
 obtain rfl:u=OL.ref a:=rx
 exact vW I1 ea c nn l λu' s2 I2 ru=>⟨v,H1,I2,ru,q⟩
theorem aD(c:Cls X.K C)(nn:NoAttr X.K C f)(ha:PE X o ta)(hv:PE X value tv)(hs:Qx value (some (.Attribute o f pos')) pos.line X.env=pure false:=by rfl):PS X (.Assign [.Attribute o f pos'] value pos) (qS C f ta tv):=by
 intro Ti s σ H D I h
 refine plainObj_wpAny_Assign_Attribute (thn (hv Ti s σ H _ I h) λu s1 ⟨y,H1,I1,ry,q⟩=>thn (ha Ti s1 σ H1 _ I1 q) λov s2 z=>?_) hs
 obtain⟨x,H2,I2,rx,a,dx,fs,ex,ea,l,q2⟩:=z
 subst ex
 obtain rfl:ov=OL.ref a:=rx
 exact vX I2 ea c nn l ry λs3 I3=>⟨σ,_,I3,q2 _ .mk'⟩
theorem bj{pl:Sem Bool}(G:OkM X.prog X.w X.K X.mg X.base k C m ps sp)(hr:Room n X.A)(he:PE X o ta)(ha:PA X (e::es) t)(hk:k<=n:=by lia)(hs:(e::es).all bt=true:=by rfl)
 (ht:eval (.Call (.Attribute o m apos) (e::es) [] pos) X.env=(do
  let ov <-eval o X.env
  QE apos.atName
  let (f,first) <-holding [ov] (PZ ov m pl)
  Q8 pos f first (PP pos (OU (e::es) X.env)) (P0 pos (Ps [] X.env))):=by rfl):PE X (.Call (.Attribute o m apos) (e::es) [] pos) (nS C m sp ta t):=by
 obtain⟨⟨f,fd,hm,hb,F⟩,cl⟩:=G
 intro Ti s σ H Q I h
 apply Cm (dvs:=[]) he cl hm F (hr.mono hk) hb .nil fT ha (dy (Bool.and_eq_true_iff.mp hs).1) (c9 (Bool.and_eq_true_iff.mp hs).2) ht Ti s σ H Q I
 have e:∀y,(λvs H1=>sp (y::(vs++[])) H1 Q E0)=λvs H1=>sp (y::vs) H1 Q E0:=λy=>by funext vs H1;rw [Nv]
 show ta σ H λy H1=>∃a dx fs,y= .ref a/\H1 a=some (.ins C dx fs)/\fs.lookup m=none/\t σ H1 λvs H2=>sp (y::(vs++[])) H2 Q E0
 simp only [e]
 exact h
theorem aW{pl:Sem Bool}(G:OkM X.prog X.w X.K X.mg X.base k C m ps sp)(hr:Room n X.A)(he:PE X o ta)(hk:k<=n:=by lia)
 (ht:eval (.Call (.Attribute o m apos) [] [] pos) X.env=(do
  let ov <-eval o X.env
  QE apos.atName
  let (f,first) <-holding [ov] (PZ ov m pl)
  Q8 pos f first (PP pos (OU [] X.env)) (P0 pos (Ps [] X.env))):=by rfl):PE X (.Call (.Attribute o m apos) [] [] pos) (nS C m sp ta fF):=by
 obtain⟨⟨f,fd,hm,hb,F⟩,cl⟩:=G
 exact zL (dvs:=[]) he cl hm F (hr.mono hk) hb .nil fT ht
theorem rO{Q:VK}{vs:List V}(h:∀x dx H',H1 x=none->H1 dx=none->Same H1 H'->H' x=some (.ins C dx [])->H' dx=some (.own x)->sp (.ref x::vs) H' (λv H2=>v= .non/\Q (.ref x) H2) E0):
 ∀x dx,H1 x=none->H1 dx=none->dx≠x->sp (.ref x::(vs++[])) (upd (upd H1 dx (.own x)) x (.ins C dx [])) (λv H2=>v= .non/\Q (.ref x) H2) E0:=λx dx hx hdx ne=>by
 rw [Nv]
 exact h x dx _ hx hdx (λc u hc=>by rw [aI (av hc hx),aI (av hc hdx)];exact hc) aC (by rw [aI ne,aC])
theorem fJ(G:OkC X.prog X.w X.K X.mg X.base k x C ps sp)(hr:Room n X.A)(hg:Gl X x)(ha:PA X (e::es) t)(hk:k+1<=n:=by lia)(hdb:(x==("__debug__":Str))=false:=by decide)(hs:(e::es).all bt=true:=by rfl):
 PE X (.Call (.Name x p) (e::es) [] pos) (rN C sp t):=by
 obtain⟨f,fd,hm,M,hb,F⟩:=G.ex
 intro Ti s σ H Q I h
 refine PN (ja I hg hm ?_ hdb)
 refine N4 I.ok.mod.kin M.kp (thn (ha pos Ti s σ H _ I h) λus s1 ⟨vs,H1,I1,r,q⟩=>⟨I1.kIn,?_⟩) (dy (Bool.and_eq_true_iff.mp hs).1) (c9 (Bool.and_eq_true_iff.mp hs).2)
 exact rA (dvs:=[]) (ds:=[]) M F (hr.mono hk) hb .nil fT I1 r (rO q)
theorem kx(G:OkC X.prog X.w X.K X.mg X.base k x C ps sp)(hr:Room n X.A)(hg:Gl X x)(hk:k+1<=n:=by lia)(hdb:(x==("__debug__":Str))=false:=by decide):
 PE X (.Call (.Name x p) [] [] pos) (rN C sp fF):=by
 obtain⟨f,fd,hm,M,hb,F⟩:=G.ex
 intro Ti s σ H Q I h
 refine PN (ja I hg hm ?_ hdb)
 exact Oe I.kIn M.kp (rA (dvs:=[]) (ds:=[]) (us:=[]) M F (hr.mono hk) hb .nil fT I .nil (rO h))
end
theorem kz:∀{kvs:List (Key×V)} {vs:List (Key×OL)},KV kvs vs->∀{i:Nat} {k:Key} {x:V},kvs[i]? =some (k,x)->∃u,vs[i]? =some (k,u)/\RelV x u
 | [],_,_,i,k,x,e=>by simp at e
 | p::kvs,[],r,i,k,x,e=>by cases r
 | p::kvs,(k',u)::vs,r,i,k,x,e=>by
  cases r with
  | cons h r=>
   cases i with
   | zero=>
    simp at e
    subst e
    have h1:k=k':=h.1
    exact⟨u,by simp [h1],h.2⟩
   | succ i=>simpa using kz r (i:=i) (by simpa using e)
def Itv(d:Addr)(o:Obj)(kvs:List (Key×V)):It:=
 ⟨λi H=>i<kvs.length/\H d=some (.frz o (.dK kvs)),λi H x H'=>H'=H/\∃k,kvs[i]? =some (k,x),λi H=>kvs.length<=i/\H d=some (.frz o (.dK kvs))⟩
def Iti(d:Addr)(o:Obj)(kvs:List (Key×V)):It:=
 ⟨λi H=>i<kvs.length/\H d=some (.frz o (.dK kvs)),λi H v H'=>∃p k x,v= .ref p/\H p=none/\Same H H'/\H' p=some (.tup [kV k,x])/\kvs[i]? =some (k,x),λi H=>kvs.length<=i/\H d=some (.frz o (.dK kvs))⟩
theorem xY{K:N5}(d it:Addr)(o:Obj)(kvs:List (Key×V))(vs:List (Key×OL))(ep:Nat)(hne:d≠it)(rel:KV kvs vs)(D0:∀h:Heap,h.get? d=some o->h.DictAt (aN P w) d vs ep):
 j8 P w K tg (Itv d o kvs) [it] it (λi h=>h.IsValIter it d i vs.length ep) where
 mem:=Nb _
 obj:=λi h st b hb=>by
  obtain rfl:=List.mem_singleton.mp hb
  obtain⟨o,e,c,dd⟩:=st
  exact⟨o,e,λv z=>by rw [dd] at z;cases z⟩
 keep:=λi h h' st k=>st.at λo e=>k it (Nb _) o e
 item:=by
  intro X hP hw hK hc i Ti s σ H E I hf st hg
  subst hP hw hK
  obtain⟨hi,hd⟩:=hg
  obtain⟨f0,f1,f2,f3,f4,f5⟩:=hf it (Nb _)
  obtain⟨ho,_⟩:=(I.hok d _ hd)
  obtain⟨u,hx,ru⟩:=kz rel (k:=kvs[i].1) (x:=kvs[i].2) (MR hi)
  refine wpAny_pyNext_values_item st (D0 _ ho) hx λh' st' sb=>?_
  have I1:Inv X Ti σ H {s with heap:=h'}:=I.turned (λb o hb e=>(sb.2 b hb).trans e) f0 f1 f3 f4 f5
  obtain⟨oi,e,c,dd⟩:=id st'
  exact⟨u,rfl,qO (s:={s with heap:=h'}) e c dd (by decide) ⟨kvs[i].2,H,I1,ru,⟨rfl,kvs[i].1,MR hi⟩,st',λb hb=>(hf b hb).1⟩⟩
 done := by
   intro X hP hw hK hc i Ti s σ H E I hf st hg
   subst hP hw hK
   obtain⟨hi,hd⟩:=hg
   obtain⟨f0,f1,f2,f3,f4,f5⟩:=hf it (Nb _)
   obtain⟨ho,_⟩:=(I.hok d _ hd)
   have hl:=rel.length
   exact wpAny_pyNext_values_end (I.ok.hd hc) st (D0 _ ho) (NL (by lia)) λh' eb=>⟨rfl,I.turned (λb o hb e=>eb b o hb e) f0 f1 f3 f4 f5⟩
 self:=λ_ _ _ _ _ st h=>wpAny_pyIter_valiter st h
theorem wu{K:N5}(d it:Addr)(o:Obj)(kvs:List (Key×V))(vs:List (Key×OL))(ep:Nat)(hne:d≠it)(rel:KV kvs vs)(D0:∀h:Heap,h.get? d=some o->h.DictAt (aN P w) d vs ep):
 j8 P w K (.Tuple elts kk tpos) (Iti d o kvs) [it] it (λi h=>∃ok ov,IsItemIter h it d i vs.length ep ok ov) where
 mem:=Nb _
 obj:=λi h st b hb=>by
  obtain rfl:=List.mem_singleton.mp hb
  obtain⟨ok,ov,e⟩:=st
  exact⟨_,e,λv z=>by
   have z':=z
   cases z'⟩
 keep:=λi h h' y k=>by obtain⟨ok,ov,e⟩:=y;exact⟨ok,ov,k it (Nb _) _ e⟩
 item:=by
  intro X hP hw hK hc i Ti s σ H E I hf st hg
  obtain⟨hi,hd⟩:=hg
  obtain⟨ok,ov,he⟩:=st
  obtain⟨ho,_⟩:=(I.hok d _ hd)
  obtain⟨u,hx,ru⟩:=kz rel (k:=kvs[i].1) (x:=kvs[i].2) (MR hi)
  refine wpAny_pyNext_items_item he (D0 _ ho) hx λkey h' hkey hout hT hsz hk=>?_
  refine⟨_,rfl,wpAny_letOwnedTupleGo_items hout λh'' he'' hs=>?_⟩
  have helt:=M3 he
  have I1:Inv X Ti σ (upd H s.heap.objs.size (.tup [kV kvs[i].1,kvs[i].2])) {s with heap:=s.heap.push {cls:=.type "tuple",data:=.seq #[key,u]},toks:=s.toks}:=
   I.laid (λb o q=>MO _ q) (Nat.le_refl _) ⟨by show 2<=ON;decide,[key,u],.cons (rL hkey) (.cons ru .nil),⟨_,MS _ rfl,rfl,_,rfl⟩⟩
  have hf':∀b∈[it],eQ X Ti (upd H s.heap.objs.size (.tup [kV kvs[i].1,kvs[i].2])) b:=λb hb=>by
   obtain rfl:=List.mem_singleton.mp hb
   refine⟨?_,(hf b (Nb _)).2⟩
   rw [aI (Nf helt)]
   exact(hf b (Nb _)).1
  have I2:Inv X Ti σ (upd H s.heap.objs.size (.tup [kV kvs[i].1,kvs[i].2])) {s with heap:=h'',toks:=s.toks}:=I1.turnedL (λb o hb q=>by
   have n1:b≠it:=λz=>hb (by simp [z])
   apply (hs.2 b n1).trans
   by_cases hbT:b=s.heap.objs.size
   ·subst hbT
    have q':(s.heap.push {cls:=.type "tuple",data:=.seq #[key,u]}).get? s.heap.objs.size=some o:=q
    rw [MS _ rfl] at q'
    cases q'
    exact hT
   ·have q':(s.heap.push {cls:=.type "tuple",data:=.seq #[key,u]}).get? b=some o:=q
    rw [NG _ _ _ hbT] at q'
    exact hk b o n1 q') hf'
  exact⟨.ref s.heap.objs.size,_,I2,rfl,⟨_,kvs[i].1,kvs[i].2,rfl,I.hok.fresh (Nat.le_refl _),aZ (I.hok.fresh (Nat.le_refl _)) _,aC,MR hi⟩,⟨_,_,he''⟩,λb hb=>(hf' b hb).1⟩
 done := by
   intro X hP hw hK hc i Ti s σ H E I hf st hg
   obtain⟨hi,hd⟩:=hg
   obtain⟨ok,ov,he⟩:=st
   obtain⟨f0,f1,f2,f3,f4,f5⟩:=hf it (Nb _)
   obtain⟨ho,_⟩:=(I.hok d _ hd)
   have hl:=rel.length
   exact wpAny_pyNext_items_end (I.ok.hd hc) he (D0 _ ho) (NL (by lia)) λh' eb=>⟨rfl,I.turned (λb o hb e=>eb b o hb e) f0 f1 f3 f4 f5⟩
 self:=λ_ _ _ _ _ st h=>by
  obtain⟨ok,ov,he⟩:=st
  exact PySem.W.kcp_self he h
def wv(nf:Addr->Prop)(tl:TE):TI:=λσ H R=>tl σ H λx H1=>∃d kvs,x= .ref d/\H1 d=some (.dK kvs)/\∀o,nf d->R (Itv d o kvs) (upd H1 d (.frz o (.dK kvs)))
def xZ(nf:Addr->Prop)(tl:TE):TI:=λσ H R=>tl σ H λx H1=>∃d kvs,x= .ref d/\H1 d=some (.dK kvs)/\∀o,nf d->R (Iti d o kvs) (upd H1 d (.frz o (.dK kvs)))
theorem uN{tg:Expr}{apos cpos:Pos}(hl:PE X l tl)(hbase:Pe l "values" X.env (eval l X.env)=eval l X.env:=by rfl)(hline:(apos.endLine==cpos.line)=true:=by rfl):
 PI X tg (.Call (.Attribute l "values" apos) [] [] cpos) (wv (mw X) tl):=by
 intro Ti s σ H R I h
 refine Pm hbase hline (thn (hl Ti s σ H _ I h) λv s1 y=>?_)
 obtain⟨x,H1,I1,r1,q1⟩:=y
 obtain⟨d,kvs,e,hd,q⟩:=q1
 subst e
 cases r1
 obtain⟨z1,z2,vs,rel,o,es,ep,ho,r⟩:=eV I1.hok hd
 have D0:∀h:Heap,h.get? d=some o->h.DictAt (aN X.prog X.w) d vs ep:=λh e=>⟨o,es,e,r⟩
 have nf:=I1.nofz hd
 have If:Inv X Ti σ (upd H1 d (.frz o (.dK kvs))) s1:=I1.retag hd (λ_ z=>by cases z) nf (λ_ z=>by cases z) (λ_ z=>by cases z) ⟨ho,z1,z2,vs,rel,o,es,ep,ho,r⟩
 obtain⟨h1,h2⟩:=gR I1 (show RelV (.ref d) (.ref d) from rfl) (.inr (.inr (.inl ⟨rfl,.inl ⟨_,hd⟩⟩)))
 refine⟨"dict","dict.values",Pg,PB,QC,h1,h2,Calls.callWith_builtin rfl (PH ?_)⟩
 refine PY PB h1 Qu (Qn _) (meets_dict_values (aN X.prog X.w) d z2) ⟨⟨vs,(D0 _ ho).dictOf⟩,?_⟩
 have I2:=If.kept (t':=s1.toks) (h':=s1.heap.push {cls:=.type "dict_values",data:=.fields #[.ref d]}) λb o e=>MO _ e
 have ho2:(s1.heap.push {cls:=.type "dict_values",data:=.fields #[.ref d]}).get? d=some o:=MO _ ho
 refine wpAny_pyIter_values ⟨_,MS _ rfl,rfl,rfl⟩ (D0 _ ho2) ?_
 refine⟨_,[_],_,_,_,rfl,I2.kept λb o e=>MO _ e,xY d _ o kvs vs ep (Nf (M3 ho2)) rel D0,⟨_,MS _ rfl,rfl,rfl⟩,λb hb=>?_,q o nf⟩
 obtain rfl:=List.mem_singleton.mp hb
 exact I2.fpOk (Nat.le_refl _) (I2.hok.fresh (Nat.le_refl _))
theorem Aj{elts:List Expr}{kk:Nat}{tpos:Pos}{apos cpos:Pos}(hl:PE X l tl)(hbase:Pe l "items" X.env (eval l X.env)=eval l X.env:=by rfl)(hline:(apos.endLine==cpos.line)=true:=by rfl):
 PI X (.Tuple elts kk tpos) (.Call (.Attribute l "items" apos) [] [] cpos) (xZ (mw X) tl):=by
 intro Ti s σ H R I h
 refine Pm hbase hline (thn (hl Ti s σ H _ I h) λv s1 y=>?_)
 obtain⟨x,H1,I1,r1,q1⟩:=y
 obtain⟨d,kvs,e,hd,q⟩:=q1
 subst e
 cases r1
 obtain⟨z1,z2,vs,rel,o,es,ep,ho,r⟩:=eV I1.hok hd
 have D0:∀h:Heap,h.get? d=some o->h.DictAt (aN X.prog X.w) d vs ep:=λh e=>⟨o,es,e,r⟩
 have nf:=I1.nofz hd
 have If:Inv X Ti σ (upd H1 d (.frz o (.dK kvs))) s1:=I1.retag hd (λ_ z=>by cases z) nf (λ_ z=>by cases z) (λ_ z=>by cases z) ⟨ho,z1,z2,vs,rel,o,es,ep,ho,r⟩
 obtain⟨h1,h2⟩:=gR I1 (show RelV (.ref d) (.ref d) from rfl) (.inr (.inr (.inl ⟨rfl,.inl ⟨_,hd⟩⟩)))
 refine⟨"dict","dict.items",Pg,PJ,QM,h1,h2,Calls.callWith_builtin rfl (PH ?_)⟩
 refine PY PJ h1 QD (Qw _) (meets_dict_items (aN X.prog X.w) d z2) ⟨⟨vs,(D0 _ ho).dictOf⟩,?_⟩
 have I2:=If.kept (t':=s1.toks) (h':=s1.heap.push {cls:=.type "dict_items",data:=.fields #[.ref d]}) λb o e=>MO _ e
 have ho2:(s1.heap.push {cls:=.type "dict_items",data:=.fields #[.ref d]}).get? d=some o:=MO _ ho
 refine wpAny_pyIter_items ⟨_,MS _ rfl,rfl,rfl⟩ (D0 _ ho2) ?_
 refine⟨_,[_],_,_,_,rfl,I2.kept λb o e=>MO _ e,wu d _ o kvs vs ep (Nf (M3 ho2)) rel D0,⟨_,_,MS _ rfl⟩,λb hb=>?_,q o nf⟩
 obtain rfl:=List.mem_singleton.mp hb
 exact I2.fpOk (Nat.le_refl _) (I2.hok.fresh (Nat.le_refl _))
def FJ(nf:Addr->Prop)(t:TE):TE:=λσ H Q=>t σ H λv H'=>∃d o kvs,nf d/\H' d=some (.frz o (.dK kvs))/\Q v (upd H' d (.dK kvs))
theorem rP(h:PE X e t):PE X e (FJ (mw X) t):=by
 intro Ti s σ H Q I hw
 refine thn (h Ti s σ H _ I hw) λu s1 y=>?_
 obtain⟨v,H',I',r',d,o,kvs,nf,hd,q⟩:=y
 obtain⟨_,z⟩:=(I'.hok d _ hd)
 refine⟨v,_,I'.retag hd (λ_ z=>by cases z) nf (λ_ z=>by cases z) (λ_ z=>by cases z) ?_,r',q⟩
 exact z
def uO(td ty tx:TE):TE:=λσ H Q=>td σ H λx H1=>∃a,x= .ref a/\(∃kvs,H1 a=some (.dK kvs))/\ty σ H1 λy H2=>tx σ H2 λz H3=>∃kvs k,H3 a=some (.dK kvs)/\ej y=some k/\Q ((bL kvs k).getD z) H3
theorem x8(hu:X.A.units+1<Ra)(ho:PE X o td)(he:PE X e ty)(hf:PE X f tx)(m:M2 X o "get" apos e f cpos):PE X (.Call (.Attribute o "get" apos) [e,f] [] cpos) (uO td ty tx):=by
 intro Ti s σ H Q I h
 exact zX hu ho.up he.up hf.up m Ti s σ H Q I ⟨_,h,λx H1 u=>by obtain⟨a,e,⟨kvs,hk⟩,q⟩:=u;exact⟨a,e,.inl ⟨kvs,Rd.of hk⟩,_,q,λy H2 q=>⟨_,q,λz H3 w=>by obtain⟨kvs,k,h3,ek,q⟩:=w;exact⟨_,by rw [lj ek];exact DGet.k h3,q⟩⟩⟩⟩
theorem yc:Qi (.type "list") "keys" =pure none:=by rfl
theorem yd
 (hx:s.heap.get? a=some {cls:=.type "list",dict:=none,data:=.seq xs k,slots:= #[]}) (hA:A.handled=none)
 (h:∀h' tk,(∀b o,s.heap.get? b=some o->h'.get? b=some o)->Q none {s with heap:=h',toks:=tk}):OT (model prog w) A (getAttr? (.ref a) "keys") Q E s:=by
 obtain⟨hp,g,d,tk,os⟩:=s
 have hT:∀tk',(⟨hp,g,d,tk',os⟩:OO).TypeIs (.ref a) "list":=λ_=>⟨_,hx,rfl⟩
 have f1:=sub_AttributeError
 have f3:=F.slot_list_getattribute.lookup
 have f4:=F.slot_list_getattribute.bind (.ref a)
 have f5:=am_list_getattr_none
 repeat (any_goals (first | assumption | exact hT _ | ((with_reducible show OT _ _ (call (OL.builtin "list.__getattribute__") _ _) _ _ _);refine P7 F.slot_list_getattribute (hT _) am_entry_list_getattribute (F.args_list_getattribute_2 _ _) (meets_getattribute_miss_list a xs k #[] "keys" _ yc (by decide)) ⟨hx,hA,λh' tk' e hx'=>?_⟩) | wp_step))
 obtain⟨t',u',he⟩:=hx'.there
 show OT _ _ (Qp _ _ _ _ _ _ _) _ _ _
 repeat (any_goals (first | assumption | exact hE _ | exact h _ _ hx'.keeps | wp_step))
theorem fK:entryFor table "dict.update.loop" =some OW.«dict.update.loop»:=entryFor_of_tree (by kernel_rfl)
section
variable{prog:OR}{w:OV}
inductive ItP (prog:OR) (w:OV) (h:Heap) (d it:Addr):List OL->List (Key×OL)->Prop
 | nil:ItP prog w h d it [] []
 | cons {a:Addr} {o:Obj} {key v:OL} {k:Key} {n:Nat} {xs:List OL} {ps:List (Key×OL)}:h.get? a=some o->o.cls= .type "tuple"->o.data= .seq #[key,v] n->(aN prog w).is k key=true->a≠d->a≠it->ItP prog w h d it xs ps->ItP prog w h d it (.ref a::xs) ((k,v)::ps)
theorem ItP.keep(g:∀b o,b≠d->b≠it->h.get? b=some o->h'.get? b=some o):∀{xs:List OL} {ps:List (Key×OL)},ItP prog w h d it xs ps->ItP prog w h' d it xs ps:=by
 intro x0 x1 zq
 induction zq with
 | nil=>exact .nil
 | cons h1 h2 h3 h4 h5 h6 r ih=>exact .cons (g _ _ h5 h6 h1) h2 h3 h4 h5 h6 ih
theorem rQ{R:Result->OO->Prop}(hh:A.handled=none){d it l:Addr}{items:Array OL}(ndi:d≠it)(ndl:d≠l)(nil:it≠l):∀(rest:List (Key×OL)) (i:Nat) (s:OO) (cur:List (Key×OL)),s.heap.IsListIter it l i->s.heap.IsList l items->ItP prog w s.heap d it (items.toList.drop i) rest->
 s.heap.DictOf (aN prog w) d cur->cur.length+rest.length<=1000->
 (∀h' tk,h'.DictOf (aN prog w) d (rest.foldl (λc p=>stored c p.1 p.2) cur)->(∀b o,b≠d->b≠it->s.heap.get? b=some o->h'.get? b=some o)->R (.ok (.ret .none)) {s with heap:=h',toks:=tk})->
 QG (model prog w) A (.builtin "dict.update.loop" ⟨[.ref d,.ref it,Qy i,.none],[]⟩) R s
 | [],i,s,cur,hit,hl,hp,hm,hsz,hR=>by
  apply QY fK
  unfold OW.«dict.update.loop»
  have e0:items[i]? =none:=by
   cases h:items.toList.drop i with
   | nil=>
    have:=List.drop_eq_nil_iff.mp h
    simpa using this
   | cons x xs=>rw [h] at hp;cases hp
  refine OK (Qb hh hit hl e0 λh' eb=>?_)
  refine OK (OM (OM ?_))
  exact hR h' s.toks (hm.extBut eb ndi) λb o nb nb' e=>eb b o nb' e
 | (k,v)::rest,i,s,cur,hit,hl,hp,hm,hsz,hR=>by
  apply QY fK
  obtain⟨x,xs,ed⟩:∃x xs,items.toList.drop i=x::xs:=by
   cases h:items.toList.drop i with
   | nil=>rw [h] at hp;cases hp
   | cons x xs=>exact⟨x,xs,rfl⟩
  have e0:items[i]? =some x:=by
   have:=congrArg (λl=>l[0]?) ed
   simp only [NS,OC,List.getElem?_cons_zero,Array.getElem?_toList] at this
   exact this
  have e1:items.toList.drop (i+1)=xs:=by
   rw [<-List.drop_drop,ed];rfl
  rw [ed] at hp
  cases hp with
  | @cons a o key _ _ n _ _ h1 h2 h3 h4 h5 h6 r=>
  refine OK (P5 hit hl e0 λh' hit' sb=>?_)
  have k1:∀b o,b≠it->s.heap.get? b=some o->h'.get? b=some o:=λb o nb e=>(sb.2 b nb).trans e
  have ha:=k1 a o h6 h1
  have hT:({s with heap:=h'}:OO).TypeIs (.ref a) "tuple":=⟨o,ha,h2⟩
  refine OK (OZ (OK (wpAny_tryCatch ?_)))
  refine OK (QW hT ?_)
  refine OK (Po (s:={s with heap:=h'}) ha h3 (OM ?_))
  refine OZ (wpAny_dictSet_pairs h4 (hm.sameBut sb ndi) (λh'' hm'' sb''=>?_) (by unfold ON;lia))
  have k2:=λb o nb nb' e=>(sb''.2 b nb).trans (k1 b o nb' e)
  refine OM ⟨Code.quiet_builtin _ (by decide),?_⟩
  have JZ:=stored_length_le cur k v
  have ih:=rQ hh ndi ndl nil rest (i+1) {s with heap:=h'',toks:=s.toks+1} (stored cur k v) (hit'.at λo e=>(sb''.2 it (Ne.symm ndi)).trans e) (hl.at λo e=>(sb''.2 l (Ne.symm ndl)).trans (k1 l o (Ne.symm nil) e)) (by rw [e1];exact r.keep k2) hm'' (by simp only [M8] at hsz;lia) λh3 tk hm3 k3=>hR h3 tk hm3 λb o nb nb' e=>k3 b o nb nb' (k2 b o nb nb' e)
  exact ih
end
inductive PrK (H:Hp):List V->List (Key×V)->Prop
 | nil:PrK H [] []
 | cons {a:Addr} {k:Key} {v:V} {xs:List V} {ps:List (Key×V)}:H a=some (.tup [kV k,v])->PrK H xs ps->PrK H (.ref a::xs) ((k,v)::ps)
def kA(ps:List (Key×V)):List (Key×V):=ps.foldl (λc p=>cD c p.1 p.2) []
def ye:List V->Hp->VK->Prop:=λxs H Q=>∃(p:Addr) (ys:List V) (ps:List (Key×V)),xs= [.ref p]/\H p=some (.lst ys)/\PrK H ys ps/\ps.length<1000/\∀l H',H l=none->Same H H'->H' l=some (.dK (kA ps))->Q (.ref l) H'
theorem yf{Ti:List (Addr×Obj)}{σ:St}{H:Hp}{s:OO}(I:Inv X Ti σ H s){d it:Addr}(hd:s.heap.objs.size<=d)(hi:s.heap.objs.size<=it):∀{ys:List V} {ps:List (Key×V)} {its:List OL},PrK H ys ps->Vals ys its->∃us,ItP X.prog X.w s.heap d it its us/\KV ps us
 | _,_,_,.nil,.nil=>⟨[],.nil,.nil⟩
 | _,_,_, @PrK.cons _ a k v xs ps h r,.cons rv rr=>by
  obtain⟨us,h1,h2⟩:=yf I hd hi r rr
  cases rv
  obtain⟨_,its,rt,o,e1,e2,n,e3⟩:=(I.hok a _ h)
  obtain⟨key,u,rfl,ra,rb⟩:=rt.two
  have lt:=M3 e1
  exact⟨(k,u)::us,.cons e1 e2 e3 (iE ra) (Nf (M7 lt hd)) (Nf (M7 lt hi)) h1,.cons ⟨rfl,rb⟩ h2⟩
theorem yg:∀{ps:List (Key×V)} {us:List (Key×OL)} {cs:List (Key×V)} {ds:List (Key×OL)},KV ps us->KV cs ds->KV (ps.foldl (λc p=>cD c p.1 p.2) cs) (us.foldl (λc p=>stored c p.1 p.2) ds)
 | [],[],_,_,_,h=>h
 | [],_::_,_,_,h,_=>by cases h
 | _::_,[],_,_,h,_=>by cases h
 | (k,x)::ps,(k',u)::us,cs,ds,h,h'=>by
  cases h with
  | cons h1 h2=>
   have e:=h1.1
   subst e
   exact yg (ps:=ps) (us:=us) h2 (h'.put k h1.2)
theorem yh(ps:List (Key×V)):(kA ps).length<=ps.length:=by
 have:∀(ps:List (Key×V)) (c:List (Key×V)),(ps.foldl (λc p=>cD c p.1 p.2) c).length<=c.length+ps.length:=λps=>by
  induction ps with
  | nil=>simp_all
  | cons p ps ih=>
   intro c
   have h1:=ih (cD c p.1 p.2)
   have h2:=iV c p.1 p.2
   rw [Os,M8]
   lia
 have:=this ps []
 unfold kA
 simpa using this
theorem cL(hc:X.calm=true:=by rfl):bD X (.type "dict") ye:=by
 intro Ti s σ H xs us Q I r h
 obtain⟨p,ys,ps,rfl,hp,pk,hsz,q⟩:=h
 obtain⟨u,rfl,ru⟩:=dR r
 cases ru
 obtain⟨hz,its,n0,rv,e0⟩:=(I.hok p _ hp)
 have hh:=I.ok.hd hc
 apply callType_codes (Q₁:=λobj s₁=>obj= .ref s.heap.objs.size/\s₁={s with heap:=s.heap.push {cls:=.type "dict",data:=.dict #[]}}) F.kt_called_dict (F.kt_typeCall_dict_1 _) F.entry_dict_init (kt_code_dict_new _ ⟨rfl,rfl⟩)
 rintro obj s₁ ⟨rfl,rfl⟩
 have hnew:(s.heap.push {cls:=.type "dict",data:=.dict #[]}).DictOf (aN X.prog X.w) s.heap.objs.size []:=Heap.DictOf.new s.heap
 have e1:(s.heap.push {cls:=.type "dict",data:=.dict #[]}).get? p=some {cls:=.type "list",data:=.seq its.toArray n0}:=MO _ e0
 have hT:({s with heap:=s.heap.push {cls:=.type "dict",data:=.dict #[]}}:OO).TypeIs (.ref p) "list":=⟨_,e1,rfl⟩
 refine⟨hnew.typeIs,F.args_dict_init_2 _ _,?_⟩
 apply OK
 refine OK (wpAny_notOrdered_dict hnew.typeIs ?_)
 apply OM
 refine OK (QW hT ?_)
 refine OK (yd e1 hh λh1 tk1 k1=>?_)
 have ln:∀b o,s.heap.get? b=some o->h1.get? b=some o:=λb o e=>k1 _ _ (MO _ e)
 have hm1:h1.DictOf (aN X.prog X.w) s.heap.objs.size []:=by
  obtain⟨o,es,ep,ho,r⟩:=hnew
  exact⟨o,es,ep,k1 _ _ ho,r⟩
 have hl1:h1.IsList p its.toArray:=⟨_,k1 _ _ e1,rfl,n0,rfl⟩
 have lt1:s.heap.objs.size<h1.objs.size:=by
  obtain⟨o,es,ep,ho,r⟩:=hm1
  exact M3 ho
 have ltp:=M3 e0
 refine OK (Qj ?_)
 refine OK (Py (s:={s with heap:=h1,toks:=tk1}) hl1 ?_)
 refine OM ⟨Code.quiet_builtin _ (by decide),?_⟩
 obtain⟨us,hI,hK⟩:=yf I (Nat.le_refl _) (Nat.le_of_lt lt1) pk rv
 have hlu:=(KV.length hK).symm
 refine rQ (A:=X.A.in1) hh (Nf lt1) (Nw ltp) (Nw (OA ltp lt1)) us 0 _ [] ⟨_,MS _ rfl,rfl,rfl⟩ (hl1.at λo e=>MO _ e) ?_ (hm1.push _) (by simp only [NI];lia) λh2 tk2 hm2 k2=>?_
 ·show ItP X.prog X.w _ _ _ (its.toArray.toList.drop 0) us
  exact hI.keep λb o _ _ e=>MO _ (ln b o e)
 ·refine⟨rfl,?_⟩
  have kp:∀b o,s.heap.get? b=some o->h2.get? b=some o:=λb o e=>by
   have lb:=M3 e
   exact k2 b o (Nf lb) (Nf (OA lb lt1)) (MO _ (ln b o e))
  have fr:=I.hok.fresh (Nat.le_refl _)
  have hs:=beq_eq_false_iff_ne.mpr (Nw I.big)
  have kv:=yg hK .nil
  have le:=yh ps
  have I2:=I.laid (o:=.dK (kA ps)) (t':=tk2) kp (Nat.le_refl _) (⟨by unfold ON;lia,hs,_,kv,hm2⟩)
  exact⟨.ref s.heap.objs.size,_,I2,rfl,q _ _ fr (aZ fr _) aC⟩
end _L
namespace _L
open PySem PySem.Spec PyProof.Rows PySem.W
def Ord(n:Nat)(p:Array Nat):Prop:=p.Perm (List.toArray (List.range n))
theorem Ord.size{n:Nat}{p:Array Nat}(h:Ord n p):p.size=n:=by have:=h.size_eq;simpa using this
theorem Ord.get{n:Nat}{p:Array Nat}(h:Ord n p)(hn:0<n)(i:Nat):p.getD i 0<n:=by
 by_cases c:i<p.size
 ·have e:p.getD i 0=p[i]:=by simp [Array.getD,c]
  rw [e]
  have hm:p[i]∈p.toList:=by simp
  have:=(Array.perm_iff_toList_perm.mp h).mem_iff.mp hm
  simpa using this
 ·have e:p.getD i 0=0:=by simp [Array.getD,c]
  rw [e];exact hn
theorem Ord.rev{n:Nat}{p:Array Nat}(h:Ord n p)(i j:Nat):Ord n (SB p i j):=(mirror_perm p i j _).trans h
theorem Ord.bub{n:Nat}{p:Array Nat}(h:Ord n p)(i j:Nat):Ord n (bubble p i j):=(bubble_perm p i j).trans h
section
variable{N:Nat}(hN:0<N)
include hN
end
section
variable{prog:OR}{w:OV}{A:OY}{E:OL->OO->Prop}{s:OO}
end
end _L
namespace _L
open PySem PySem.Spec PyProof.Rows
theorem iI{d:Addr}{o:Obj}{kvs:List (Key×V)}:ko (Itv d o kvs) (kvs.map (·.2)) (λH=>H d=some (.frz o (.dK kvs))) where
 go:=λi H h lt=>⟨by simpa using lt,h⟩
 stop:=λi H h le=>⟨by simpa using le,h⟩
 yld:=λi H x H' h lt y=>by
  obtain⟨rfl,k,e⟩:=y
  exact⟨rfl,by rw [M4,e];rfl⟩
theorem ub{d:Addr}{o:Obj}{kvs:List (Key×V)}{g:TG}{tc:TT}{te:TE}{cs:St}{H1:Hp}{Q:VK}(hd1:H1 d=some (.frz o (.dK kvs)))(sz:kvs.length<ON)(Pv:Addr->Nat->List V->St->Hp->Prop)
 (h0:∀D H',H1 D=none->Same H1 H'->H' D=some (.lst [])->Pv D 0 [] cs H')
 (hs:∀D i k x ys σ1 H' p H'',kvs[i]? =some (k,x)->At (kvs.map (·.2)) H1 D i ys H'->Pv D i ys σ1 H'->H' p=none->Same H' H''->H'' p=some (.tup [kV k,x])->g (.ref p) σ1 H'' λσ2 H2=>tc σ2 H2 λb H3=>if b=true then te σ2 H3 λv H4=>Put (kvs.map (·.2)) H1 D (Pv D) i σ2 v H4 else kq (kvs.map (·.2)) H1 D (Pv D) i σ2 H3)
 (hd:∀D ys σ1 H',H1 D=none->Same H1 H'->H' D=some (.lst ys)->ys.length<=kvs.length->Pv D kvs.length ys σ1 H'->Q (.ref D) H'):eW (Iti d o kvs) g tc te cs H1 Q:=by
 have el:(kvs.map (·.2)).length=kvs.length:=by rw [MQ]
 intro D hD
 refine⟨CW (kvs.map (·.2)) H1 D (Pv D),⟨_,rfl,Nk _,aZ hD _,[],aC,Nat.le_refl _,h0 D _ hD (aZ hD _) aC⟩,?_⟩
 rintro i m σ1 H ⟨rfl,hi,sm,ys,hy,ly,p⟩
 by_cases hlt:i<kvs.length
 ·refine .inr ⟨⟨hlt,sm _ _ hd1⟩,λv H' y=>?_⟩
  obtain⟨pp,k,x,rfl,hn,sm2,hp,hx⟩:=y
  exact hs D i k x ys σ1 H pp H' hx ⟨hD,by rw [el];exact hlt,by rw [el];exact sz,sm,hy,ly⟩ p hn sm2 hp
 ·have e:i=kvs.length:=by rw [el] at hi;lia
  subst e
  exact .inl ⟨⟨Nat.le_refl _,sm _ _ hd1⟩,hd D ys σ1 _ hD sm hy ly p⟩
section
variable{X:Cx}
def yi:List V->Hp->VK->Prop:=λxs H Q=>∃(d:Addr) (kvs:List (Key×V)),xs= [.ref d]/\H d=some (.dK kvs)/\kvs.length<1000/\∀l H',H l=none->Same H H'->H' l=some (.lst (kvs.map λkv=>kV kv.1))->Q (.ref l) H'
theorem pd:∀(xs:List V) (vs:List OL),vs.length=xs.length->(∀(j:Nat) (v:OL),vs[j]? =some v->∃x,xs[j]? =some x/\RelV x v)->Vals xs vs
 | [],[],_,_=>.nil
 | x::xs,v::vs,hl,h=>by
  obtain⟨y,e,r⟩:=h 0 v rfl
  cases e
  exact .cons r (pd xs vs (by simpa using hl) λj v e=>by simpa using h (j+1) v (by simpa using e))
 | [],_::_,hl,_=>by simp at hl
 | _::_,[],hl,_=>by simp at hl
theorem nT(hc:X.calm=true:=by rfl):bD X (.type "list") yi:=by
 intro Ti s σ H xs us Q I r h
 obtain⟨d,kvs,rfl,hd,hz,q⟩:=h
 obtain⟨u,rfl,ru⟩:=dR r
 cases ru
 obtain⟨z1,z2,vs,rel,o,es,ep,ho,rr⟩:=eV I.hok hd
 have hl:kvs.length=vs.length:=rel.length
 have big:1000<=ON:=by unfold ON;decide
 refine OI (OH (knd:=aN X.prog X.w) (kvs:=vs) (ep:=ep) z2) (I.ok.hd hc) ⟨o,es,ho,rr⟩ (by lia) λh' tk acc c' hk hS hacc=>?_
 have fr:H s.heap.objs.size=none:=I.hok.fresh (Nat.le_refl _)
 have rv:Vals (kvs.map λkv=>kV kv.1) acc.toList:=by
  refine pd _ _ (by rw [Array.length_toList,hacc.1,MQ,hl]) λj v hj=>?_
  obtain⟨k,x,e,hkey⟩:=hacc.2 j v (by rw [<-Array.getElem?_toList];exact hj)
  have h1:=congrArg (λl=>l[j]?) rel.keys
  simp only [M4,e,Om] at h1
  cases hk2:kvs[j]? with
  | none=>rw [hk2] at h1;cases h1
  | some kv=>
   rw [hk2] at h1
   have h1:kv.1=k:=Option.some.inj h1
   refine⟨kV kv.1,by rw [M4,hk2];rfl,?_⟩
   rw [h1]
   exact rL hkey
 have I2:=I.laid (a:=s.heap.objs.size) (o:=.lst (kvs.map λkv=>kV kv.1)) (t':=tk) hk (Nat.le_refl _) (show ObjOk X.prog X.w _ h' _ (.lst _) from ⟨by rw [MQ];lia,acc.toList,c',rv,by simpa using hS⟩)
 exact⟨.ref s.heap.objs.size,_,I2,rfl,q _ _ fr (aZ fr _) aC⟩
end
def wx:List V->Hp->VK->Prop:=λxs H Q=>∃k,xs= [.bl k]/\Q (.int (if k=true then 1 else 0)) H
theorem yj{X:Cx}:bD X (.type "int") wx:=by
 intro Ti s σ H xs us Q I r h
 exact xv Ti s σ H xs us Q I r (.inr h)
end _L
namespace _L
open PySem PySem.Spec PyProof.Rows PySem.W
def Go{α:Type}(lt:Nat->Nat->Bool)(N:Nat)(R:α->Prop):KasT α->Prop
 | .ret a=>R a
 | .ask i j k=>i<N/\j<N/\Go lt N R (k (lt i j))
theorem Go.bind{R:α->Prop}{S:β->Prop}{f:α->KasT β}(hf:∀a,R a->Go lt N S (f a)):∀{t:KasT α},Go lt N R t->Go lt N S (t.bind f)
 | .ret a,h=>hf a h
 | .ask i j k,⟨h1,h2,h3⟩=>⟨h1,h2,Go.bind hf h3⟩
theorem Go.wp{lt:Nat->Nat->Bool}{N:Nat}{R:α->Prop}{Q:α->OO->Prop}(hc:∀i j,i<N->j<N->∀C:Bool->OO->Prop,C (lt i j) s->cmp i j C s)(hq:∀a,R a->Q a s):∀{t:KasT α},Go lt N R t->t.kasWp cmp Q s
 | .ret a,h=>hq a h
 | .ask i j k,⟨h1,h2,h3⟩=>hc i j h1 h2 _ (Go.wp hc hq h3)
section
variable{lt:Nat->Nat->Bool}{N:Nat}(hN:0<N)(tr:∀i j k,lt i j=true->lt j k=true->lt i k=true)(tot:∀i j,i<N->j<N->i≠j->lt i j=true\/lt j i=true)
def Up(lt:Nat->Nat->Bool)(p:Array Nat)(k:Nat):Prop:=∀i j,i<j->j<k->lt (p.getD i 0) (p.getD j 0)=true
def Down(lt:Nat->Nat->Bool)(p:Array Nat)(k:Nat):Prop:=∀i j,i<j->j<k->lt (p.getD j 0) (p.getD i 0)=true
theorem Ord.ne(h:Ord N p)(hij:i<j)(hj:j<N):p.getD i 0≠p.getD j 0:=by
 have nd:p.toList.Nodup:=by
  have:=(Array.perm_iff_toList_perm.mp h).nodup_iff.mpr (by simpa using List.nodup_range)
  exact this
 have hs:=h.size
 have hi':i<p.size:=by lia
 have hj':j<p.size:=by lia
 simp only [Array.getD,hi',hj']
 intro e
 have:=(List.pairwise_iff_getElem.mp nd) i j (by simpa using hi') (by simpa using hj') hij
 exact this (by simpa using e)
include tr in
theorem Up.step{p:Array Nat}{n:Nat}(h:Up lt p n)(h1:1<=n)(hl:lt (p.getD (n-1) 0) (p.getD n 0)=true):Up lt p (n+1):=λi j hij hj=>by
 by_cases e:j=n
 ·subst e
  by_cases e2:i=j-1
  ·subst e2;exact hl
  ·exact tr _ _ _ (h i (j-1) (by lia) (by lia)) hl
 ·exact h i j hij (by lia)
include tr in
theorem Down.step{p:Array Nat}{n:Nat}(h:Down lt p n)(h1:1<=n)(hl:lt (p.getD n 0) (p.getD (n-1) 0)=true):Down lt p (n+1):=λi j hij hj=>by
 by_cases e:j=n
 ·subst e
  by_cases e2:i=j-1
  ·subst e2;exact hl
  ·exact tr _ _ _ hl (h i (j-1) (by lia) (by lia))
 ·exact h i j hij (by lia)
include hN tr tot in
theorem rR{p:Array Nat}(hp:Ord N p):∀f n,1<=n->n+f<=N->Up lt p n->Go lt N (λm=>n<=m/\m<=n+f/\Up lt p m/\(m<n+f->lt (p.getD m 0) (p.getD (m-1) 0)=true)) (kas_asc p f n)
 | 0,n,h1,hl,hu=>⟨Nat.le_refl _,Nat.le_refl _,hu,λz=>absurd z (by lia)⟩
 | f+1,n,h1,hl,hu=>by
  refine⟨hp.get hN _,hp.get hN _,?_⟩
  cases b:lt (p.getD n 0) (p.getD (n-1) 0) with
  | true=>exact⟨Nat.le_refl _,by lia,hu,λ_=>b⟩
  | false=>
   have hl2:lt (p.getD (n-1) 0) (p.getD n 0)=true:=((tot _ _ (hp.get hN _) (hp.get hN _) (hp.ne (by lia) (by lia))).resolve_right (by rw [b];simp))
   have:=rR hp f (n+1) (by lia) (by lia) (hu.step tr h1 hl2)
   show Go lt N _ (kas_asc p f (n+1))
   rw [show n+(f+1)=n+1+f by lia]
   have w:∀{t:KasT Nat},Go lt N (λm=>n+1<=m/\m<=n+1+f/\Up lt p m/\(m<n+1+f->lt (p.getD m 0) (p.getD (m-1) 0)=true)) t->Go lt N (λm=>n<=m/\m<=n+1+f/\Up lt p m/\(m<n+1+f->lt (p.getD m 0) (p.getD (m-1) 0)=true)) t:=by
    intro t
    induction t with
    | ret a=>exact λh=>⟨by have:=h.1;lia,h.2⟩
    | ask i j k ih=>exact λh=>⟨h.1,h.2.1,ih _ h.2.2⟩
   exact w this
include hN tr tot in
theorem uP{p:Array Nat}(hp:Ord N p):∀f n,1<=n->n+f<=N->Down lt p n->Go lt N (λr=>r.1=p/\r.2.2=0/\Down lt p r.2.1/\1<=r.2.1/\r.2.1<=N) (SD f p n 0)
 | 0,n,h1,hl,hu=>⟨rfl,rfl,hu,h1,by lia⟩
 | f+1,n,h1,hl,hu=>by
  refine⟨hp.get hN _,hp.get hN _,?_⟩
  cases b:lt (p.getD n 0) (p.getD (n-1) 0) with
  | true=>
   show Go lt N _ (if true=true then (if 0>0 then SD f (SB p (n-(0+1)) n) (n+1) 0 else SD f p (n+1) 0) else _)
   rw [Th rfl,Tf (by lia)]
   exact uP hp f (n+1) (by lia) (by lia) (hu.step tr h1 b)
  | false=>
   show Go lt N _ (if false=true then _ else KasT.ask (p.getD (n-1) 0) (p.getD n 0) λd=>if d=true then .ret (p,n,0) else SD f p (n+1) (0+1))
   rw [Tf (by decide)]
   have hl2:lt (p.getD (n-1) 0) (p.getD n 0)=true:=((tot _ _ (hp.get hN _) (hp.get hN _) (hp.ne (by lia) (by lia))).resolve_right (by rw [b];simp))
   refine⟨hp.get hN _,hp.get hN _,?_⟩
   rw [hl2]
   exact⟨rfl,rfl,hu,h1,by show n<=N;lia⟩
theorem FK(hp:Ord N p)(hn:n<=N)(h:Down lt p n):Up lt (SB p 0 n) n:=λi j hij hj=>by
 have hs:=hp.size
 have g:∀k,k<n->(SB p 0 n).getD k 0=p.getD (n-1-k) 0:=λk hk=>by
  have e:=getElem?_mirror_all (xs:=p) (i:=0) (j:=n) (by lia) k
  rw [Th ⟨Nk _,hk⟩] at e
  rw [Array.getD_eq_getD_getElem?,Array.getD_eq_getD_getElem?]
  unfold SB
  rw [e]
  congr 2;lia
 rw [g i (by lia),g j hj]
 exact h _ _ (by lia) (by lia)
include hN tr tot in
theorem Ak{p:Array Nat}(hp:Ord N p)(h2:2<=N):Go lt N (λr=>Ord N r.2/\Up lt r.2 r.1/\1<=r.1/\r.1<=N) (kas_count N p):=by
 refine(rR hN tr tot hp (N-1) 1 (Nat.le_refl _) (by lia) λi j hij hj=>absurd hj (by lia)).bind λn ⟨a1,a2,a3,a4⟩=>?_
 by_cases c:(n==N)=true
 ·rw [Th c];exact⟨hp,a3,a1,by lia⟩
 ·rw [Tf c]
  have c:n≠N:=λz=>c (by rw [z];exact beq_self_eq_true N)
  by_cases c2:n>1
  ·rw [Th c2]
   refine⟨hp.get hN _,hp.get hN _,?_⟩
   rw [a3 0 (n-1) (by lia) (by lia)]
   exact⟨hp,a3,a1,by lia⟩
  ·rw [Tf c2]
   have e1:n=1:=by lia
   subst e1
   have b:=a4 (by lia)
   have d2:Down lt p 2:=λi j hij hj=>by
    have:i=0:=by lia
    have:j=1:=by lia
    subst i;subst j
    exact b
   refine(uP hN tr tot hp (N-2) 2 (by lia) (by lia) d2).bind λr ⟨b1,b2,b3,b4,b5⟩=>?_
   rw [Tf (by lia)]
   obtain⟨r1,r2,r3⟩:=r
   cases b1
   refine(rR hN tr tot (hp.rev _ _) (N-r2) r2 b4 (by dsimp only at b5;lia) (FK hp b5 b3)).bind λm ⟨m1,m2,m3,m4⟩=>?_
   exact⟨hp.rev _ _,m3,by dsimp only at b4;dsimp only;lia,by dsimp only at b5;dsimp only;lia⟩
include hN tr tot in
theorem mD{p:Array Nat}(hp:Ord N p){k:Nat}(hk:k<N):∀f l r,l<=r->r<=k->r-l<=f->Up lt p k->(∀i,i<l->lt (p.getD i 0) (p.getD k 0)=true)->(∀i,r<=i->i<k->lt (p.getD k 0) (p.getD i 0)=true)->Go lt N (λl=>l<=k/\(∀i,i<l->lt (p.getD i 0) (p.getD k 0)=true)/\(∀i,l<=i->i<k->lt (p.getD k 0) (p.getD i 0)=true)) (kas_place p k f l r)
 | 0,l,r,h1,h2,h3,hu,h4,h5=>⟨by lia,h4,λi hi=>h5 i (by lia)⟩
 | f+1,l,r,h1,h2,h3,hu,h4,h5=>by
  show Go lt N _ (if l>=r then KasT.ret l else _)
  by_cases c:l>=r
  ·rw [Th c];exact⟨by lia,h4,λi hi=>h5 i (by lia)⟩
  ·rw [Tf c]
   refine⟨hp.get hN _,hp.get hN _,?_⟩
   cases b:lt (p.getD k 0) (p.getD ((l+r)/2) 0) with
   | true=>
    refine mD hp hk f l ((l+r)/2) (by lia) (by lia) (by lia) hu h4 λi hi hik=>?_
    by_cases e:i=(l+r)/2
    ·rw [e];exact b
    ·exact tr _ _ _ b (hu _ _ (by lia) hik)
   | false=>
    have hl2:lt (p.getD ((l+r)/2) 0) (p.getD k 0)=true:=((tot _ _ (hp.get hN _) (hp.get hN _) (hp.ne (by lia) hk)).resolve_right (by rw [b];simp))
    refine mD hp hk f ((l+r)/2+1) r (by lia) (by lia) (by lia) hu (λi hi=>?_) h5
    by_cases e:i=(l+r)/2
    ·rw [e];exact hl2
    ·exact tr _ _ _ (hu _ _ (by lia) (by lia)) hl2
theorem FM(hp:Ord N p)(hk:k<N)(hl:l<=k)(hu:Up lt p k)(h4:∀i,i<l->lt (p.getD i 0) (p.getD k 0)=true)(h5:∀i,l<=i->i<k->lt (p.getD k 0) (p.getD i 0)=true):Up lt (bubble p k (k-l)) (k+1):=by
 have hs:=hp.size
 have g:∀i,(bubble p k (k-l)).getD i 0=if i=l then p.getD k 0 else if l<i/\i<=k then p.getD (i-1) 0 else p.getD i 0:=λi=>by
  have e:=getElem?_bubble (xs:=p) (src:=k) (by lia) (k-l) (by lia) i
  rw [show k-(k-l)=l by lia] at e
  rw [Array.getD_eq_getD_getElem?,e]
  split
  ·rw [Array.getD_eq_getD_getElem?]
  ·split
   ·rw [Array.getD_eq_getD_getElem?]
   ·rw [Array.getD_eq_getD_getElem?]
 intro i j hij hj
 rw [g i,g j]
 by_cases c1:i=l
 ·rw [Th c1,Tf (by lia),Th ⟨by lia,by lia⟩]
  exact h5 _ (by lia) (by lia)
 ·rw [Tf c1]
  by_cases c2:j=l
  ·rw [Th c2,Tf (by lia)]
   exact h4 _ (by lia)
  ·rw [Tf c2]
   by_cases c3:l<i
   ·rw [Th ⟨c3,by lia⟩,Th ⟨by lia,by lia⟩]
    exact hu _ _ (by lia) (by lia)
   ·rw [Tf (by lia)]
    by_cases c4:l<j
    ·rw [Th ⟨c4,by lia⟩]
     exact hu _ _ (by lia) (by lia)
    ·rw [Tf (by lia)]
     exact hu _ _ hij (by lia)
include hN tr tot in
theorem yk:∀(f:Nat) {p:Array Nat} (k:Nat),Ord N p->k+f=N->Up lt p k->Go lt N (λp=>Ord N p/\Up lt p N) (kas_bin f p k)
 | 0,p,k,hp,hk,hu=>⟨hp,by rw [<-hk];exact hu⟩
 | f+1,p,k,hp,hk,hu=>(mD hN tr tot hp (by lia) k 0 k (by lia) (by lia) (by lia) hu (λi hi=>absurd hi (by lia)) (λi h1 h2=>absurd h2 (by lia))).bind λl ⟨a1,a2,a3⟩=>yk f (k+1) (hp.bub _ _) (by lia) (FM hp (by lia) a1 hu a2 a3)
include hN tr tot in
theorem CO(h2:2<=N):Go lt N (λp=>Ord N p/\Up lt p N) (kas_sort N):=(Ak hN tr tot (Array.Perm.refl _) h2).bind λr ⟨a1,a2,a3,a4⟩=>by
 by_cases c:r.1<N
 ·rw [Th c,show max r.1 1=r.1 by lia]
  exact yk hN tr tot _ _ a1 (by lia) a2
 ·rw [Tf c]
  exact⟨a1,by rw [show N=r.1 by lia];exact a2⟩
end
theorem fX:∀{x y z:List Int},_T.aR x y=true->_T.aR y z=true->_T.aR x z=true
 | [],[],_,h,_=>by cases h
 | [],_::_,[],_,h=>by cases h
 | [],_::_,_::_,_,_=>rfl
 | _::_,[],_,h,_=>by cases h
 | _::_,_::_,[],_,h=>by cases h
 | a::x,b::y,c::z,h,h'=>by
  rw [_T.bJ] at h h'⊢
  by_cases e1:a=b
  ·rw [Th e1] at h
   by_cases e2:b=c
   ·rw [Th e2] at h'
    rw [Th (e1.trans e2)]
    exact fX h h'
   ·rw [Tf e2] at h'
    rw [Tf (by rw [e1];exact e2),e1]
    exact h'
  ·rw [Tf e1] at h
   by_cases e2:b=c
   ·rw [Tf (by rw [<-e2];exact e1),<-e2]
    exact h
   ·grind
theorem iJ:∀{x y:List Int},x≠y->_T.aR x y=true\/_T.aR y x=true
 | [],[],h=>absurd rfl h
 | [],_::_,_=>.inl rfl
 | _::_,[],_=>.inr rfl
 | a::x,b::y,h=>by
  rw [_T.bJ,_T.bJ]
  by_cases e:a=b
  ·rw [Th e,Th e.symm]
   exact iJ λz=>h (by rw [e,z])
  ·rw [Tf e,Tf (Ne.symm e)]
   rcases Int.lt_or_gt_of_ne e with z | z
   ·exact .inl (decide_eq_true z)
   ·exact .inr (decide_eq_true z)
theorem jK:∀x:List Int,_T.aR x x=false
 | []=>rfl
 | a::x=>by rw [_T.bJ,Th rfl];exact jK x
def TpI(h:Heap)(v:OL)(ns:List Int):Prop:=∃a o us n,v= .ref a/\h.get? a=some o/\o.cls= .type "tuple"/\o.data= .seq (List.toArray us) n/\PF us ns
section
variable{prog:OR}{w:OV}{A:OY}{E:OL->OO->Prop}{s:OO}
theorem FN{b:Bool}{Q:Bool->OO->Prop}:∀{us vs:List OL} {xs ys:List Int} (i:Nat),PF us xs->PF vs ys->xs.length=ys.length->Q (_T.aR xs ys) s->KatLex prog w A b false Q (us.zip vs) i s
 | _,_,_,_,i,.nil,.nil,_,h=>kat_nil h
 | _,_,_,_,i,.nil,.cons _ _ _,hl,h=>by cases hl
 | _,_,_,_,i,.cons _ _ _,.nil,hl,h=>by cases hl
 | _,_,_,_,i,.cons m t hx,.cons n u hy,hl,h=>by
  rw [List.zip_cons_cons]
  refine kat_cons (wpAny_eqBool_int ?_)
  refine kat_go (λe=>kat_yes (FN (i+1) hx hy (by simpa using hl) ?_)) λe=>kat_no ?_
  ·rw [_T.bJ,Th (by simpa using e)] at h
   exact h
  ·rw [_T.bJ,Tf (by simpa using e)] at h
   cases c:(b&&i==0) with
   | true=>exact oneLt_int h
   | false=>exact kat_one _ _ (lt_int h)
theorem FO{x y:OL}{xs ys:List Int}{Q:Bool->OO->Prop}(hx:TpI s.heap x xs)(hy:TpI s.heap y ys)(hl:xs.length=ys.length)(h:Q (_T.aR xs ys) s):OT (model prog w) A (keyLt' (tuples' true) x y) Q E s:=by
 obtain⟨a,o,us,n,rfl,h1,h2,h3,h4⟩:=hx
 obtain⟨a',o',us',n',rfl,h1',h2',h3',h4'⟩:=hy
 refine kat_lt h1 h3 h1' h3' ?_
 have e:decide (us.toArray.size<us'.toArray.size)=false:=by
  have a1:=h4.length
  have a2:=h4'.length
  simp;lia
 rw [e]
 simpa using FN 0 h4 h4' hl h
theorem nU{h:Heap}:∀{ps:List (Addr×List Int)},(∀q∈ps,TpI h (.ref q.1) q.2/\0<q.2.length)->∃fs,KatTups h (ps.map λq=>OL.ref q.1) fs/\fs.length=ps.length/\∀f∈fs,∃i t,f=OL.int i t
 | [],_=>⟨[],trivial,rfl,λf hf=>absurd hf MT⟩
 | q::ps,hv=>by
  obtain⟨⟨a,o,us,n,e0,h1,h2,h3,h4⟩,h5⟩:=hv q MU
  cases e0
  obtain⟨fs,k,l,e⟩:=nU λu hu=>hv u (MV _ hu)
  revert h5
  generalize hq:q.2=q2 at h4
  cases h4 with
  | nil=>exact λh=>absurd h (by decide)
  | cons i t r=>exact λ_=>⟨.int i t::fs,.cons h1 h2 h3 rfl k,by rw [M8,M8,l],λf hf=>(List.mem_cons.mp hf).elim (λz=>⟨i,t,z⟩) (e f)⟩
theorem qz{a:Addr}{ps:List (Addr×List Int)}{L n:Nat}{P:Fin->OO->Prop}(hh:A.handled=none)(ho:s.heap.get? a=some (PD "list" (ps.map λq=>OL.ref q.1).toArray n))(tv:∀q∈ps,TpI s.heap (.ref q.1) q.2/\q.1≠a)(hL:0<L)(tl:∀q∈ps,q.2.length=L)(nd:ps.Pairwise (λq r=>q.2≠r.2))(h64:ps.length<64)
 (h:∀qs:List (Addr×List Int),qs.Perm ps->qs.Pairwise (λq r=>_T.aR q.2 r.2=true)->P (.done (.ret .none)) {s with heap:=Sg s.heap a (ps.map λq=>OL.ref q.1) (qs.map λq=>OL.ref q.1).toArray}):
 OT (model prog w) A (OW.«list.sort» ⟨[.ref a],[]⟩) P E s:=by
 generalize hvs:(ps.map λq=>OL.ref q.1)=vs at ho h⊢
 have lvs:vs.length=ps.length:=by rw [<-hvs,MQ]
 rw [list_sort_plain]
 have ha:a<s.heap.objs.size:=M3 ho
 refine OK (listItems_at ho rfl ?_)
 refine OK (Rr ho rfl ?_)
 obtain⟨e1,ho1⟩:∃e1,(s.heap.update a (Obj.mapSeq λ_=> #[])).get? a=some (PD "list" #[] e1):=⟨_,get?_update_seq ho (λ_=> #[])⟩
 refine OK (RT ho1 rfl ?_)
 refine OK (Rg ?_)
 refine OK (QH ?_)
 refine OZ ?_
 have ho6:(((s.heap.update a (Obj.mapSeq λ_=> #[])).push (PD "tuple" vs.toArray 0)).push (PD "list" #[] 0)).get? a=some (PD "list" #[] e1):=by
  rw [NG _ _ _ (by rw [size_push',Og];exact Nf (NQ ha)),NG _ _ _ (by rw [Og];exact Nf ha)]
  exact ho1
 show OT (model prog w) A _ P E {s with heap:=((s.heap.update a (Obj.mapSeq λ_=> #[])).push (PD "tuple" vs.toArray 0)).push (PD "list" #[] 0)}
 dsimp only
 have hsz:vs.toArray.size=vs.length:=by simp
 have tv6:∀q∈ps,TpI (((s.heap.update a (Obj.mapSeq λ_=> #[])).push (PD "tuple" vs.toArray 0)).push (PD "list" #[] 0)) (.ref q.1) q.2:=λq hq=>by
  obtain⟨⟨b,o,us,n,e0,h1,h2,h3,h4⟩,nb⟩:=tv q hq
  cases e0
  refine⟨q.1,o,us,n,rfl,MO _ (MO _ ?_),h2,h3,h4⟩
  rw [Heap.get?_update_ne _ _ _ _ nb]
  exact h1
 by_cases h2:vs.toArray.size<2
 ·rw [Th h2,Th h2]
  refine OK (OM ?_)
  rw [StateT.run_pure]
  refine OK (OM ?_)
  dsimp only
  refine OK (RT ho6 rfl ?_)
  refine OK (Rr ho6 rfl ?_ (hsz2:=by rw [Array.size_map];show(ST vs).size<=_;rw [R8,PQ];lia))
  simp only [bne_self_eq_false,NC,if_false]
  refine OM ?_
  have e:((vs.toArray.zip vs.toArray).map (·.2))=vs.toArray:=by
   apply Array.toList_inj.mp
   rw [Array.toList_map,Array.toList_zip]
   exact List.map_snd_zip (Nat.le_refl _)
  have one:ps.Pairwise (λq r=>_T.aR q.2 r.2=true):=by
   rw [hsz,lvs] at h2
   match ps,h2 with
   | [],_=>exact .nil
   | [q],_=>exact List.pairwise_singleton _ _
  have:=h ps (List.Perm.refl _) one
  rw [hvs,<-e] at this
  exact this
 ·rw [Tf h2,Tf h2]
  obtain⟨fs,k,l,e⟩:=nU λq hq=>⟨tv6 q hq,by rw [tl q hq];exact hL⟩
  rw [hvs] at k
  have h2':2<=vs.length:=by lia
  refine OK (kat_kind k (by lia) (T:=.type "int") (λf hf=>?_) (by decide) ?_)
  ·obtain⟨i,t,rfl⟩:=e f hf
   exact Te
  have key:∀i,i<vs.length->∃q,ps[i]? =some q/\vs.getD i OL.none= .ref q.1/\(ps.map (·.2)).getD i []=q.2/\q∈ps:=λi hi=>by
   have hi':i<ps.length:=by lia
   refine⟨ps[i],MR hi',?_,?_,List.getElem_mem hi'⟩
   ·simp [<-hvs,hi']
   ·simp [hi']
  let lt:Nat->Nat->Bool:=λi j=>_T.aR ((ps.map (·.2)).getD i []) ((ps.map (·.2)).getD j [])
  refine OK (O6 (kat_run (Q:=λst' s'=>∃p:Array Nat,(Ord vs.length p/\Up lt p vs.length)/\arrOf st'=p.map (kas_item (vs.toArray.zip vs.toArray))/\failedOf st'=none/\s'={s with heap:=((s.heap.update a (Obj.mapSeq λ_=> #[])).push (PD "tuple" vs.toArray 0)).push (PD "list" #[] 0)})
   (G:=λp s'=>(Ord vs.length p/\Up lt p vs.length)/\s'={s with heap:=((s.heap.update a (Obj.mapSeq λ_=> #[])).push (PD "tuple" vs.toArray 0)).push (PD "list" #[] 0)}) rfl h2' (by lia) (λp st' s' a1 a2 a3 a4=>⟨p,a4.1,a2,a3,a4.2⟩) ?_) ?_ λ_ _ e=>e)
  ·refine Go.wp (N:=vs.length) (lt:=lt) (λi j hi hj C hC=>?_) (λp hp=>⟨hp,rfl⟩) (CO (by lia) (λi j k=>fX) (λi j hi hj hij=>iJ ?_) h2')
   ·obtain⟨q,_,e1,e2,m1⟩:=key i hi
    obtain⟨r,_,e3,e4,m2⟩:=key j hj
    show OT (model prog w) A (keyLt' (tuples' true) (vs.getD i OL.none) (vs.getD j OL.none)) C _ _
    rw [e1,e3]
    refine FO (tv6 q m1) (tv6 r m2) (by rw [tl q m1,tl r m2]) ?_
    have:lt i j=_T.aR q.2 r.2:=by show _T.aR _ _=_;rw [e2,e4]
    rw [<-this]
    exact hC
   ·obtain⟨q,g1,_,e2,_⟩:=key i hi
    obtain⟨r,g2,_,e4,_⟩:=key j hj
    rw [e2,e4]
    have g1:=List.getElem?_eq_some_iff.mp g1
    have g2:=List.getElem?_eq_some_iff.mp g2
    obtain⟨u1,g1⟩:=g1
    obtain⟨u2,g2⟩:=g2
    rcases Nat.lt_or_gt_of_ne hij with z | z
    ·have:=List.pairwise_iff_getElem.mp nd i j u1 u2 z
     rw [g1,g2] at this;exact this
    ·have:=List.pairwise_iff_getElem.mp nd j i u2 u1 z
     rw [g1,g2] at this;exact this.symm
  ·rintro⟨⟨⟩,st'⟩ s' ⟨p,⟨hp,up⟩,har,hf,rfl⟩
   dsimp only
   have hout:(arrOf st').map (·.2)=List.toArray (p.toList.map λi=>vs.getD i OL.none):=kat_snds rfl har
   have hps:=hp.size
   have dflt:∀i∈p.toList,i<ps.length:=λi hi=>by
    have:=(Array.perm_iff_toList_perm.mp hp).mem_iff.mp hi
    have:=List.mem_range.mp (by simpa using this)
    lia
   let g:Nat->Addr×List Int:=λi=>ps.getD i (0,[])
   have hq:(p.toList.map λi=>vs.getD i OL.none)=(p.toList.map g).map λq=>OL.ref q.1:=by
    rw [NK]
    refine NV λi hi=>?_
    have:=dflt i hi
    simp [g,<-hvs,this]
   have hpm:(p.toList.map g).Perm ps:=by
    have h1:=(Array.perm_iff_toList_perm.mp hp).map g
    have h3:((List.range vs.length).map g)=ps:=by
     refine List.ext_getElem (by simp [lvs]) λi h1 h2=>?_
     simp [g,h2]
    simp only [List.toList_toArray] at h1
    rw [h3] at h1
    exact h1
   have hord:(p.toList.map g).Pairwise (λq r=>_T.aR q.2 r.2=true):=by
    rw [List.pairwise_iff_getElem]
    intro i j hi hj hij
    have hi':i<p.size:=by simpa using hi
    have hj':j<p.size:=by simpa using hj
    have:=up i j hij (by lia)
    have gi:∀k (hk:k<p.size),p.getD k 0=p[k]:=λk hk=>by simp [Array.getD,hk]
    rw [gi i hi',gi j hj'] at this
    have ki:=dflt p[i] (by simp)
    have kj:=dflt p[j] (by simp)
    simpa [lt,g,ki,kj] using this
   refine OK (RT ho6 rfl ?_)
   rw [hout,hq]
   refine OK (Rr ho6 rfl ?_ (hsz2:=by rw [MZ,MQ,hpm.length_eq,PQ];lia))
   rw [show failedOf st'=none from hf]
   simp only [bne_self_eq_false,NC,if_false]
   exact OM (h _ hpm hord)
theorem wy{l:Addr}{ps:List (Addr×List Int)}{L:Nat}{Q:OL->OO->Prop}(hh:A.handled=none)(hl:s.heap.IsList l (ps.map λq=>OL.ref q.1).toArray)(tv:∀q∈ps,TpI s.heap (.ref q.1) q.2)(hL:0<L)(tl:∀q∈ps,q.2.length=L)(nd:ps.Pairwise (λq r=>q.2≠r.2))(h64:ps.length<64)
 (h:∀qs:List (Addr×List Int),qs.Perm ps->qs.Pairwise (λq r=>_T.aR q.2 r.2=true)->Q (.ref (s.heap.objs.size+1)) {s with heap:=sortedAll s.heap (ps.map λq=>OL.ref q.1) (qs.map λq=>OL.ref q.1).toArray}):
 OT (model prog w) A (call (.builtin "sorted") [.ref l]) Q E s:=by
 refine Calls.call_function_entry RR RC RD (RE _) ?_
 unfold OW.«sorted»
 refine OK (m:=checkCount "sorted" 1 1 _) (OM ?_)
 refine OK (collect_list hl ?_)
 refine OK (QH ?_)
 generalize hvs:(ps.map λq=>OL.ref q.1)=vs at hl h⊢
 have hsz:((s.heap.push (PD "list" #[] 0)).update s.heap.objs.size (Obj.mapSeq (· ++vs.toArray))).objs.size=s.heap.objs.size+1:=by
  rw [Og,size_push']
 have hoL:(((s.heap.push (PD "list" #[] 0)).update s.heap.objs.size (Obj.mapSeq (· ++vs.toArray))).push (PD "list" vs.toArray 0)).get? (s.heap.objs.size+1)=some (PD "list" vs.toArray 0):=by
  rw [<-hsz];exact MS _ rfl
 have keep:∀b o,s.heap.get? b=some o->(((s.heap.push (PD "list" #[] 0)).update s.heap.objs.size (Obj.mapSeq (· ++vs.toArray))).push (PD "list" vs.toArray 0)).get? b=some o:=λb o q=>by
  have hlt:b<s.heap.objs.size:=M3 q
  rw [NG _ _ _ (by rw [hsz];exact Nf (NQ hlt)),Heap.get?_update_ne _ _ _ _ (Nf hlt),NG _ _ _ (Nf hlt)]
  exact q
 show OT _ _ _ _ _ {s with heap:=((s.heap.push (PD "list" #[] 0)).update s.heap.objs.size (Obj.mapSeq (· ++vs.toArray))).push (PD "list" vs.toArray 0)}
 rw [hsz]
 subst hvs
 refine OK (OZ (O3 Re ⟨_,hoL,rfl⟩ QX (qz hh hoL (λq hq=>?_) hL tl nd h64 λqs hp ho=>⟨_,rfl,?_⟩) (Rf _)))
 ·obtain⟨b,o,us,n,e0,h1,h2,h3,h4⟩:=tv q hq
  cases e0
  refine⟨⟨q.1,o,us,n,rfl,keep _ _ h1,h2,h3,h4⟩,λe=>?_⟩
  rw [e] at h1
  exact absurd (M3 h1) (by simp)
 ·exact OM ⟨_,rfl,h qs hp ho⟩
end
def SN:Nat:=64
def yl:List V->Hp->VK->Prop:=λxs H Q=>∃(p:Addr) (ps:List (Addr×List Int)) (L:Nat),xs= [.ref p]/\H p=some (.lst (ps.map λq=>.ref q.1))/\(∀q∈ps,H q.1=some (.tup (q.2.map V.int)))/\0<L/\(∀q∈ps,q.2.length=L)/\ps.Pairwise (λq r=>q.2≠r.2)/\ps.length<SN/\
 ∀(D:Addr) (H':Hp) (qs:List (Addr×List Int)),H D=none->Same H H'->H' D=some (.lst (qs.map λq=>.ref q.1))->qs.Perm ps->qs.Pairwise (λq r=>_T.aR q.2 r.2=true)->Q (.ref D) H'
theorem uQ:∀{ps:List (Addr×List Int)} {us:List OL},Vals (ps.map λq=>V.ref q.1) us->us=ps.map λq=>OL.ref q.1
 | [],_,.nil=>rfl
 | q::ps,_,.cons h r=>by
  cases h
  rw [uQ r];rfl
theorem qe:∀(ps:List (Addr×List Int)),Vals (ps.map λq=>V.ref q.1) (ps.map λq=>OL.ref q.1)
 | []=>.nil
 | q::ps=>.cons rfl (qe ps)
theorem kB{X:Cx}(hc:X.calm=true):bD X (.builtin "sorted") yl:=by
 intro Ti s σ H xs us Q I r h
 obtain⟨p,ps,L,rfl,hp,ty,hL,tl,nd,h64,q⟩:=h
 obtain⟨u,rfl,ru⟩:=dR r
 cases ru
 obtain⟨its,rv,pl,hz⟩:=I.list (SqL.of hp)
 have ei:=uQ rv
 subst ei
 have tv:∀q∈ps,TpI s.heap (.ref q.1) q.2:=λq hq=>by
  obtain⟨_,us,rt,o,e1,e2,n,e3⟩:=(show ObjOk X.prog X.w H s.heap q.1 (.tup (q.2.map V.int)) from I.hok q.1 _ (ty q hq))
  exact⟨q.1,o,us,n,rfl,e1,e2,e3,jG rt⟩
 refine wy (I.ok.hd hc) pl.isList tv hL tl nd h64 λqs hpm ho=>?_
 obtain⟨e,he⟩:=sortedAll_at s.heap (ps.map λq=>OL.ref q.1) (qs.map λq=>OL.ref q.1).toArray
 have fr:H (s.heap.objs.size+1)=none:=I.hok.fresh (N8 _)
 have lz:=hpm.length_eq
 have I2:=I.laid (a:=s.heap.objs.size+1) (o:=.lst (qs.map λq=>.ref q.1)) (t':=s.toks) (λb u e=>sortedAll_old e) (N8 _) (show ObjOk X.prog X.w _ (sortedAll s.heap (ps.map λq=>OL.ref q.1) (qs.map λq=>OL.ref q.1).toArray) _ (.lst (qs.map λq=>.ref q.1)) from ⟨by rw [MQ,lz];rw [MQ] at hz;exact hz,_,e,qe qs,he⟩)
 exact⟨.ref (s.heap.objs.size+1),_,I2,rfl,q _ _ _ fr (aZ fr _) aC hpm ho⟩
end _L
theorem _L.exBl{b:Bool}{p:Bool->Prop}:(∃c,_L.V.bl b=_L.V.bl c/\p c)=p b:=propext ⟨λ⟨_,e,h⟩=>(_L.V.bl.inj e)▸h,λh=>⟨_,rfl,h⟩⟩
theorem _L.exIn{b:Int}{p:Int->Prop}:(∃c,_L.V.int b=_L.V.int c/\p c)=p b:=propext ⟨λ⟨_,e,h⟩=>(_L.V.int.inj e)▸h,λh=>⟨_,rfl,h⟩⟩
theorem _L.exIn1{b:Int}{α:Sort _}{p:Int->α->Prop}:(∃c x,_L.V.int b=_L.V.int c/\p c x)=∃x,p b x:=propext ⟨λ⟨_,x,e,h⟩=>⟨x,(_L.V.int.inj e)▸h⟩,λ⟨x,h⟩=>⟨_,x,rfl,h⟩⟩
theorem _L.exRf{b:O9}{p:O9->Prop}:(∃c,_L.V.ref b=_L.V.ref c/\p c)=p b:=propext ⟨λ⟨_,e,h⟩=>(_L.V.ref.inj e)▸h,λh=>⟨_,rfl,h⟩⟩
theorem _L.exRf1{b:O9}{α:Sort _}{p:O9->α->Prop}:(∃c x,_L.V.ref b=_L.V.ref c/\p c x)=∃x,p b x:=propext ⟨λ⟨_,x,e,h⟩=>⟨x,(_L.V.ref.inj e)▸h⟩,λ⟨x,h⟩=>⟨_,x,rfl,h⟩⟩
theorem _L.exRf2{b:O9}{α β:Sort _}{p:O9->α->β->Prop}:(∃c x y,_L.V.ref b=_L.V.ref c/\p c x y)=∃x y,p b x y:=propext ⟨λ⟨_,x,y,e,h⟩=>⟨x,y,(_L.V.ref.inj e)▸h⟩,λ⟨x,y,h⟩=>⟨_,x,y,rfl,h⟩⟩
theorem _L.exRf3{b:O9}{α β γ:Sort _}{p:O9->α->β->γ->Prop}:(∃c x y z,_L.V.ref b=_L.V.ref c/\p c x y z)=∃x y z,p b x y z:=propext ⟨λ⟨_,x,y,z,e,h⟩=>⟨x,y,z,(_L.V.ref.inj e)▸h⟩,λ⟨x,y,z,h⟩=>⟨_,x,y,z,rfl,h⟩⟩
theorem _L.exSt{b:Q7}{p:Q7->Prop}:(∃c,_L.V.str b=_L.V.str c/\p c)=p b:=propext ⟨λ⟨_,e,h⟩=>(_L.V.str.inj e)▸h,λh=>⟨_,rfl,h⟩⟩
theorem _L.exSo{α:Type}{b:α}{p:α->Prop}:(∃c,some b=some c/\p c)=p b:=propext ⟨λ⟨_,e,h⟩=>(Option.some.inj e)▸h,λh=>⟨_,rfl,h⟩⟩
theorem _L.qVar{i:Nat}{σ:_L.St}{H:_L.Hp}{Q:_L.VK}{v:_L.V}(h:σ[i]? =some (some v)):_L.dF i σ H Q=Q v H:=propext ⟨λ⟨_,e,q⟩=>by rw [h] at e;cases e;exact q,λq=>⟨_,h,q⟩⟩
theorem _L.and_t{a b:Prop}(h:a=True):(a/\b)=b:=by rw [h,true_and]
theorem _L.and_f{a b:Prop}(h:a=False):(a/\b)=False:=by rw [h,false_and]
theorem _L.and_r{a b a1 a2:Prop}(h:a=(a1/\a2)):(a/\b)=(a1/\(a2/\b)):=by rw [h,and_assoc]
theorem _L.and_l{a b a':Prop}(h:a=a'):(a/\b)=(a'/\b):=by rw [h]
open Lean Meta Simp in
simproc_decl quickVar (_L.dF _ _ _ _) := fun e => do
  let_expr _L.dF i s H Q := e | return .continue
  let l ← mkAppM ``GetElem?.getElem? #[s, i]
  let w ← whnfD l
  let_expr Option.some _ o := w | return .continue
  let o' ← whnfD o
  let_expr Option.some _ v := o' | return .continue
  return .visit { expr := (mkApp2 Q v H).headBeta, proof? := some (mkApp6 (mkConst ``_L.qVar) i s H Q v (← mkEqRefl l)) }
open Lean Meta Simp in
simproc_decl lazyAnd (_ ∧ _) := fun e => do
  let_expr And a b := e | return .continue
  let r ← simp a
  let a' := r.expr
  if a'.isTrue then return .visit { expr := b, proof? := some (mkApp3 (mkConst ``_L.and_t) a b (← r.getProof)) }
  if a'.isFalse then return .done { expr := mkConst ``False, proof? := some (mkApp3 (mkConst ``_L.and_f) a b (← r.getProof)) }
  match_expr a' with
  | And a1 a2 => return .visit { expr := mkAnd a1 (mkAnd a2 b), proof? := some (mkApp5 (mkConst ``_L.and_r) a b a1 a2 (← r.getProof)) }
  | _ =>
    match r.proof? with
    | none => return .done { expr := mkAnd a' b }
    | some h => return .done { expr := mkAnd a' b, proof? := some (mkApp4 (mkConst ``_L.and_l) a b a' h) }
theorem _L.ite_c{α:Sort _}{c c':Prop}[d:Decidable c][d':Decidable c'](h:c=c')(x y:α):ite c x y=ite c' x y:=by subst h;congr
open Lean Meta Simp in
simproc_decl lazyIte (ite _ _ _) := fun e => do
  let_expr ite α c d x y := e | return .continue
  let r ← simp c
  if r.expr.isTrue || r.expr.isFalse then return .continue
  if r.expr == c then return .done { expr := e }
  let d' ← synthInstance (mkApp (mkConst ``Decidable) r.expr)
  return .done { expr := mkApp5 e.consumeMData.getAppFn α r.expr d' x y, proof? := some (mkAppN (mkConst ``_L.ite_c e.consumeMData.getAppFn.constLevels!) #[α, c, r.expr, d, d', ← r.getProof, x, y]) }
open Lean Meta Simp in
simproc_decl lazyAll (_) := fun e => do
  if e.isForall then return .done { expr := e } else return .continue
def _L.rdPost : String := "_L.yl _L.Ev _L.wx _L.yi _L.BQ _L.qS _L.nS _L.rN _L.Ah _L.Ai _L.FH _L.FI _L.HO.ins.injEq _L.uO _L.FJ _L.ye _L.uM _L.Ew _L.FG _L.BO _L.xV _L.BP _L.xW _L.fW _L.qQ Option.join_some _L.rJ _L.tBM _L.tyV _L.qR _L.Ez _L.BM _L.wt _L.BN _L.tMs _L.BL _L.Ej _L.cS _L.jE _L.oW _L.vT _L.tB _L.tOp _L.tUn _L.rU _L.dF _L.tC _L.rI0 _L.rI _L.j7 _L.qN _L.dQ _L.cG _L.bW _L.Eh _L.vO _L.zF _L.fF _L.cP _L.wk _L.jI _L.xQ _L.qP _L.uI _L.pairsOf _L.xI Option.bind_some _L.wl _L.tCB _L.zD _L.tOr _L.zE _L.BA _L.Ee _L.tIf _L.o0 _L.rEq _L.rNe _L.Cs _L.Ct _L.Cu _L.Cv _L.Cw _L.Cy _L.Cz _L.CB _L.EM _L.EN _L.EO _L.EQ _L.CF _L.Ab _L.ER _L.ES _L.Jm _L.ET _L.BI _L.EU _L.tSl _L.BC _L.uB _L.BJ _L.gI _L.aC List.all_cons List.all_nil Bool.and_true Bool.true_and Bool.and_self Bool.or_false Bool.or_true Bool.false_or Bool.true_or _L.eA _T.sIx _L.HK _L.HM _L.HQ _L.HR _L.BK _L.HS _L.HU _L.HV _L.V.ty.injEq _L.EX _L.EY _L.EZ _L.E1 _L.E2 _L.E3 _L.E4 _L.E5 _L.E6 _L.E7 _L.E8 _L.E9 _L.Fa _L.Fb _L.Fc _L.Fd _L.Fe _L.Ff _L.Fg _L.Fh _L.Fi _L.Fj _L.Fk _L.Fl _L.Fm _L.Fn _L.Fo _L.Fp _L.Fq _L.Fr _L.Fs _L.Ft _L.Fu _L.Fv _L.Fw _L.Fx _L.Fy _L.FA _L.FB _L.FC _L.FD _L.FE _L.mn1 _L.mn2 List.drop_succ_cons List.drop_zero List.take_succ_cons List.take_zero Nat.reduceEqDiff not_false_eq_true _L.BH _L.xP _L.CC _L.CD List.cons.injEq _L.xH _L.start List.map_cons List.map_nil List.length_cons List.length_nil List.replicate List.cons_append List.nil_append List.getElem?_cons_zero List.getElem?_cons_succ List.set_cons_zero List.set_cons_succ Option.some.injEq _L.V.int.injEq _L.V.str.injEq _L.V.ref.injEq _L.V.bl.injEq _L.HO.tup.injEq _L.HO.lst.injEq _L.HO.dK.injEq reduceCtorEq exists_eq_left' exists_and_left exists_eq_left exists_eq_right _L.Eo _L.CMul _L.En decide_eq_true_eq _L.km String.reduceEq decide_true decide_false Bool.false_eq_true if_true if_false Th and_true true_and or_false false_or or_true true_or and_false false_and exists_const exists_false Bool.not_true Bool.not_false _L.sz0 _L.sz1 _L.sz2 _L.sz3 _L.sz4 _L.sz5 _L.sz6 _L.BG _L.HG _L.HH _L.HI _L.HJ Nat.reduceAdd Nat.reduceSub Nat.zero_add Nat.reduceLeDiff Int.reducePow Int.reduceToNat Int.reduceLT Int.reduceLE Int.reduceNeg _L.na2 _L.Jk Nat.reducePow Nat.reduceLT"
def _L.lzPre : String := "lazyAnd reduceIte lazyIte exists_eq_left exists_eq_left' reduceIte _L.exBl _L.exIn _L.exRf _L.exSt _L.exSo quickVar _L.exIn1 _L.exRf1 _L.exRf2 _L.exRf3"
def _L.rdPre : String := "exists_eq_left exists_eq_left' reduceIte _L.exBl _L.exIn _L.exRf _L.exSt _L.exSo quickVar _L.exIn1 _L.exRf1 _L.exRf2 _L.exRf3"
open Lean in
def _L.rdArgs (pre : String) : MacroM (TSyntaxArray ``Lean.Parser.Tactic.simpLemma) := do
  let p ← (_L.rdPost.splitOn " ").toArray.mapM fun n => `(Lean.Parser.Tactic.simpLemma| $(mkIdent n.toName):ident)
  let a ← (pre.splitOn " ").toArray.mapM fun n => `(Lean.Parser.Tactic.simpLemma| ↓ $(mkIdent n.toName):ident)
  return a ++ p
namespace _L
open PySem PySem.Spec PyProof.Rows PySem.W
section
variable{X:Cx}{k k2 n:Nat}{ps ps2:List Str}{sp sp2:Sp}{m:Str}{pos apos:Pos}{o e:Expr}{es:List Expr}{t:TA}{ta:TE}{C C2:Addr}
theorem kC{pl:Sem Bool}(G:OkM X.prog X.w X.K X.mg X.base k C m ps sp)(G2:OkM X.prog X.w X.K X.mg X.base k2 C2 m ps2 sp2)(hr:Room n X.A)(he:PE X o ta)(ha:PA X (e::es) t)(hk:k<=n:=by lia)(hk2:k2<=n:=by lia)(hs:(e::es).all bt=true:=by rfl)
 (ht:eval (.Call (.Attribute o m apos) (e::es) [] pos) X.env=(do
  let ov <-eval o X.env
  QE apos.atName
  let (f,first) <-holding [ov] (PZ ov m pl)
  Q8 pos f first (PP pos (OU (e::es) X.env)) (P0 pos (Ps [] X.env))):=by rfl):
 PE X (.Call (.Attribute o m apos) (e::es) [] pos) (λσ H Q=>ta σ H λx H1=>(∃a dx fs,x= .ref a/\H1 a=some (.ins C dx fs)/\fs.lookup m=none/\t σ H1 λvs H2=>sp (x::vs) H2 Q E0)\/(∃a dx fs,x= .ref a/\H1 a=some (.ins C2 dx fs)/\fs.lookup m=none/\t σ H1 λvs H2=>sp2 (x::vs) H2 Q E0)):=by
 obtain⟨⟨f,fd,hm,hb,F⟩,cl⟩:=G
 obtain⟨⟨f2,fd2,hm2,hb2,F2⟩,cl2⟩:=G2
 intro Ti s σ H Q I h
 refine NP (thn (he Ti s σ H _ I h) λu s1 z=>?_) ht
 obtain⟨x,H1,I1,rx,q⟩:=z
 have ap:∀(sp:Sp) y,(λvs H1=>sp (y::(vs++[])) H1 Q E0)=λvs H1=>sp (y::vs) H1 Q E0:=λsp y=>by funext vs H1;rw [Nv]
 rcases q with ⟨a,dx,fs,ex,ea,l,q⟩ | ⟨a,dx,fs,ex,ea,l,q⟩
 ·subst ex
  obtain rfl:u=OL.ref a:=rx
  rw [<-ap] at q
  apply dS I1 ea cl hm l
  refine N4 (first:=[.ref a]) I.ok.mod.kin hm.kp (thn (ha pos Ti s1 σ H1 _ I1 q) λus s2 ⟨vs,H2,I2,r,q2⟩=>⟨I2.kIn,?_⟩) (dy (Bool.and_eq_true_iff.mp hs).1) (c9 (Bool.and_eq_true_iff.mp hs).2)
  exact fV (dvs:=[]) (vs:=.ref a::vs) F (hr.mono hk) hb .nil fT I2 (.cons rfl r) q2
 ·subst ex
  obtain rfl:u=OL.ref a:=rx
  rw [<-ap] at q
  apply dS I1 ea cl2 hm2 l
  refine N4 (first:=[.ref a]) I.ok.mod.kin hm2.kp (thn (ha pos Ti s1 σ H1 _ I1 q) λus s2 ⟨vs,H2,I2,r,q2⟩=>⟨I2.kIn,?_⟩) (dy (Bool.and_eq_true_iff.mp hs).1) (c9 (Bool.and_eq_true_iff.mp hs).2)
  exact fV (dvs:=[]) (vs:=.ref a::vs) F2 (hr.mono hk2) hb2 .nil fT I2 (.cons rfl r) q2
theorem eY{pl:Sem Bool}(G:OkM X.prog X.w X.K X.mg X.base k C m ps sp)(G2:OkM X.prog X.w X.K X.mg X.base k2 C2 m ps2 sp2)(hr:Room n X.A)(he:PE X o ta)(hk:k<=n:=by lia)(hk2:k2<=n:=by lia)
 (ht:eval (.Call (.Attribute o m apos) [] [] pos) X.env=(do
  let ov <-eval o X.env
  QE apos.atName
  let (f,first) <-holding [ov] (PZ ov m pl)
  Q8 pos f first (PP pos (OU [] X.env)) (P0 pos (Ps [] X.env))):=by rfl):
 PE X (.Call (.Attribute o m apos) [] [] pos) (λσ H Q=>ta σ H λx H1=>(∃a dx fs,x= .ref a/\H1 a=some (.ins C dx fs)/\fs.lookup m=none/\sp [x] H1 Q E0)\/(∃a dx fs,x= .ref a/\H1 a=some (.ins C2 dx fs)/\fs.lookup m=none/\sp2 [x] H1 Q E0)):=by
 obtain⟨⟨f,fd,hm,hb,F⟩,cl⟩:=G
 obtain⟨⟨f2,fd2,hm2,hb2,F2⟩,cl2⟩:=G2
 intro Ti s σ H Q I h
 refine NP (thn (he Ti s σ H _ I h) λu s1 z=>?_) ht
 obtain⟨x,H1,I1,rx,q⟩:=z
 rcases q with ⟨a,dx,fs,ex,ea,l,q⟩ | ⟨a,dx,fs,ex,ea,l,q⟩
 ·subst ex
  obtain rfl:u=OL.ref a:=rx
  apply dS I1 ea cl hm l
  exact Oe (first:=[.ref a]) I1.kIn hm.kp (fV (dvs:=[]) (us:=[.ref a]) (vs:=[.ref a]) F (hr.mono hk) hb .nil fT I1 (.cons rfl .nil) q)
 ·subst ex
  obtain rfl:u=OL.ref a:=rx
  apply dS I1 ea cl2 hm2 l
  exact Oe (first:=[.ref a]) I1.kIn hm2.kp (fV (dvs:=[]) (us:=[.ref a]) (vs:=[.ref a]) F2 (hr.mono hk2) hb2 .nil fT I1 (.cons rfl .nil) q)
end
end _L
namespace _L
open PySem PySem.Spec PyProof.Rows
structure Nx(prog:OR)(w:OV)(i:Addr)(fp:List Addr)(T:Nat->Heap->Prop)(item:Nat->Option OL):Prop where
 keep:∀k h h',T k h->(∀b,b=i\/b∈fp->∀o,h.get? b=some o->h'.get? b=some o)->T k h'
 obj:∀k h,T k h->∃o,h.get? i=some o/\(∀v,o.data≠.cell v)/\o.cls≠.type "StopIteration"
 next:∀(A:OY) k x s (Q:OL->OO->Prop) (E:OL->OO->Prop),T k s.heap->item k=some x->(∀h',T (k+1) h'->Heap.SameBut i s.heap h'->Q x {s with heap:=h'})->OT (model prog w) A (OW.SmallTypes.nextOf (.ref i)) Q E s
 done:∀(A:OY) k s (Q:OL->OO->Prop) (E:OL->OO->Prop),A.handled=none->T k s.heap->item k=none->(∀h' e,Heap.ExtBut i s.heap h'->(∃o,h'.get? e=some o/\o.cls= .type "StopIteration")->E (.ref e) {s with heap:=h'})->OT (model prog w) A (OW.SmallTypes.nextOf (.ref i)) Q E s
section
variable{prog:OR}{w:OV}{A:OY}{E:OL->OO->Prop}{s:OO}
theorem uR(i l:Addr)(xs:Array OL)(ne:l≠i):Nx prog w i [l] (λk h=>h.IsListIter i l k/\h.IsList l xs) (λk=>xs[k]?) where
 keep:=λk h h' ⟨h1,h2⟩ kp=>⟨h1.at λo e=>kp i (.inl rfl) o e,h2.at λo e=>kp l (.inr (by simp)) o e⟩
 obj:=λk h y=>by obtain⟨⟨o,e,c,d⟩,_⟩:=y;exact⟨o,e,λv z=>(by rw [d] at z;cases z),λz=>(by rw [c] at z;simp at z)⟩
 next:=λA k x s Q E ⟨h1,h2⟩ hx q=>wpAny_nextOf_list_item h1 h2 hx λh' a b=>q h' ⟨a,h2.extBut b.extBut ne⟩ b
 done:=λA k s Q E hh ⟨h1,h2⟩ hx q=>wpAny_nextOf_list_end hh h1 h2 hx q
theorem dM(i l:Addr)(xs:Array OL)(ne:l≠i):Nx prog w i [l] (λk h=>h.IsTupleIter i l k/\h.IsTuple l xs) (λk=>xs[k]?) where
 keep:=λk h h' u kp=>by obtain⟨⟨o,e,r⟩,⟨o2,e2,r2⟩⟩:=u;exact⟨⟨o,kp i (.inl rfl) o e,r⟩,⟨o2,kp l (.inr (by simp)) o2 e2,r2⟩⟩
 obj:=λk h y=>by obtain⟨⟨o,e,c,d⟩,_⟩:=y;exact⟨o,e,λv z=>(by rw [d] at z;cases z),λz=>(by rw [c] at z;simp at z)⟩
 next:=λA k x s Q E ⟨h1,h2⟩ hx q=>by
  obtain⟨o,ho,hc,hd⟩:=id h1
  obtain⟨o2,ho2,hc2,n2,hd2⟩:=id h2
  refine OK (O0 h1.typeIs F.slot_tuple_iterator_next (O3 F.slot_tuple_iterator_next h1.typeIs F.entry_tuple_iterator_next ?_ (F.args_tuple_iterator_next_1 _)))
  show OT _ _ (field (.ref i) 0 >>= _) _ _ _
  refine OK (O2 ho hd (x:=.ref l) rfl ?_)
  refine OK (O2 ho hd rfl ?_)
  refine OK (Po ho2 hd2 ?_)
  simp only [NB,hx]
  have sb:=Heap.SameBut.update s.heap i (Obj.mapFields (·.setIfInBounds 1 (Qy ((k:Int)+1))))
  refine OK (Qr ho hd (by simp) (OM ⟨x,rfl,OM (q _ ⟨?_,h2.extBut sb.extBut ne⟩ sb)⟩))
  exact⟨_,Heap.get?_update_self _ ho (Obj.isFreed_of_fields (Obj.data_mapFields hd _)),(Obj.cls_mapFields ..).trans hc,by rw [Obj.data_mapFields hd];simp [Qy]⟩
 done := fun A k s Q E hh ⟨h1, h2⟩ hx q => by
   obtain⟨o,ho,hc,hd⟩:=id h1
   obtain⟨o2,ho2,hc2,n2,hd2⟩:=id h2
   refine OK (O0 h1.typeIs F.slot_tuple_iterator_next (O3 F.slot_tuple_iterator_next h1.typeIs F.entry_tuple_iterator_next ?_ (F.args_tuple_iterator_next_1 _)))
   show OT _ _ (field (.ref i) 0 >>= _) _ _ _
   refine OK (O2 ho hd (x:=.ref l) rfl ?_)
   refine OK (O2 ho hd rfl ?_)
   refine OK (Po ho2 hd2 ?_)
   simp only [NB,hx]
   refine OK (Qj (OK (Qr ho hd (by simp) ?_)))
   apply OK
   refine OK (Pd ?_ (by size_fits))
   refine OK (P8 (by first | rfl | (simp only [Rh];rfl)) ?_)
   refine Pd ?_ (by size_fits)
   refine OK (wpAny_handled ?_)
   first | rw [show A.in1.handled=none from hh] | rw [hh]
   refine OK (OM (wpAny_throw ?_))
   exact q _ _ (((Heap.SameBut.update ..).extBut.push _).push _) ⟨_,MS _ rfl,rfl⟩
structure ZA(z TI TO i j:Addr)(f1 f2:List Addr):Prop where
 tz:TI≠z
 oz:TO≠z
 iz:i≠z
 jz:j≠z
 to:TI≠TO
 ti:TI≠i
 tj:TI≠j
 oi:TO≠i
 oj:TO≠j
 ij:i≠j
 a1:∀b∈f1,b≠z/\b≠TO/\b≠i/\b≠j
 a2:∀b∈f2,b≠z/\b≠TO/\b≠i/\b≠j
variable{z TI TO i j:Addr}{f1 f2:List Addr}{T1 T2:Nat->Heap->Prop}{e1 e2:Nat->Option OL}
theorem CP(D:ZA z TI TO i j f1 f2)(N1:Nx prog w i f1 T1 e1)(N2:Nx prog w j f2 T2 e2)(hz:SV s.heap z TI TO .none)(hTI:Qz s.heap TI (.ref i) (.ref j))(hTO:Qz s.heap TO a b)
 (t1:T1 k s.heap) (t2:T2 k s.heap) (hx:e1 k=some x) (hy:e2 k=some y)
 (hQ:∀h',SV h' z TI TO (Qy s.heap.objs.size)->Qz h' TO x y->T1 (k+1) h'->T2 (k+1) h'->Qz h' s.heap.objs.size x y->h'.objs.size=s.heap.objs.size+1->(∀c o,c≠z->c≠TO->c≠i->c≠j->s.heap.get? c=some o->h'.get? c=some o)->Q (some (.ref s.heap.objs.size)) {s with heap:=h'}):
 OT (model prog w) A (Ro (.ref z)) Q E s:=by
 have hT:s.TypeIs (.ref z) "zip":=⟨_,hz,rfl⟩
 unfold Ro
 refine OK (Qh (O0 hT F.slot_zip_next (O3 F.slot_zip_next hT F.entry_zip_next ?_ (F.args_zip_next_1 _))))
 show OT _ _ (field (.ref z) 2 >>= _) _ _ _
 refine OK (O2 hz rfl (x:=.bool false) rfl ?_)
 show OT _ _ (field (.ref z) 3 >>= _) _ _ _
 refine OK (O2 hz rfl rfl ?_)
 refine OK (Po hTI rfl ?_)
 show OT _ _ (OW.SmallTypes.ownedTupleIsFree (.ref z) >>= _) _ _ _
 apply OK
 refine OK (O2 hz rfl rfl (OM ?_))
 refine OK (Qj ?_)
 refine OK (O2 hz rfl rfl ?_)
 refine OK (Pf hz (by simp) λg1 z1 s1=>?_)
 apply OK
 simp only [List.zipIdx_cons,List.zipIdx_nil,Oq,Ow]
 refine OK (OK (QI ?_))
 have t1a:T1 k g1:=N1.keep k _ _ t1 λb hb o e=>s1.extBut _ _ (hb.elim (λq=>q▸D.iz) λq=>(D.a1 b q).1) e
 refine OK (N1.next _ k x _ _ _ t1a hx λg2 t1b s2=>OM ?_)
 have o2:Qz g2 TO a b:=s2.extBut _ _ D.oi (s1.extBut _ _ D.oz hTO)
 refine OK (Po o2 rfl ?_)
 refine OK (Qg o2 λg3 o3 s3=>?_)
 refine OK (Rj (OM ?_))
 refine OK (OK (QI ?_))
 have t2a:T2 k g3:=N2.keep k _ _ t2 λb hb o e=>by
  have n:b≠z/\b≠TO/\b≠i:=hb.elim (λq=>q▸⟨D.jz,D.oj.symm,D.ij.symm⟩) λq=>⟨(D.a2 b q).1,(D.a2 b q).2.1,(D.a2 b q).2.2.1⟩
  exact s3.extBut _ _ n.2.1 (s2.extBut _ _ n.2.2 (s1.extBut _ _ n.1 e))
 refine OK (N2.next _ k y _ _ _ t2a hy λg4 t2b s4=>OM ?_)
 have o4:=s4.extBut _ _ D.oj o3
 refine OK (Po o4 rfl ?_)
 refine OK (Qg o4 λg5 o5 s5=>?_)
 replace o5:Qz g5 TO x y:=o5
 refine OK (Rj (OM (OM ?_)))
 refine OK (Po o5 rfl ?_)
 refine OK (Rg ?_)
 have sz:g5.objs.size=s.heap.objs.size:=by rw [s5.1,s4.1,s3.1,s2.1,s1.1]
 have z5:=s5.extBut _ _ D.oz.symm (s4.extBut _ _ D.jz.symm (s3.extBut _ _ D.oz.symm (s2.extBut _ _ D.iz.symm z1)))
 have k5:∀c o,c≠z->c≠TO->c≠i->c≠j->s.heap.get? c=some o->g5.get? c=some o:=λc o c1 c2 c3 c4 e=>s5.extBut _ _ c2 (s4.extBut _ _ c4 (s3.extBut _ _ c2 (s2.extBut _ _ c3 (s1.extBut _ _ c1 e))))
 have t15:=N1.keep _ _ _ t1b λb hb o e=>by
  have n:b≠TO/\b≠j:=hb.elim (λq=>q▸⟨D.oi.symm,D.ij⟩) λq=>⟨(D.a1 b q).2.1,(D.a1 b q).2.2.2⟩
  exact s5.extBut _ _ n.1 (s4.extBut _ _ n.2 (s3.extBut _ _ n.1 e))
 have t25:=N2.keep _ _ _ t2b λb hb o e=>s5.extBut _ _ (hb.elim (λq=>q▸D.oj.symm) λq=>(D.a2 b q).2.1) e
 have zl:=M3 z5
 apply OK
 have z6:SV (g5.push {cls:=.type "tuple",data:=.seq #[x,y]}) z TI TO .ellipsis:=MO _ z5
 refine OK (Pf z6 (by simp) λg7 z7 s7=>?_)
 refine Pf z7 (by simp) λg8 z8 s8=>?_
 have up:∀c o,c≠z->g5.get? c=some o->g8.get? c=some o:=λc o c1 e=>s8.extBut _ _ c1 (s7.extBut _ _ c1 (MO _ e))
 have p8:=s8.extBut _ _ (Nw zl) (s7.extBut _ _ (Nw zl) (MS _ rfl))
 have q8:g8.objs.size=g5.objs.size+1:=by rw [s8.1,s7.1,Nq]
 rw [sz] at z8 p8 q8
 refine OM ⟨_,rfl,OM ?_⟩
 rw [sz]
 exact hQ g8 z8 (up _ _ D.oz o5) (N1.keep _ _ _ t15 λb hb o e=>up b o (hb.elim (λq=>q▸D.iz) λq=>(D.a1 b q).1) e) (N2.keep _ _ _ t25 λb hb o e=>up b o (hb.elim (λq=>q▸D.jz) λq=>(D.a2 b q).1) e) p8 q8 λc o c1 c2 c3 c4 e=>up c o c1 (k5 c o c1 c2 c3 c4 e)
theorem ym(hh:A.handled=none)(D:ZA z TI TO i j f1 f2)(N1:Nx prog w i f1 T1 e1)(N2:Nx prog w j f2 T2 e2)(hz:SV s.heap z TI TO .none)(hTI:Qz s.heap TI (.ref i) (.ref j))(hTO:Qz s.heap TO a b)
 (t1:T1 k s.heap) (t2:T2 k s.heap) (hend:e1 k=none\/e2 k=none)
 (hQ:∀h',(∀c o,c≠z->c≠TO->c≠i->c≠j->s.heap.get? c=some o->h'.get? c=some o)->Q none {s with heap:=h'}):OT (model prog w) A (Ro (.ref z)) Q E s:=by
 have hT:s.TypeIs (.ref z) "zip":=⟨_,hz,rfl⟩
 have fin:∀h' e,(∀c o,c≠z->c≠TO->c≠i->c≠j->s.heap.get? c=some o->h'.get? c=some o)->(∃o,h'.get? e=some o/\o.cls= .type "StopIteration")->OT (model prog w) A (do if <-isInstance (.ref e) (.type "StopIteration") then pure none else throw (.ref e)) Q E {s with heap:=h'}:=λh' e hk he=>by
  obtain⟨o,ho,hc⟩:=he
  exact OK (wpAny_isInstance ⟨o,ho,hc⟩ isSubtype_stop (OM (hQ _ hk)))
 refine OK (Qh (O0 hT F.slot_zip_next (O3 F.slot_zip_next hT F.entry_zip_next ?_ (F.args_zip_next_1 _))))
 show OT _ _ (field (.ref z) 2 >>= _) _ _ _
 refine OK (O2 hz rfl (x:=.bool false) rfl ?_)
 refine OK (O2 hz rfl rfl ?_)
 refine OK (Po hTI rfl ?_)
 apply OK
 refine OK (O2 hz rfl rfl (OM ?_))
 refine OK (Qj ?_)
 refine OK (O2 hz rfl rfl ?_)
 refine OK (Pf hz (by simp) λg1 z1 s1=>?_)
 apply OK
 simp only [List.zipIdx_cons,List.zipIdx_nil,Oq,Ow]
 refine OK (OK (QI ?_))
 have t1a:=N1.keep k _ _ t1 λb hb o e=>s1.extBut _ _ (hb.elim (λq=>q▸D.iz) λq=>(D.a1 b q).1) e
 cases hx:e1 k with
 | none=>
  refine OK (N1.done _ k _ _ _ hh t1a hx λg2 e s2 he=>?_)
  obtain⟨oe,hoe,hce⟩:=he
  have z2:=s2 _ _ D.iz.symm z1
  have ez:e≠z:=λq=>by subst q;rw [z2] at hoe;cases hoe;simp at hce
  exact Pf z2 (by simp) λg3 _ s3=>fin g3 e (λc o c1 _ c3 _ q=>s3.extBut _ _ c1 (s2 _ _ c3 (s1.extBut _ _ c1 q))) ⟨oe,s3.extBut _ _ ez hoe,hce⟩
 | some x=>
  have hy:e2 k=none:=by rcases hend with h | h;(rw [hx] at h;cases h);exact h
  refine OK (N1.next _ k x _ _ _ t1a hx λg2 t1b s2=>OM ?_)
  have o2:=s2.extBut _ _ D.oi (s1.extBut _ _ D.oz hTO)
  refine OK (Po o2 rfl ?_)
  refine OK (Qg o2 λg3 o3 s3=>?_)
  refine OK (Rj (OM ?_))
  refine OK (OK (QI ?_))
  have t2a:=N2.keep k _ _ t2 λb hb o e=>by
   have n:b≠z/\b≠TO/\b≠i:=hb.elim (λq=>q▸⟨D.jz,D.oj.symm,D.ij.symm⟩) λq=>⟨(D.a2 b q).1,(D.a2 b q).2.1,(D.a2 b q).2.2.1⟩
   exact s3.extBut _ _ n.2.1 (s2.extBut _ _ n.2.2 (s1.extBut _ _ n.1 e))
  refine OK (N2.done _ k _ _ _ hh t2a hy λg4 e s4 he=>?_)
  obtain⟨oe,hoe,hce⟩:=he
  have z4:=s4 _ _ D.jz.symm (s3.extBut _ _ D.oz.symm (s2.extBut _ _ D.iz.symm z1))
  have ez:e≠z:=λq=>by subst q;rw [z4] at hoe;cases hoe;simp at hce
  exact Pf z4 (by simp) λg5 _ s5=>fin g5 e (λc o c1 c2 c3 c4 q=>s5.extBut _ _ c1 (s4 _ _ c4 (s3.extBut _ _ c2 (s2.extBut _ _ c3 (s1.extBut _ _ c1 q))))) ⟨oe,s5.extBut _ _ ez hoe,hce⟩
noncomputable abbrev zG(h:Heap)(o1 o2:Obj):Heap:=((((h.push o1).push o2).push {cls:=.type "tuple",data:=.seq #[.ref h.objs.size,.ref (h.push o1).objs.size]}).push {cls:=.type "tuple",data:=.seq #[.none,.none]}).push {cls:=.type "zip",data:=.fields #[.none,.bool false,.bool false,.ref ((h.push o1).push o2).objs.size,.ref (((h.push o1).push o2).push {cls:=.type "tuple",data:=.seq #[.ref h.objs.size,.ref (h.push o1).objs.size]}).objs.size]}
noncomputable abbrev zA(h:Heap)(o1 o2:Obj):Addr:=((((h.push o1).push o2).push {cls:=.type "tuple",data:=.seq #[.ref h.objs.size,.ref (h.push o1).objs.size]}).push {cls:=.type "tuple",data:=.seq #[.none,.none]}).objs.size
noncomputable abbrev zO (n : String) (l : Addr) : Obj := { cls := .type n, data := .fields #[.ref l, .int 0 0] }
theorem gJ(h:Heap)(o1 o2:Obj)(f1:o1.isFreed=false)(f2:o2.isFreed=false):SV (zG h o1 o2) (h.objs.size+4) (h.objs.size+2) (h.objs.size+3) .none/\Qz (zG h o1 o2) (h.objs.size+2) (.ref h.objs.size) (.ref (h.objs.size+1))/\Qz (zG h o1 o2) (h.objs.size+3) .none .none/\(zG h o1 o2).get? h.objs.size=some o1/\(zG h o1 o2).get? (h.objs.size+1)=some o2/\(zG h o1 o2).objs.size=h.objs.size+5/\∀c o,h.get? c=some o->(zG h o1 o2).get? c=some o:=by
 have z1:(h.push o1).objs.size=h.objs.size+1:=Nq ..
 have z2:((h.push o1).push o2).objs.size=h.objs.size+2:=by rw [Nq,z1]
 have z3:(((h.push o1).push o2).push {cls:=.type "tuple",data:=.seq #[.ref h.objs.size,.ref (h.push o1).objs.size]}).objs.size=h.objs.size+3:=by rw [Nq,z2]
 have z4:((((h.push o1).push o2).push {cls:=.type "tuple",data:=.seq #[.ref h.objs.size,.ref (h.push o1).objs.size]}).push {cls:=.type "tuple",data:=.seq #[.none,.none]}).objs.size=h.objs.size+4:=by rw [Nq,z3]
 refine⟨?_,?_,?_,?_,?_,by rw [Nq,z4],λc o e=>MO _ (MO _ (MO _ (MO _ (MO _ e))))⟩
 ·have g:(zG h o1 o2).get? _=some _:=MS _ rfl
  rw [z4,z2,z3] at g
  exact g
 ·have g:(zG h o1 o2).get? _=some _:=MO _ (MO _ (MS ((h.push o1).push o2) (o:={cls:=.type "tuple",data:=.seq #[.ref h.objs.size,.ref (h.push o1).objs.size]}) rfl))
  rw [z2,z1] at g
  exact g
 ·have g:(zG h o1 o2).get? _=some _:=MO _ (MS (((h.push o1).push o2).push {cls:=.type "tuple",data:=.seq #[.ref h.objs.size,.ref (h.push o1).objs.size]}) (o:={cls:=.type "tuple",data:=.seq #[.none,.none]}) rfl)
  rw [z3] at g
  exact g
 ·exact MO _ (MO _ (MO _ (MO _ (MS _ f1))))
 ·have g:(zG h o1 o2).get? _=some _:=MO _ (MO _ (MO _ (MS (h.push o1) f2)))
  rw [z1] at g
  exact g
theorem rS(l1 l2:Addr)(xs ys:Array OL):
 Tc (OW.«zip.__new__» ⟨[.type "zip",.ref l1,.ref l2],[]⟩) (λ_ R s=>s.heap.IsTuple l1 xs/\s.heap.IsList l2 ys/\R (.ok (.ret (.ref (zA s.heap (zO "tuple_iterator" l1) (zO "list_iterator" l2))))) {s with heap:=zG s.heap (zO "tuple_iterator" l1) (zO "list_iterator" l2)}):=
 .of_wp λprog w A R s h=>by
  obtain⟨hp,g,d,tk,os⟩:=s;obtain⟨hl1,hl2,h⟩:=h
  have hsub:=SW
  have hL1:=hl1
  have hL2:Heap.IsList (OO.heap ⟨hp.push (zO "tuple_iterator" l1),g,d,tk,os⟩) l2 ys:=Heap.IsList.push hl2 _
  wp_walk using O5 hL1,Py hL2
  exact⟨_,rfl,h⟩
theorem qT(h:Heap)(o1 o2:Obj):zA h o1 o2=h.objs.size+4:=by
 unfold zA
 rw [Nq,Nq,Nq,Nq]
theorem uc(hl1:s.heap.IsTuple l1 xs)(hl2:s.heap.IsList l2 ys)(h:Q (.ref (s.heap.objs.size+4)) {s with heap:=zG s.heap (zO "tuple_iterator" l1) (zO "list_iterator" l2)}):
 OT (model prog w) A (call (.type "zip") [.ref l1,.ref l2]) Q E s:=by
 refine QZ F.called_zip (by decide) (F.typeCall_zip_2 _ _) (F.newCall_zip_2 _ _) (λobj=>F.args_object_init_3 obj _ _) F.entry_zip_new (rS l1 l2 xs ys) ⟨hl1,hl2,?_⟩
 have g:=(gJ s.heap (zO "tuple_iterator" l1) (zO "list_iterator" l2) rfl rfl).1
 rw [qT]
 exact⟨⟨_,g,rfl⟩,h⟩
end
theorem cM{a b:Nat}(h:a<b\/b<a):a≠b:=by lia
theorem yn(n l1 l2:Nat)(h1:l1<n)(h2:l2<n):ZA (n+4) (n+2) (n+3) n (n+1) [l1] [l2]:=by
 have o:∀l:Nat,l<n->l≠n+4/\l≠n+3/\l≠n/\l≠n+1:=λl h=>⟨cM (by lia),cM (by lia),cM (by lia),cM (by lia)⟩
 exact⟨cM (.inl (by lia)),cM (.inl (by lia)),cM (.inl (by lia)),cM (.inl (by lia)),cM (.inl (by lia)),cM (.inr (by lia)),cM (.inr (by lia)),cM (.inr (by lia)),cM (.inr (by lia)),cM (.inl (by lia)),λc hc=>by rw [List.mem_singleton.mp hc];exact o l1 h1,λc hc=>by rw [List.mem_singleton.mp hc];exact o l2 h2⟩
section
variable{prog:OR}{w:OV}{A:OY}{E:OL->OO->Prop}{s:OO}{x y:Str}{t u:Tok}{Q:OL->OO->Prop}
end
def BR:List V->Hp->VK->Prop:=λxs H Q=>∃l ys,xs= [.ref l]/\H l=some (.lst ys)/\∀p H',H p=none->Same H H'->H' p=some (.tup ys)->Q (.ref p) H'
theorem kD{X:Cx}:bD X (.type "tuple") BR:=by
 intro Ti s σ H xs us Q I r h
 obtain⟨l,ys,rfl,hl,q⟩:=h
 obtain⟨u,rfl,ru⟩:=dR r
 cases ru
 obtain⟨its,rv,pl,hz⟩:=I.list (SqL.of hl)
 have le:its.length<=ON:=by have:=rv.length;lia
 refine call_tuple_list pl.isList (λh' hk=>?_) (by simpa using le)
 have I1:=I.kept (t':=s.toks) hk
 have fr:H h'.objs.size=none:=I1.hok.fresh (Nat.le_refl _)
 have I2:=I1.laid (a:=h'.objs.size) (o:=.tup ys) (t':=s.toks) (h':=h'.push {cls:=.type "tuple",data:=.seq its.toArray}) (λb u e=>MO _ e) (Nat.le_refl _) ⟨hz,its,rv,⟨_,MS _ rfl,rfl,_,rfl⟩⟩
 exact⟨.ref h'.objs.size,_,I2,rfl,q _ _ fr (aZ fr _) aC⟩
def KD(P:OR)(w:OV)(K:N5)(a:Addr)(kvs:List (Key×V)):Prop:=∃(o:Obj) (vs:List (Key×OL)),K.lookup a=some o/\(a==Pi)=false/\KV kvs vs/\∀h:Heap,h.get? a=some o->h.DictOf (aN P w) a vs
section
variable{X:Cx}{i o:Expr}{ty:TE}{pos:Pos}{a:Addr}{kvs:List (Key×V)}
theorem CQ(kd:KD X.prog X.w X.K a kvs)(hi:PE X i ty)(ho:PE X o (tC (.ref a))):PC X .In i o (λσ H Q=>ty σ H λy H2=>∃k,ej y=some k/\Q (.bl (bL kvs k).isSome) H2):=by
 obtain⟨ob,vs,h1,h2,h3,h4⟩:=kd
 intro Ti s σ H Q I h
 refine thn (hi Ti s σ H _ I h) λiv s1 ⟨y,H1,I1,ry,k,ek,q1⟩=>thn (ho Ti s1 σ H1 (λx H2=>x= .ref a/\Q (.bl (bL kvs k).isSome) H2) I1 ⟨rfl,q1⟩) λu s2 z=>?_
 obtain⟨x,H2,I2,rx,ex,q2⟩:=z
 subst ex
 obtain rfl:u=OL.ref a:=rx
 have dd:=h4 _ (I2.kIn a ob h1)
 rw [lj ek] at ry
 refine wpAny_in_of (iE ry) h2 dd.mapOf ?_
 rw [<-(h3.val k).isSome_eq]
 exact⟨.bl _,H2,I2.tok _,rfl,q2⟩
end
section
variable{M:Model}{A:OY}{E:OL->OO->Prop}{s:OO}{base:Heap}{env:Env}{outer:List Env}{L x:Addr}{oe:Obj}{vs:Array OL}{Q:Unit->OO->Prop}
end
section
variable{X:Cx}{scope:Ql}{cl:List (Str×Addr)}{N:List Str}{C:Addr}{fp:List Addr}{s₀:OO}{H₀:Hp}{Ti:List (Addr×Obj)}{σ:St}{H:Hp}{s:OO}
end
section
variable{P:OR}{w:OV}{K:N5}{mg:Str->Option OL}{base:Heap}{N:List Str}{qual:Str}{scope:Ql}{f:Addr}{cd:OL}{A:OY}{outer:List Env}{s:OO}{H:Hp}{E:XK}
end
section
variable{X:Cx}{scope:Ql}{cl:List (Str×Addr)}{N:List Str}{cap:List Nat}{k:Nat}{tg:Expr}{g:TG}{pos:Pos}{iter elt:Expr}{ifs:List Expr}{wi:TI}{tc:TT}{te:TE}
end
section
variable{prog:OR}{w:OV}{A:OY}{E:OL->OO->Prop}{s:OO}{z TI TO i j:Addr}{f2:List Addr}{T2:Nat->Heap->Prop}{e2:Nat->Option OL}
end
section
variable{prog:OR}{w:OV}
theorem uS(i d:Addr)(o:Obj)(vs:List (Key×OL))(ep:Nat)(ne:d≠i)(D0:∀h:Heap,h.get? d=some o->h.DictAt (aN prog w) d vs ep):
 Nx prog w i [d] (λk h=>h.IsValIter i d k vs.length ep/\h.get? d=some o) (λk=>(vs[k]?).map (·.2)) where
 keep:=λk h h' ⟨⟨oi,e,r⟩,h2⟩ kp=>⟨⟨oi,kp i (.inl rfl) oi e,r⟩,kp d (.inr (by simp)) o h2⟩
 obj:=λk h ⟨⟨oi,e,c,dd⟩,_⟩=>⟨oi,e,λv z=>(by rw [dd] at z;cases z),λz=>(by rw [c] at z;simp at z)⟩
 next:=λA k x s Q E ⟨h1,h2⟩ hx q=>by
  obtain⟨oi,hoi,hci,hdi⟩:=id h1
  obtain⟨od,es,hod,_,hdd,_,hp,_⟩:=D0 _ h2
  obtain⟨⟨kk,vv⟩,hkv,rfl⟩:=Option.map_eq_some_iff.mp hx
  unfold OW.SmallTypes.nextOf
  refine OK (O0 (name:=Str.ofString "__next__") h1.typeIs F.slot_dict_valueiterator_next (O3 F.slot_dict_valueiterator_next h1.typeIs F.entry_dict_valueiterator_next ?_ (F.args_dict_valueiterator_next_1 _)))
  refine OK (OM (OK (OK ?_)))
  first | refine OK (Pj h1.typeIs (OM (OK (Qs hoi hdi ?_)))) | refine OK (Pz h1.typeIs (OM (OK (Qs hoi hdi ?_))))
  have own:OW.Dict_items.ownsTuple "dict_valueiterator" =false:=by decide
  have ii:es.size=vs.length:=by rw [<-hp.length];simp
  simp only [own,NC,if_false]
  show OT _ _ (if (OL.ref d==OL.none)=true then _ else _) _ _ s
  rw [Tf (show ¬((OL.ref d==OL.none)=true) from Bool.false_ne_true)]
  refine OK (OM (OK (wpAny_dictEntries hod hdd ?_)))
  rw [Tf (by rw [ii];simp)]
  refine OK (OM (OK (wpAny_dictEpoch hod hdd ?_)))
  rw [Tf (by simp)]
  have lt:k<es.size:=by rw [ii];exact(List.getElem?_eq_some_iff.mp hkv).1
  have val:es[k].val=vv:=(hp.get? (e:=es[k]) (by simp [lt]) hkv).2
  refine OM ?_
  simp only [show ¬((k:Int)<0) from by lia,if_false,NB,Array.getElem?_eq_getElem lt]
  refine OK ?_
  first | refine OK (Pj h1.typeIs (OM (OK (PR h1.typeIs ?_)))) | refine OK (Pz h1.typeIs (OM (OK (PR h1.typeIs ?_))))
  show OT _ _ (SE (.ref i) 1 (Qy ((k:Int)+1)) >>= _) _ _ s
  have sb:=Heap.SameBut.update s.heap i (Obj.mapFields (·.setIfInBounds 1 (Qy ((k:Int)+1))))
  have it':(s.heap.update i (Obj.mapFields (·.setIfInBounds 1 (Qy ((k:Int)+1))))).IsValIter i d (k+1) vs.length ep:=
   ⟨_,Heap.get?_update_self _ hoi (Obj.isFreed_of_fields (Obj.data_mapFields hdi _)),(Obj.cls_mapFields ..).trans hci,by rw [Obj.data_mapFields hdi];simp [Qy]⟩
  refine OK (Qr hoi hdi (by simp) (OK (OZ ?_)))
  refine OK (PR (s:={s with heap:=_}) it'.typeIs (OK (PR (s:={s with heap:=_}) it'.typeIs ?_)))
  show OT _ _ (pure es[k].val) _ _ _
  exact OM (OM ⟨_,rfl,OM (val▸q _ ⟨it',(sb.2 d ne).trans h2⟩ sb)⟩)
 done := fun A k s Q E hh ⟨h1, h2⟩ hx q => by
   obtain⟨oi,hoi,hci,hdi⟩:=id h1
   obtain⟨od,es,hod,_,hdd,_,hp,_⟩:=D0 _ h2
   have hx:vs[k]? =none:=Option.map_eq_none_iff.mp hx
   unfold OW.SmallTypes.nextOf
   refine OK (O0 (name:=Str.ofString "__next__") h1.typeIs F.slot_dict_valueiterator_next (O3 F.slot_dict_valueiterator_next h1.typeIs F.entry_dict_valueiterator_next ?_ (F.args_dict_valueiterator_next_1 _)))
   refine OK (OM (OK (OK ?_)))
   first | refine OK (Pj h1.typeIs (OM (OK (Qs hoi hdi ?_)))) | refine OK (Pz h1.typeIs (OM (OK (Qs hoi hdi ?_))))
   have own:OW.Dict_items.ownsTuple "dict_valueiterator" =false:=by decide
   have ii:es.size=vs.length:=by rw [<-hp.length];simp
   simp only [own,NC,if_false]
   show OT _ _ (if (OL.ref d==OL.none)=true then _ else _) _ _ s
   rw [Tf (show ¬((OL.ref d==OL.none)=true) from Bool.false_ne_true)]
   refine OK (OM (OK (wpAny_dictEntries hod hdd ?_)))
   rw [Tf (by rw [ii];simp)]
   refine OK (OM (OK (wpAny_dictEpoch hod hdd ?_)))
   rw [Tf (by simp)]
   have ge:es.size<=k:=by rw [ii];simpa using hx
   refine OM ?_
   simp only [show ¬((k:Int)<0) from by lia,if_false,NB,Array.getElem?_eq_none ge]
   refine OK ?_
   first | refine OK (Pj h1.typeIs (OM ?_)) | refine OK (Pz h1.typeIs (OM ?_))
   show OT _ _ (SE (.ref i) 0 .none >>= _) _ _ s
   refine OK (Qr hoi hdi (by simp) ?_)
   show OT _ _ (newExc (.type "StopIteration") [] >>= _) _ _ _
   refine OK ?_
   simp only [newExc,newTuple]
   refine OK (Pd (OK (m:=Rh _ _) (P8 (a:=OL.none) (by first | rfl | (simp only [Rh];rfl)) (Pd ?_ (by size_fits)))) (by size_fits))
   simp only [raiseNew]
   refine OK (wpAny_handled ?_)
   first | rw [show A.in1.handled=none from hh] | rw [hh]
   exact OK (OM (wpAny_throw (q _ _ (((Heap.SameBut.update ..).extBut.push _).push _) ⟨_,MS _ rfl,rfl⟩)))
end
def DV(p d:Addr):HO:=.ext λh=>h.IsValuesView p d
def nV(tl:TE):TE:=λσ H Q=>tl σ H λx H1=>∃d kvs,x= .ref d/\H1 d=some (.dK kvs)/\∀p H',H1 p=none->Same H1 H'->H' p=some (DV p d)->Q (.ref p) H'
theorem mG{X:Cx}{l:Expr}{tl:TE}{apos cpos:Pos}(hl:PE X l tl)(hbase:Pe l "values" X.env (eval l X.env)=eval l X.env:=by rfl)(hline:(apos.endLine==cpos.line)=true:=by rfl):
 PE X (.Call (.Attribute l "values" apos) [] [] cpos) (nV tl):=by
 intro Ti s σ H Q I h
 refine Pm hbase hline (thn (hl Ti s σ H _ I h) λv s1 y=>?_)
 obtain⟨x,H1,I1,r1,d,kvs,e,hd,q⟩:=y
 subst e
 cases r1
 obtain⟨z1,z2,vs,rel,dof⟩:=eV I1.hok hd
 obtain⟨h1,h2⟩:=gR (T:="dict") I1 (show RelV (.ref d) (.ref d) from rfl) (.inr (.inr (.inl ⟨rfl,.inl ⟨_,hd⟩⟩)))
 refine⟨"dict","dict.values",Pg,PB,QC,h1,h2,Calls.callWith_builtin rfl (PH ?_)⟩
 refine PY PB h1 Qu (Qn _) (meets_dict_values (aN X.prog X.w) d z2) ⟨⟨vs,dof⟩,?_⟩
 have fr:=I1.hok.fresh (Nat.le_refl s1.heap.objs.size)
 refine⟨.ref s1.heap.objs.size,upd H1 s1.heap.objs.size (DV s1.heap.objs.size d),I1.laid (t':=s1.toks) (λb o q=>MO _ q) (Nat.le_refl _) ⟨⟨_,MS _ rfl,rfl,rfl⟩,⟨_,MS _ rfl⟩,λg g' z k=>by obtain⟨o,e,r⟩:=z;exact⟨o,k o e,r⟩⟩,rfl,q _ _ fr (aZ fr _) aC⟩
noncomputable abbrev zOv(d:Addr)(n ep:Nat):Obj:={cls:=.type "dict_valueiterator",data:=.fields #[.ref d,.int 0 0,.int n 0,.int ep 0]}
section
variable{prog:OR}{w:OV}
end
def nW(nf:Addr->Prop)(wi:TI)(g:TG)(tb:TS):TS:=λD=>rq wi g tb {D with nx:=λσ' H'=>∃d o kvs,nf d/\H' d=some (.frz o (.dK kvs))/\D.nx σ' (upd H' d (.dK kvs))}
theorem uT{X:Cx}{tg iter:Expr}{body:List Stmt}{wi:TI}{g:TG}{tb:TS}{pos:Pos}(hp:O1 (model X.prog X.w) X.A X.env X.xe)(hc:X.calm=true)(hi:PI X tg iter wi)(hg:PG X tg g)(hb:PSs X body tb)
 (hs:∀x,Pq iter X.env x=pure x:=by intro _;rfl):PS X (.For tg iter body [] pos) (nW (mw X) wi g tb):=by
 intro Ti s σ H D I h
 refine thn (cB hp hc hi hg hb hs Ti s σ H _ I h) λfl s' q=>?_
 cases fl with
 | next=>
  obtain⟨σ',H',I',d,o,kvs,nf,hd,q⟩:=q
  obtain⟨_,z⟩:=(show ObjOk X.prog X.w H' s'.heap d (.frz o (.dK kvs)) from I'.hok d _ hd)
  refine⟨σ',_,I'.retag hd (λ_ z=>by cases z) nf (λ_ z=>by cases z) (λ_ z=>by cases z) ?_,q⟩
  exact z
 | _=>exact q
section
variable{prog:OR}{w:OV}
theorem rT(p d l2:Addr)(vs:List (Key×OL))(ep:Nat)(ys:Array OL):
 MeetsIn prog w (OW.«zip.__new__» ⟨[.type "zip",.ref p,.ref l2],[]⟩) (λ_ R s=>s.heap.IsValuesView p d/\s.heap.DictAt (aN prog w) d vs ep/\s.heap.IsTuple l2 ys/\R (.ok (.ret (.ref (zA s.heap (zOv d vs.length ep) (zO "tuple_iterator" l2))))) {s with heap:=zG s.heap (zOv d vs.length ep) (zO "tuple_iterator" l2)}):=
 .of_wp λA R s h=>by
  obtain⟨hp,g,dr,tk,os⟩:=s;obtain⟨hv,hm,hl2,h⟩:=h
  have hsub:=SW
  have hV:=hv
  have hM:=hm
  have hL2:Heap.IsTuple (OO.heap ⟨hp.push (zOv d vs.length ep),g,dr,tk,os⟩) l2 ys:=(by obtain⟨o,e,r⟩:=hl2;exact⟨o,MO _ e,r⟩)
  wp_walk using wpAny_pyIter_values hV hM,O5 hL2
  exact⟨_,rfl,h⟩
end
theorem ud(hv:s.heap.IsValuesView p d)(hm:s.heap.DictAt (aN prog w) d vs ep)(hl2:s.heap.IsTuple l2 ys)
 (h:Q (.ref (s.heap.objs.size+4)) {s with heap:=zG s.heap (zOv d vs.length ep) (zO "tuple_iterator" l2)}):OT (model prog w) A (call (.type "zip") [.ref p,.ref l2]) Q E s:=by
 refine callType_newIn F.called_zip (by decide) (F.typeCall_zip_2 _ _) (F.newCall_zip_2 _ _) (λobj=>F.args_object_init_3 obj _ _) F.entry_zip_new (rT p d l2 vs ep ys) ⟨hv,hm,hl2,?_⟩
 have g:=(gJ s.heap (zOv d vs.length ep) (zO "tuple_iterator" l2) rfl rfl).1
 show _/\_
 rw [qT]
 exact⟨⟨_,g,rfl⟩,h⟩
def FP(K:N5)(d:Addr)(o:Obj)(kvs:List (Key×V))(b:Addr):It:=
 ⟨λi H=>i<kvs.length/\H d=some (.frz o (.dK kvs))/\∃ys y,SqT K H b ys/\ys[i]? =some y,λi H v H'=>∃p k x y,v= .ref p/\H p=none/\Same H H'/\H' p=some (.tup [x,y])/\kvs[i]? =some (k,x)/\∀ys,SqT K H b ys->ys[i]? =some y,λi H=>H d=some (.frz o (.dK kvs))/\∃ys,SqT K H b ys/\(kvs.length<=i\/ys.length<=i)⟩
theorem yo{K:N5}{TI TO:Addr}(D:ZA z TI TO i1 i2 [d] [b])(rel:KV kvs vs)(D0:∀h:Heap,h.get? d=some o->h.DictAt (aN P w) d vs ep):
 j8 P w K (.Tuple elts kk tpos) (FP K d o kvs b) [z,TI,TO,i1,i2] z (λi h=>SV h z TI TO .none/\Qz h TI (.ref i1) (.ref i2)/\(∃x y,Qz h TO x y)/\h.IsValIter i1 d i vs.length ep/\h.IsTupleIter i2 b i) where
 mem:=by simp
 obj:=λi h st c hc=>by
  obtain⟨h1,h2,⟨x,y,h3⟩,⟨o4,e4,c4,d4⟩,⟨o5,e5,c5,d5⟩⟩:=st
  simp only [Na,MT,or_false] at hc
  rcases hc with rfl | rfl | rfl | rfl | rfl
  ·exact⟨_,h1,λv q=>by
    have q':=q
    cases q'⟩
  ·exact⟨_,h2,λv q=>by
    have q':=q
    cases q'⟩
  ·exact⟨_,h3,λv q=>by
    have q':=q
    cases q'⟩
  ·exact⟨o4,e4,λv q=>by rw [d4] at q;cases q⟩
  ·exact⟨o5,e5,λv q=>by rw [d5] at q;cases q⟩
 keep:=λi h h' zz k=>by obtain⟨h1,h2,⟨x,y,h3⟩,⟨o4,e4,r4⟩,h5⟩:=zz;exact⟨k z (by simp) _ h1,k TI (by simp) _ h2,⟨x,y,k TO (by simp) _ h3⟩,⟨o4,k i1 (by simp) _ e4,r4⟩,(by obtain⟨o5,e5,r5⟩:=h5;exact⟨o5,k i2 (by simp) _ e5,r5⟩)⟩
 item:=by
  intro X hP hw hK hc i Ti s σ H E I hf st hg
  subst hP hw hK
  obtain⟨hi,hd,ys,y,hq2,hy⟩:=hg
  obtain⟨h1,h2,⟨p,q,h3⟩,h4,h5⟩:=st
  obtain⟨ho,_⟩:=(I.hok d _ hd)
  obtain⟨u,hu,ru⟩:=kz rel (k:=kvs[i].1) (x:=kvs[i].2) (MR hi)
  obtain⟨its2,rv2,p2,hz2⟩:=I.tuple hq2
  obtain⟨v,hv,rv⟩:=rv2.get hy
  have zl:∀c∈[z,TI,TO,i1,i2],c<s.heap.objs.size:=λc hc=>by
   simp only [Na,MT,or_false] at hc
   rcases hc with rfl | rfl | rfl | rfl | rfl
   ·exact M3 h1
   ·exact M3 h2
   ·exact M3 h3
   ·obtain⟨_,e,_⟩:=h4;exact M3 e
   ·obtain⟨_,e,_⟩:=h5;exact M3 e
  refine CP D (uS i1 d o vs ep (D.a1 d (by simp)).2.2.1 D0) (dM i2 b its2.toArray (D.a2 b (by simp)).2.2.2) h1 h2 h3 ⟨h4,ho⟩ ⟨h5,p2⟩ (by rw [hu];rfl) (by simpa using hv) λh' z' o' t1' t2' p' sz' kp=>?_
  refine⟨_,rfl,wpAny_letOwnedTupleGo_zip z' λh'' z'' sb=>?_⟩
  have I1:Inv X Ti σ (upd H s.heap.objs.size (.tup [kvs[i].2,y])) {s with heap:=s.heap.push {cls:=.type "tuple",data:=.seq #[u,v]},toks:=s.toks}:=
   I.laid (λb o q=>MO _ q) (Nat.le_refl _) ⟨by show 2<=ON;decide,[u,v],.cons ru (.cons rv .nil),⟨_,MS _ rfl,rfl,_,rfl⟩⟩
  have hf':∀c∈[z,TI,TO,i1,i2],eQ X Ti (upd H s.heap.objs.size (.tup [kvs[i].2,y])) c:=λc hc=>by
   refine⟨?_,(hf c hc).2⟩
   rw [aI (Nf (zl c hc))]
   exact(hf c hc).1
  have I2:Inv X Ti σ (upd H s.heap.objs.size (.tup [kvs[i].2,y])) {s with heap:=h'',toks:=s.toks}:=I1.turnedL (λc o hc q=>by
   simp only [Na,MT,or_false,not_or] at hc
   apply (sb.2 c hc.1).trans
   by_cases hT:c=s.heap.objs.size
   ·subst hT
    have q':(s.heap.push {cls:=.type "tuple",data:=.seq #[u,v]}).get? s.heap.objs.size=some o:=q
    rw [MS _ rfl] at q'
    cases q'
    exact p'
   ·have q':(s.heap.push {cls:=.type "tuple",data:=.seq #[u,v]}).get? c=some o:=q
    rw [NG _ _ _ hT] at q'
    exact kp c o hc.1 hc.2.2.1 hc.2.2.2.1 hc.2.2.2.2 q') hf'
  have up:∀c o,c≠z->h'.get? c=some o->h''.get? c=some o:=λc o n e=>(sb.2 c n).trans e
  have ti':=kp TI _ D.tz D.to D.ti D.tj h2
  obtain⟨⟨o4,e4,r4⟩,_⟩:=t1'
  refine⟨.ref s.heap.objs.size,_,I2,rfl,⟨_,kvs[i].1,kvs[i].2,y,rfl,I.hok.fresh (Nat.le_refl _),aZ (I.hok.fresh (Nat.le_refl _)) _,aC,MR hi,λys' h=>by rw [I.tuple_inj h hq2];exact hy⟩,⟨z'',up _ _ D.tz ti',⟨_,_,up _ _ D.oz o'⟩,⟨o4,up _ _ D.iz e4,r4⟩,(by obtain⟨⟨o5,e5,r5⟩,_⟩:=t2';exact⟨o5,up _ _ D.jz e5,r5⟩)⟩,λc hc=>(hf' c hc).1⟩
 done := by
   intro X hP hw hK hc i Ti s σ H E I hf st hg
   subst hP hw hK
   obtain⟨hd,ys,hq2,hx⟩:=hg
   obtain⟨h1,h2,⟨p,q,h3⟩,h4,h5⟩:=st
   obtain⟨ho,_⟩:=(I.hok d _ hd)
   obtain⟨its2,rv2,p2,hz2⟩:=I.tuple hq2
   have l1:=rel.length
   have l2:=rv2.length
   refine ym (I.ok.hd hc) D (uS i1 d o vs ep (D.a1 d (by simp)).2.2.1 D0) (dM i2 b its2.toArray (D.a2 b (by simp)).2.2.2) h1 h2 h3 ⟨h4,ho⟩ ⟨h5,p2⟩ (hx.imp (λh=>by rw [NL (by lia)];rfl) λh=>by simp;lia) λh' kp=>⟨rfl,I.turnedL (λc o hc e=>?_) hf⟩
   simp only [Na,MT,or_false,not_or] at hc
   exact kp c o hc.1 hc.2.2.1 hc.2.2.2.1 hc.2.2.2.2 e
 self:=λ_ _ _ _ _ st h=>QN st.1 h
def wz(K:N5)(nf:Addr->Prop)(ta:TA):TI:=λσ H R=>ta σ H λvs H1=>∃p d b kvs,vs= [.ref p,.ref b]/\H1 p=some (DV p d)/\H1 d=some (.dK kvs)/\(∃ys,SqT K H1 b ys)/\∀o,nf d->R (FP K d o kvs b) (upd H1 d (.frz o (.dK kvs)))
theorem uU{p pos tpos:Pos}{elts:List Expr}{kk:Nat}(hg:Gl X "zip")(hm:X.mg "zip" =none)(ha:PA X [a,b] ta)(hs:OU [a,b] X.env=(false,eval a X.env)::OU [b] X.env:=by rfl)(hs2:OU [b] X.env= [(false,eval b X.env)]:=by rfl):
 PI X (.Tuple elts kk tpos) (.Call (.Name "zip" p) [a,b] [] pos) (wz X.K (mw X) ta):=by
 intro Ti s σ H R I h
 refine Call_ (eO I hg hm (show Pa "zip" =some (.type "zip") by decide) (O4 (thn (ha pos Ti s σ H _ I h) λus s1 y=>?_) hs (by rw [hs2];rfl)))
 obtain⟨vs,H1,I1,r1,q1⟩:=y
 obtain⟨pv,d,l2,kvs,e,hpv,hd,⟨ys,hq2⟩,q⟩:=q1
 subst e
 cases r1 with
 | cons r rr=>
  cases rr with
  | cons r' rr=>
   cases rr
   cases r
   cases r'
   obtain⟨z1,z2,ws,rel,o,es,ep,ho,rd⟩:=eV I1.hok hd
   have D0:∀h:Heap,h.get? d=some o->h.DictAt (aN X.prog X.w) d ws ep:=λh e=>⟨o,es,e,rd⟩
   have nf:=I1.nofz hd
   have If:Inv X Ti σ (upd H1 d (.frz o (.dK kvs))) s1:=I1.retag hd (λ_ z=>by cases z) nf (λ_ z=>by cases z) (λ_ z=>by cases z) ⟨ho,z1,z2,ws,rel,o,es,ep,ho,rd⟩
   have vw:=(I1.hok pv _ hpv).1
   obtain⟨its2,rv2,p2,hz2⟩:=I1.tuple hq2
   have b1:=M3 ho
   have b2:l2<s1.heap.objs.size:=by obtain⟨_,e,_⟩:=p2;exact M3 e
   apply ud vw (D0 _ ho) p2
   obtain⟨y1,y2,y3,y4,y5,y6,y7⟩:=gJ s1.heap (zOv d ws.length ep) (zO "tuple_iterator" l2) rfl rfl
   have D:=yn _ _ _ b1 b2
   refine QN y1 ⟨_,_,_,_,_,rfl,If.kept y7,yo D rel D0,⟨y1,y2,⟨_,_,y3⟩,⟨_,y4,rfl,rfl⟩,⟨_,y5,rfl,rfl⟩⟩,λc hc=>?_,q o nf⟩
   have le:s1.heap.objs.size<=c:=by
    simp only [Na,MT,or_false] at hc
    rcases hc with e | e | e | e | e<;>(rw [e];first | exact Nat.le_refl _ | exact Nn _ _)
   exact If.fpOk le (If.hok.fresh le)
end _L
theorem _L.hideL{a b:_L.TS}{D σ H}(h:let T:=b;_L.cS a T D σ H):_L.cS a b D σ H:=h
theorem _L.hRet{a D σ H}(h:_L.j7 a D σ H):_L.j7 a D σ H:=h
theorem _L.hIf{a b c D σ H}(h:_L.oW a b c D σ H):_L.oW a b c D σ H:=h
theorem _L.hFor{a b c D σ H}(h:_L.rq a b c D σ H):_L.rq a b c D σ H:=h
theorem _L.hDrop{a D σ H}(h:_L.dQ a D σ H):_L.dQ a D σ H:=h
theorem _L.hAsg{a b D σ H}(h:_L.cG a b D σ H):_L.cG a b D σ H:=h
theorem _L.xL0{H:_L.Hp}{a:O9}{v0:List _L.V}{R:List _L.V->Prop}(h:H a=some (.lst v0)):(∃v,H a=some (.lst v)/\R v)=R v0:=propext ⟨λe=>by obtain⟨v,e,r⟩:=e;rw [h] at e;cases e;exact r,λr=>⟨v0,h,r⟩⟩
theorem _L.xL1{H:_L.Hp}{a:O9}{α0:Sort _}{v0:List _L.V}{R:List _L.V->α0->Prop}(h:H a=some (.lst v0)):(∃v x0,H a=some (.lst v)/\R v x0)=∃x0,R v0 x0:=propext ⟨λe=>by obtain⟨v,x0,e,r⟩:=e;rw [h] at e;cases e;exact⟨x0,r⟩,λe=>by obtain⟨x0,r⟩:=e;exact⟨v0,x0,h,r⟩⟩
theorem _L.xT0{H:_L.Hp}{a:O9}{v0:List _L.V}{R:List _L.V->Prop}(h:H a=some (.tup v0)):(∃v,H a=some (.tup v)/\R v)=R v0:=propext ⟨λe=>by obtain⟨v,e,r⟩:=e;rw [h] at e;cases e;exact r,λr=>⟨v0,h,r⟩⟩
theorem _L.xD0{H:_L.Hp}{a:O9}{v0:List (_L.Key×_L.V)}{R:List (_L.Key×_L.V)->Prop}(h:H a=some (.dK v0)):(∃v,H a=some (.dK v)/\R v)=R v0:=propext ⟨λe=>by obtain⟨v,e,r⟩:=e;rw [h] at e;cases e;exact r,λr=>⟨v0,h,r⟩⟩
theorem _L.xI0{H:_L.Hp}{a:O9}{C d0:O9}{f0:List (Q7×_L.V)}{R:O9->List (Q7×_L.V)->Prop}(h:H a=some (.ins C d0 f0)):(∃d f,H a=some (.ins C d f)/\R d f)=R d0 f0:=propext ⟨λe=>by obtain⟨d,f,e,r⟩:=e;rw [h] at e;cases e;exact r,λr=>⟨d0,f0,h,r⟩⟩
theorem _L.xI1{H:_L.Hp}{a:O9}{α0:Sort _}{C d0:O9}{f0:List (Q7×_L.V)}{R:O9->List (Q7×_L.V)->α0->Prop}(h:H a=some (.ins C d0 f0)):(∃d f x0,H a=some (.ins C d f)/\R d f x0)=∃x0,R d0 f0 x0:=propext ⟨λe=>by obtain⟨d,f,x0,e,r⟩:=e;rw [h] at e;cases e;exact⟨x0,r⟩,λe=>by obtain⟨x0,r⟩:=e;exact⟨d0,f0,x0,h,r⟩⟩
theorem _L.xE1{H:_L.Hp}{a:O9}{α0:Sort _}{v0:List _L.V}{R:List _L.V->α0->Prop}(h:H a=some (.tup v0)):(∃v x0,(H a=some (.tup v)\/H a=some (.lst v))/\R v x0)=∃x0,R v0 x0:=propext ⟨λe=>by obtain⟨v,x0,e,r⟩:=e;rw [h] at e;rcases e with e | e<;>cases e;exact⟨x0,r⟩,λe=>by obtain⟨x0,r⟩:=e;exact⟨v0,x0,.inl h,r⟩⟩
theorem _L.xF1{H:_L.Hp}{a:O9}{α0:Sort _}{v0:List _L.V}{R:List _L.V->α0->Prop}(h:H a=some (.lst v0)):(∃v x0,(H a=some (.tup v)\/H a=some (.lst v))/\R v x0)=∃x0,R v0 x0:=propext ⟨λe=>by obtain⟨v,x0,e,r⟩:=e;rw [h] at e;rcases e with e | e<;>cases e;exact⟨x0,r⟩,λe=>by obtain⟨x0,r⟩:=e;exact⟨v0,x0,.inr h,r⟩⟩
def _L.xNames : String := "xD0 xE1 xF1 xI0 xI1 xL0 xL1 xT0 xT1"
open Lean Meta Simp in
simproc_decl exHp (Exists _) := fun e => do
  let _ := _L.xNames
  let mut b := e
  let mut n := 0
  while b.isAppOfArity ``Exists 2 && b.appArg!.isLambda do
    b := b.appArg!.bindingBody!
    n := n + 1
  let_expr And A _ := b | return .continue
  let (o, X) := match_expr A with
    | Or X _ => (true, X)
    | _ => (false, A)
  let_expr Eq _ l r := X | return .continue
  if l.hasLooseBVars then return .continue
  let_expr Option.some _ rc := r | return .continue
  let some c := rc.getAppFn.constName? | return .continue
  for d in (← getLCtx).decls.toList.filterMap id do
    if d.isImplementationDetail then continue
    let ty ← instantiateMVars d.type
    let_expr Eq _ l' r' := ty | continue
    unless l' == l do continue
    let_expr Option.some _ rc' := r' | continue
    let some c' := rc'.getAppFn.constName? | continue
    let (s, k) := if o then
        (if c == `_L.HO.tup then (if c' == `_L.HO.tup then "xE" else "xF") else (if c' == `_L.HO.lst then "xG" else "xJ"), n - 1)
      else if c != c' then ("", 0)
      else if c == `_L.HO.lst then ("xL", n - 1) else if c == `_L.HO.tup then ("xT", n - 1) else if c == `_L.HO.dK then ("xD", n - 1) else if c == `_L.HO.ins && n ≥ 2 then ("xI", n - 2) else ("", 0)
    if s == "" || k > 3 then continue
    let nm := Name.mkStr `_L (s ++ toString k)
    unless (← getEnv).contains nm do continue
    let thm ← mkConstWithFreshMVarLevels nm
    let (ms, _, ty2) ← forallMetaTelescope (← inferType thm)
    let_expr Eq _ a2 b2 := ty2 | continue
    unless (← withReducible (isDefEq a2 e)) do continue
    unless (← isDefEq (← inferType ms.back!) ty) do continue
    ms.back!.mvarId!.assign d.toExpr
    let res ← instantiateMVars b2
    return .visit { expr := res.headBeta, proof? := some (← instantiateMVars (mkAppN thm ms)) }
  return .continue
open Lean Meta Simp in
simproc_decl quickV2 (_L.dF _ _ _ _) := fun e => do
  let_expr _L.dF i s H Q := e | return .continue
  let l ← mkAppM ``GetElem?.getElem? #[s, i]
  let w ← whnfD l
  let_expr Option.some _ o := w | return .continue
  let o' ← whnfD o
  let_expr Option.some _ v := o' | return .continue
  return .visit { expr := (mkApp2 Q v H).headBeta, proof? := some (mkApp6 (mkConst ``_L.qVar) i s H Q v (← mkEqRefl (← mkAppM ``Option.some #[← mkAppM ``Option.some #[v]]))) }
def _L.lzPre2 : String := "lazyAnd reduceIte lazyIte exHp exists_eq_left exists_eq_left' reduceIte _L.exBl _L.exIn _L.exRf _L.exSt _L.exSo quickV2 _L.exIn1 _L.exRf1 _L.exRf2 _L.exRf3 quickVM"
@[elab_as_elim] theorem _L.len1 {α:Type} {p:List α->Prop} (us:List α) (hl:us.length=1) (h:∀a,p [a]):p us:=
 match us,hl with
 | [a],_=>h a
@[elab_as_elim] theorem _L.len2 {α:Type} {p:List α->Prop} (us:List α) (hl:us.length=2) (h:∀a b,p [a,b]):p us:=
 match us,hl with
 | [a,b],_=>h a b
@[elab_as_elim] theorem _L.len3 {α:Type} {p:List α->Prop} (us:List α) (hl:us.length=3) (h:∀a b c,p [a,b,c]):p us:=
 match us,hl with
 | [a,b,c],_=>h a b c
@[elab_as_elim] theorem _L.len4 {α:Type} {p:List α->Prop} (us:List α) (hl:us.length=4) (h:∀a b c d,p [a,b,c,d]):p us:=
 match us,hl with
 | [a,b,c,d],_=>h a b c d
@[elab_as_elim] theorem _L.len5 {α:Type} {p:List α->Prop} (us:List α) (hl:us.length=5) (h:∀a b c d e,p [a,b,c,d,e]):p us:=
 match us,hl with
 | [a,b,c,d,e],_=>h a b c d e
theorem _L.hFld{C f a b D σ H}(h:_L.qS C f a b D σ H):_L.qS C f a b D σ H:=h
theorem _L.hForU{f a b c D σ H}(h:_L.nW f a b c D σ H):_L.nW f a b c D σ H:=h
theorem _L.hRetN{D σ H}(h:_L.qN D σ H):_L.qN D σ H:=h
namespace _L
open PySem PySem.Spec PyProof.Rows
end _L
namespace _L
open PySem PySem.Calls PySem.Spec PyProof.Rows
section
variable{prog:OR}{w:OV}{A:OY}{E:OL->OO->Prop}{s:OO}
end
section
variable{X:Cx}
end
section
variable{prog:OR}{w:OV}{A:OY}{E:OL->OO->Prop}{s:OO}
end
section
variable{X:Cx}
end
end _L
namespace _L
open PySem PySem.Spec PyProof.Rows
def BS:List V->Hp->VK->Prop:=λxs H Q=>∃p ys,xs= [.ref p]/\(H p=some (.tup ys)\/H p=some (.lst ys))/\Q (.int ys.length) H
theorem iK{X:Cx}:bD X (.builtin "len") BS:=by
 intro Ti s σ H xs us Q I r h
 obtain⟨p,ys,e,hp,q⟩:=h
 refine eU Ti s σ H xs us Q I r ⟨p,ys,e,?_,q⟩
 rcases hp with hp | hp
 ·exact .inr (SqT.of hp)
 ·exact .inl (SqL.of hp)
end _L
namespace _L
open PySem
end _L
namespace _L
open PySem PySem.Spec PyProof.Rows
section
variable{X:Cx}{o e f:Expr}{ty tx:TE}{apos cpos:Pos}{a:Addr}{kvs:List (Key×V)}
end
section
variable{X:Cx}
end
section
variable{prog:OR}{w:OV}{A:OY}{E:OL->OO->Prop}
abbrev wA(fs:Array OL):Obj:={cls:=.type "enumerate",dict:=none,data:=.fields fs,slots:= #[]}
theorem nX{h:Heap}{g:Array Rs}{d:Drawn}{tk:Nat}{os:Rk}{e:Addr}{fs:Array OL}{k:Nat}{v:OL}{α:Type}{f:Unit->Sem α}{Q:α->OO->Prop}(he:h.get? e=some (wA fs))(hk:k<fs.size)
 (q:∀h',h'.get? e=some (wA (fs.set! k v))->Heap.SameBut e h h'->OT (model prog w) A (f ()) Q E ⟨h',g,d,tk,os⟩):OT (model prog w) A (SE (.ref e) k v >>= f) Q E ⟨h,g,d,tk,os⟩:=
 OK (Pf he hk λh' he' hs'=>q h' he' hs')
end
open AutoSeq1 renaming wpAny_loadPart'→N6
section
variable{prog:OR}{w:OV}{A:OY}{E:OL->OO->Prop}{s:OO}
end
end _L
namespace _L
open PySem PySem.Spec PyProof.Rows
section
variable{prog:OR}{w:OV}{A:OY}{E:OL->OO->Prop}{s:OO}
end
section
variable{M:Model}{A:OY}{E:OL->OO->Prop}{s:OO}{env:Env}
end
section
variable{prog:OR}{w:OV}{A:OY}{E:OL->OO->Prop}{s:OO}
end
noncomputable def met{K:Type}[DecidableEq K](val:Nat->K):Nat->K->Bool
 | 0,_=>false
 | i+1,k=>met val i k || decide (k=val i)
section
variable{prog:OR}{w:OV}{A:OY}{R:Result->OO->Prop}{I:Addr}{fp wr:List Addr}{G:Array Rs->Array Rs->Prop}{n:Nat}{P:Nat->OL->Prop}{St:Nat->OO->Prop}{K:Type}[DecidableEq K]{knd:Ru prog w K}
end
section
variable{prog:OR}{w:OV}{A:OY}{E:OL->OO->Prop}{s:OO}{K:Type}[DecidableEq K]{knd:Ru prog w K}
end
section
variable{X:Cx}
end
section
variable{X:Cx}{a:Expr}{ta:TE}{pos:Pos}
end
section
variable{prog:OR}{w:OV}{K:Type}[DecidableEq K]{knd:HeapKind prog w K}{A:OY}{E:OL->OO->Prop}{s:OO}
end
section
variable{X:Cx}{Ti:List (Addr×Obj)}{σ:St}{H:Hp}{s:OO}{a b:Addr}{v:V}{r:OL}{A:OY}{E:OL->OO->Prop}{kvs:List (List Key×V)}{k:List Key}
end
section
variable{X:Cx}{o e f:Expr}{apos cpos:Pos}{td ty tx:TE}
end
end _L
namespace _L
open PySem PySem.W
theorem slot_type_ga:Slot "type" "__getattribute__" "type.__getattribute__":=
 Slot.of (owner:="type") (n:="__getattribute__") (by rw [typeLookup_type];rfl) (by decide) (by decide) (by decide) (Or.inl (by decide)) (by rw [isSubtype_type];rfl) (by decide)
theorem qA:entryFor table "type.__getattribute__" =some PySem.Builtin.«type.__getattribute__»:=entryFor_of_tree rfl
theorem rV:Qi (.type "type") "__init__" =pure (some (.builtin "type.__init__")):=by rfl
theorem FQ(X:K.In s.heap)(ty:Qm K (.ref C)=some (.type "type"))(op:nsIn K QJ "thirdparty.any" =some none)(fi:Pb K (.ref C) "__init__" =some (some (.ref f)))(fn:isFn K (.ref f)=true)(q:Q (.done (.ret (.ref f))) s):
 OT (model prog w) A (PySem.Builtin.«type.__getattribute__» {pos:=[.ref C,.str "__init__" tk]}) Q E s:=by
 refine OK (P8 rfl ?_)
 refine OK (looks_opaque X op A _ E s (λ_ _ h=>h) ?_)
 refine OK (Q0 X ty A _ E s (λ_ _ h=>h) ?_)
 refine OK (P8 rV ?_)
 refine OK (Q2 X (r:=some (.builtin "wrapper_descriptor.__get__")) rfl A _ E s (λ_ _ h=>h) ?_)
 refine OK (Q2 X rfl A _ E s (λ_ _ h=>h) ?_)
 refine OK (Q2 X rfl A _ E s (λ_ _ h=>h) ?_)
 refine OK (OM ?_)
 refine OK (looks_findIn X fi A _ E s (λ_ _ h=>h) ?_)
 have tf:Qm K (.ref f)=some (.type "function"):=by
  exact eq_of_beq fn
 refine OK (Q0 X tf A _ E s (λ_ _ h=>h) ?_)
 apply wpAny_ite_true rfl
 exact OM q
theorem ue(X:K.In s.heap)(ty:Qm K (.ref C)=some (.type "type"))(op:nsIn K QJ "thirdparty.any" =some none)(fi:Pb K (.ref C) "__init__" =some (some (.ref f)))(fn:isFn K (.ref f)=true)(q:∀tk,Q (.ref f) {s with toks:=tk}):
 OT (model prog w) A (SU (.ref C) "__init__") Q E s:=by
 refine OK (OK (wpAny_fresh' (OM ?_)))
 apply OZ
 refine OK (Q0 X ty A _ E _ (λ_ _ h=>h) ?_)
 refine OK (P8 slot_type_ga.lookup ?_)
 apply Q3 rfl
 refine OK (Q3 rfl (OM ?_))
 refine OK (Qh (OZ ?_))
 apply Q3 rfl
 refine OK (P8 (slot_type_ga.bind _) ?_)
 refine Sc (codeAny_call_builtin slot_type_ga.plain qA ?_)
 refine slot_type_ga.check (model prog w) A.in1 _ _ (.ref C) [.str "__init__" s.toks] [] _ ?_ ?_ ?_
 ·have ty:(List.lookup C K).map (·.cls)=some (.type "type"):=ty
  cases e:List.lookup C K with
  | none=>simp_all
  | some o=>rw [e] at ty;exact⟨o,X _ _ e,Option.some.inj ty⟩
 ·exact(rfl)
 ·refine FQ X ty op fi fn ?_
  exact OM (q _)
theorem qB(X:K.In s.heap)(ty:Qm K (.ref C)=some (.type "type"))(op:nsIn K QJ "thirdparty.any" =some none)(fi:Pb K (.ref C) "__init__" =some (some (.ref f)))(fn:isFn K (.ref f)=true)(q:∀tk,Q (.ref f,[]) {s with toks:=tk}):
 OT (model prog w) A (PZ (.ref C) "__init__" pl) Q E s:=by
 refine OK (OK (Q0 X ty A _ E _ (λ_ _ h=>h) (P8 slot_type_ga.lookup ?_)))
 apply wpAny_ite_true rfl
 exact OK (ue X ty op fi fn λtk=>OM (q tk))
structure OkI(P:OR)(w:OV)(K:Frag)(mg:Str->Option OL)(base:Heap)(n:Nat)(x:Str)(ps:List Str)(sp:Sp):Prop where
 ex:∃C f fd,mg x=some (.ref C)/\Qm K (.ref C)=some (.type "type")/\nsIn K QJ "thirdparty.any" =some none/\mj K C "__init__" f/\Binds K fd ps []/\eu P w K mg base CX0 n f fd ps sp
theorem CS{p apos pos:Pos}{pl:Sem Bool}(G:OkI X.prog X.w X.K X.mg X.base k x ps sp)(hr:Room n X.A)(hg:Gl X x)(ha:PA X (e::es) t)(hk:k<=n:=by lia)(hdb:(x==("__debug__":Str))=false:=by decide)(hs:(e::es).all bt=true:=by rfl)
 (ht:eval (.Call (.Attribute (.Name x p) "__init__" apos) (e::es) [] pos) X.env=(do
  let ov <-eval (.Name x p) X.env
  QE apos.atName
  let (f,first) <-holding [ov] (PZ ov "__init__" pl)
  Q8 pos f first (PP pos (OU (e::es) X.env)) (P0 pos (Ps [] X.env))):=by rfl):PE X (.Call (.Attribute (.Name x p) "__init__" apos) (e::es) [] pos) (wl sp t):=by
 obtain⟨C,f,fd,hm,ty,op,M,hb,F⟩:=G.ex
 intro Ti s σ H Q I h
 refine NP (ja I hg hm ?_ hdb) ht
 refine qB I.kIn ty op M.at_ M.fn λtk=>?_
 have I1:Inv X Ti σ H {s with toks:=tk}:=I.tok tk
 refine N4 (first:=[]) I.ok.mod.kin M.kp (thn (ha pos Ti _ σ H _ I1 h) λus s2 ⟨vs,H2,I2,r,q2⟩=>⟨I2.kIn,?_⟩) (dy (Bool.and_eq_true_iff.mp hs).1) (c9 (Bool.and_eq_true_iff.mp hs).2)
 have e:=Nv vs
 exact fV F (hr.mono hk) hb .nil fT I2 r (e.symm▸q2)
end _L
namespace _L
open PySem PySem.Spec PyProof.Rows
section
variable{prog:OR}{w:OV}{A:OY}{E:OL->OO->Prop}{s:OO}
variable{z TI TO i j:Addr}{f1 f2:List Addr}{T1 T2:Nat->Heap->Prop}{e1 e2:Nat->Option OL}
theorem Al{R:Result->OO->Prop}(hh:A.handled=none){d:Addr}(D:ZA z TI TO i j f1 f2)(dz:d≠z/\d≠TO/\d≠i/\d≠j)(N1:Nx prog w i f1 T1 e1)(N2:Nx prog w j f2 T2 e2){s:OO}{a b:OL}(hz:SV s.heap z TI TO .none)(hTI:Qz s.heap TI (.ref i) (.ref j))(hTO:Qz s.heap TO a b)(t1:T1 0 s.heap)(t2:T2 0 s.heap)(he:e1 0=none)
 (hm:s.heap.DictOf (aN prog w) d [])
 (hR:∀h' tk,h'.DictOf (aN prog w) d []->(∀b o,b≠d->b≠z->b≠TO->b≠i->b≠j->s.heap.get? b=some o->h'.get? b=some o)->R (.ok (.ret .none)) {s with heap:=h',toks:=tk}):
 QG (model prog w) A (.builtin "dict.update.loop" ⟨[.ref d,.ref z,Qy ((0:Nat):Int),.none],[]⟩) R s:=by
 refine QY fK ?_
 unfold OW.«dict.update.loop»
 show OT _ _ (Ro (.ref z) >>= _) _ _ s
 refine OK (ym hh D N1 N2 hz hTI hTO t1 t2 (.inl he) λh' eb=>?_)
 show OT _ _ (OW.Dict.addKeywords d [] >>= _) _ _ _
 refine OK (OM (OM ?_))
 obtain⟨o,es,ep,ho,r⟩:=hm
 exact hR h' s.toks ⟨o,es,ep,eb _ _ dz.1 dz.2.1 dz.2.2.1 dz.2.2.2 ho,r⟩ λb o _ nz nt ni nj e=>eb b o nz nt ni nj e
theorem pe(a:Addr)(fs:Array OL)(name:Str)(u:Tok)(hmiss:Qi (.type "zip") name=pure none)(hname:[Str.ofString "__module__",Str.ofString "__name__",Str.ofString "__qualname__",Str.ofString "__doc__",Str.ofString "__annotations__"].contains name=false)(hsz:(Str.ofString (toString "'"++toString ((Manifest.find? "zip").elim "zip" λx=>x.tpName)++toString "' object has no attribute '")++name++Str.ofString "'").length<=ON):
 Tc (PySem.Builtin.«object.__getattribute__» {pos:=[.ref a,.str name u]}) λA R s=>s.heap.get? a=some {cls:=.type "zip",data:=.fields fs}/\raisesAttr (.ref a) name A R s:=by
 refine Tc.of_wp λprog w A R s hs=>?_
 obtain⟨hx,hA,hs⟩:=hs
 repeat (any_goals (first | assumption | exact hT _ | wp_step))
 rw [hname]
 repeat (any_goals (first | assumption | exact hT _ | wp_step))
 exact wpAny_raiseAttrError hA (λh' tk e n=>hs h' tk e n) hsz
theorem qC:Qi (.type "zip") "keys" =pure none:=by rfl
theorem mH:Qi (.type "zip") "__getattr__" =pure none:=by rfl
theorem rW:entryFor table "zip.__getattribute__" =some OW.«object.__getattribute__»:=entryFor_alias (by kernel_rfl) rfl (show _= "object.__getattribute__" by decide) (by kernel_rfl)
theorem qD
 (hx:s.heap.get? a=some {cls:=.type "zip",data:=.fields fs}) (hA:A.handled=none)
 (h:∀h' tk,(∀b o,s.heap.get? b=some o->h'.get? b=some o)->Q none {s with heap:=h',toks:=tk}):OT (model prog w) A (getAttr? (.ref a) "keys") Q E s:=by
 obtain⟨hp,g,d,tk,os⟩:=s
 have hT:∀tk',(⟨hp,g,d,tk',os⟩:OO).TypeIs (.ref a) "zip":=λ_=>⟨_,hx,rfl⟩
 have f1:=sub_AttributeError
 have f3:=F.slot_zip_getattribute.lookup
 have f4:=F.slot_zip_getattribute.bind (.ref a)
 have f5:=mH
 unfold getAttr? getAttrBy? getAttrBy
 repeat (any_goals (first | assumption | exact hT _ | ((with_reducible show OT _ _ (call (OL.builtin "zip.__getattribute__") _ _) _ _ _);refine P7 F.slot_zip_getattribute (hT _) rW (F.args_zip_getattribute_2 _ _) (pe a fs "keys" _ qC (by decide) (by decide)) ⟨hx,hA,λh' tk' e hx'=>?_⟩) | wp_step))
 obtain⟨t',u',he⟩:=hx'.there
 show OT _ _ (Qp _ _ _ _ _ _ _) _ _ _
 unfold Qp
 have hE:∀tk',(⟨h',g,d,tk',os⟩:OO).TypeIs (.ref e) "AttributeError":=λ_=>⟨_,he,rfl⟩
 repeat (any_goals (first | assumption | exact hE _ | exact h _ _ hx'.keeps | wp_step))
theorem rX(l1 l2:Addr)(xs ys:Array OL):
 Tc (OW.«zip.__new__» ⟨[.type "zip",.ref l1,.ref l2],[]⟩) (λ_ R s=>s.heap.IsTuple l1 xs/\s.heap.IsTuple l2 ys/\R (.ok (.ret (.ref (zA s.heap (zO "tuple_iterator" l1) (zO "tuple_iterator" l2))))) {s with heap:=zG s.heap (zO "tuple_iterator" l1) (zO "tuple_iterator" l2)}):=
 .of_wp λprog w A R s h=>by
  obtain⟨hp,g,d,tk,os⟩:=s;obtain⟨hl1,hl2,h⟩:=h
  have hsub:=SW
  have hL1:=hl1
  have hL2:Heap.IsTuple (OO.heap ⟨hp.push (zO "tuple_iterator" l1),g,d,tk,os⟩) l2 ys:=by
   obtain⟨o,e,r⟩:=hl2
   exact⟨o,MO _ e,r⟩
  wp_walk using O5 hL1,O5 hL2
  exact⟨_,rfl,h⟩
theorem uf(hl1:s.heap.IsTuple l1 xs)(hl2:s.heap.IsTuple l2 ys)(h:Q (.ref (s.heap.objs.size+4)) {s with heap:=zG s.heap (zO "tuple_iterator" l1) (zO "tuple_iterator" l2)}):
 OT (model prog w) A (call (.type "zip") [.ref l1,.ref l2]) Q E s:=by
 refine QZ F.called_zip (by decide) (F.typeCall_zip_2 _ _) (F.newCall_zip_2 _ _) (λobj=>F.args_object_init_3 obj _ _) F.entry_zip_new (rX l1 l2 xs ys) ⟨hl1,hl2,?_⟩
 have g:=(gJ s.heap (zO "tuple_iterator" l1) (zO "tuple_iterator" l2) rfl rfl).1
 show _/\_
 rw [qT]
 exact⟨⟨_,g,rfl⟩,h⟩
theorem rY(l1 l2:Addr)(xs ys:Array OL):
 Tc (OW.«zip.__new__» ⟨[.type "zip",.ref l1,.ref l2],[]⟩) (λ_ R s=>s.heap.IsList l1 xs/\s.heap.IsTuple l2 ys/\R (.ok (.ret (.ref (zA s.heap (zO "list_iterator" l1) (zO "tuple_iterator" l2))))) {s with heap:=zG s.heap (zO "list_iterator" l1) (zO "tuple_iterator" l2)}):=
 .of_wp λprog w A R s h=>by
  obtain⟨hp,g,d,tk,os⟩:=s;obtain⟨hl1,hl2,h⟩:=h
  have hsub:=SW
  have hL1:=hl1
  have hL2:Heap.IsTuple (OO.heap ⟨hp.push (zO "list_iterator" l1),g,d,tk,os⟩) l2 ys:=by
   obtain⟨o,e,r⟩:=hl2
   exact⟨o,MO _ e,r⟩
  wp_walk using Py hL1,O5 hL2
  exact⟨_,rfl,h⟩
theorem ug(hl1:s.heap.IsList l1 xs)(hl2:s.heap.IsTuple l2 ys)(h:Q (.ref (s.heap.objs.size+4)) {s with heap:=zG s.heap (zO "list_iterator" l1) (zO "tuple_iterator" l2)}):
 OT (model prog w) A (call (.type "zip") [.ref l1,.ref l2]) Q E s:=by
 refine QZ F.called_zip (by decide) (F.typeCall_zip_2 _ _) (F.newCall_zip_2 _ _) (λobj=>F.args_object_init_3 obj _ _) F.entry_zip_new (rY l1 l2 xs ys) ⟨hl1,hl2,?_⟩
 have g:=(gJ s.heap (zO "list_iterator" l1) (zO "tuple_iterator" l2) rfl rfl).1
 show _/\_
 rw [qT]
 exact⟨⟨_,g,rfl⟩,h⟩
end
section
variable{X:Cx}
theorem mI{σ:St}{l1 l2:Addr}(I:Inv X Ti σ H s)(hh:X.A.handled=none)(f1:o1.isFreed=false)(f2:o2.isFreed=false)(b1:l1<s.heap.objs.size)(b2:l2<s.heap.objs.size)
 (N1:Nx X.prog X.w s.heap.objs.size [l1] T1 e1) (N2:Nx X.prog X.w (s.heap.objs.size+1) [l2] T2 e2) (t1:T1 0 (zG s.heap o1 o2)) (t2:T2 0 (zG s.heap o1 o2)) (he:e1 0=none)
 (q:∀h' tk l,H l=none->Inv X Ti σ (upd H l (.dK [])) {s with heap:=h',toks:=tk}->Q (.ref l) {s with heap:=h',toks:=tk}):
 OT (model X.prog X.w) X.A (call (.type "dict") [.ref (s.heap.objs.size+4)]) Q E {s with heap:=zG s.heap o1 o2}:=by
 obtain⟨z1,z2,z3,z4,z5,z6,z7⟩:=gJ s.heap o1 o2 f1 f2
 have D:=yn _ _ _ b1 b2
 generalize zG s.heap o1 o2=h0 at *
 apply callType_codes (Q₁:=λobj s₁=>obj= .ref h0.objs.size/\s₁={s with heap:=h0.push {cls:=.type "dict",data:=.dict #[]}}) F.kt_called_dict (F.kt_typeCall_dict_1 _) F.entry_dict_init (kt_code_dict_new _ ⟨rfl,rfl⟩)
 rintro obj s₁ ⟨rfl,rfl⟩
 have hnew:(h0.push {cls:=.type "dict",data:=.dict #[]}).DictOf (aN X.prog X.w) h0.objs.size []:=Heap.DictOf.new h0
 have e1:SV (h0.push {cls:=.type "dict",data:=.dict #[]}) (s.heap.objs.size+4) (s.heap.objs.size+2) (s.heap.objs.size+3) .none:=MO _ z1
 have hT:({s with heap:=h0.push {cls:=.type "dict",data:=.dict #[]}}:OO).TypeIs (.ref (s.heap.objs.size+4)) "zip":=⟨_,e1,rfl⟩
 refine⟨hnew.typeIs,F.args_dict_init_2 _ _,?_⟩
 unfold OW.«dict.__init__»
 apply OK
 unfold OW.Dict.selfAndRest
 refine OK (wpAny_notOrdered_dict hnew.typeIs ?_)
 show OT _ _ (pure (h0.objs.size,[OL.ref (s.heap.objs.size+4)])) _ _ _
 apply OM
 show OT _ _ (OW.Dict.updateFrom "dict.__init__" h0.objs.size (.ref (s.heap.objs.size+4)) [] .none) _ _ _
 unfold OW.Dict.updateFrom
 refine OK (QW hT ?_)
 rw [Th (by decide)]
 refine OK (qD e1 hh λh1 tk1 k1=>?_)
 have ln:∀b o,h0.get? b=some o->h1.get? b=some o:=λb o e=>k1 _ _ (MO _ e)
 have hm1:h1.DictOf (aN X.prog X.w) h0.objs.size []:=by
  obtain⟨o,es,ep,ho,r⟩:=hnew
  exact⟨o,es,ep,k1 _ _ ho,r⟩
 have lt1:h0.objs.size<h1.objs.size:=by
  obtain⟨o,es,ep,ho,r⟩:=hm1
  exact M3 ho
 simp only [Option.isNone_none,if_true]
 refine OK (Qj ?_)
 refine OK (QN (s:={s with heap:=h1,toks:=tk1}) (ln _ _ z1) ?_)
 refine OM ⟨Code.quiet_builtin _ (by decide),?_⟩
 have nd:∀b,b<s.heap.objs.size+5->h0.objs.size≠b:=λb hb e=>by rw [z6] at e;exact NR _ (e▸hb)
 have up:=ln
 refine Al (A:=X.A.in1) hh D ⟨nd _ (Oa _),nd _ (by lia),nd _ (by lia),nd _ (by lia)⟩ N1 N2 (up _ _ z1) (up _ _ z2) (up _ _ z3) (N1.keep _ _ _ t1 λb _ o e=>up b o e) (N2.keep _ _ _ t2 λb _ o e=>up b o e) he hm1 λh2 tk2 hm2 k2=>?_
 refine⟨rfl,?_⟩
 have kp:∀b o,s.heap.get? b=some o->h2.get? b=some o:=λb o e=>by
  have lb:=M3 e
  have n:∀m,b≠s.heap.objs.size+m:=λm z=>by rw [z] at lb;exact NR _ (Nu (Nn _ _) lb)
  exact k2 b o (λz=>nd b (M7 lb (by lia)) z.symm) (n 4) (n 3) (n 0) (n 1) (ln b o (z7 b o e))
 have le0:s.heap.objs.size<=h0.objs.size:=by rw [z6];lia
 have fr:=I.hok.fresh le0
 have hs:=beq_eq_false_iff_ne.mpr (Nw (M7 I.big le0))
 have I2:=I.laid (o:=.dK []) (t':=tk2) kp le0 (⟨Nk _,hs,_,.nil,hm2⟩)
 exact q h2 tk2 _ fr I2
def qf(K:N5)(ta:TA):TE:=λσ H Q=>ta σ H λvs H1=>∃(a b:Addr) (ys:List V),vs= [.ref a,.ref b]/\(SqT K H1 a []/\(SqL K H1 b ys\/SqT K H1 b ys)\/SqL K H1 a []/\SqT K H1 b ys)/\∀l H',H1 l=none->Same H1 H'->H' l=some (.dK [])->Q (.ref l) H'
theorem lP{a b:Expr}{ta:TA}{p1 p2 pos1 pos2:Pos}(hg:Gl X "dict")(hm:X.mg "dict" =none)(hg2:Gl X "zip")(hm2:X.mg "zip" =none)(ha:PA X [a,b] ta)(hc:X.calm=true:=by rfl)(hs:OU [a,b] X.env=(false,eval a X.env)::OU [b] X.env:=by rfl)(hs3:OU [b] X.env= [(false,eval b X.env)]:=by rfl)(hs2:OU [.Call (.Name "zip" p2) [a,b] [] pos2] X.env= [(false,eval (.Call (.Name "zip" p2) [a,b] [] pos2) X.env)]:=by rfl):PE X (.Call (.Name "dict" p1) [.Call (.Name "zip" p2) [a,b] [] pos2] [] pos1) (qf X.K ta):=by
 intro Ti s σ H Q I h
 refine Call_ (eO I hg hm (show Pa "dict" =some (.type "dict") by decide) (O4 ?_ hs2 rfl))
 rw [hs2]
 refine Calls.spliced_cons ?_
 refine Call_ (eO I hg2 hm2 (show Pa "zip" =some (.type "zip") by decide) (O4 (thn (ha pos2 Ti s σ H _ I h) λus s1 ⟨vs,H1,I1,r1,q1⟩=>?_) hs (by rw [hs3];rfl)))
 obtain⟨l1,l2,ys,e,hq,q⟩:=q1
 subst e
 cases r1 with | cons r rr=>cases rr with | cons r' rr=>
 cases rr
 cases r
 cases r'
 have fin:∀h' tk l,H1 l=none->Inv X Ti σ (upd H1 l (.dK [])) {s1 with heap:=h',toks:=tk}->EP X Ti σ Q (.ref l) {s1 with heap:=h',toks:=tk}:=λh' tk l hl I2=>⟨.ref l,_,I2,rfl,q l _ hl (aZ hl _) aC⟩
 have o:∀(l:Addr) (m:Nat),l<s1.heap.objs.size->l≠s1.heap.objs.size+m:=λl m h z=>by rw [z] at h;exact NR _ (Nu (Nn _ _) h)
 rcases hq with ⟨hq1,hq2⟩ | ⟨hq1,hq2⟩
 ·obtain⟨its1,rv1,t1,_⟩:=I1.tuple hq1
  cases rv1
  have t1:s1.heap.IsTuple l1 #[]:=t1
  have b1:l1<s1.heap.objs.size:=by obtain⟨_,e,_⟩:=t1;exact M3 e
  rcases hq2 with hq2 | hq2
  ·obtain⟨its2,rv2,p2,hz2⟩:=I1.list hq2
   have b2:l2<s1.heap.objs.size:=by obtain⟨_,e,_⟩:=p2.isList;exact M3 e
   refine uc t1 p2.isList (Calls.spliced_nil ?_)
   obtain⟨z1,z2,z3,z4,z5,z6,z7⟩:=gJ s1.heap (zO "tuple_iterator" l1) (zO "list_iterator" l2) rfl rfl
   obtain⟨o1,e1,w1⟩:=t1
   obtain⟨o2,e2,w2⟩:=p2.isList
   exact mI I1 (I1.ok.hd hc) rfl rfl b1 b2 (dM _ l1 #[] (o l1 0 b1)) (uR _ l2 its2.toArray (o l2 1 b2)) ⟨⟨_,z4,rfl,rfl⟩,o1,z7 _ _ e1,w1⟩ ⟨⟨_,z5,rfl,rfl⟩,o2,z7 _ _ e2,w2⟩ rfl fin
  ·obtain⟨its2,rv2,p2,hz2⟩:=I1.tuple hq2
   have t2:s1.heap.IsTuple l2 its2.toArray:=p2
   have b2:l2<s1.heap.objs.size:=by obtain⟨_,e,_⟩:=t2;exact M3 e
   refine uf t1 t2 (Calls.spliced_nil ?_)
   obtain⟨z1,z2,z3,z4,z5,z6,z7⟩:=gJ s1.heap (zO "tuple_iterator" l1) (zO "tuple_iterator" l2) rfl rfl
   obtain⟨o1,e1,w1⟩:=t1
   obtain⟨o2,e2,w2⟩:=t2
   exact mI I1 (I1.ok.hd hc) rfl rfl b1 b2 (dM _ l1 #[] (o l1 0 b1)) (dM _ l2 its2.toArray (o l2 1 b2)) ⟨⟨_,z4,rfl,rfl⟩,o1,z7 _ _ e1,w1⟩ ⟨⟨_,z5,rfl,rfl⟩,o2,z7 _ _ e2,w2⟩ rfl fin
 ·obtain⟨its1,rv1,p1,_⟩:=I1.list hq1
  cases rv1
  have t1:s1.heap.IsList l1 #[]:=p1.isList
  have b1:l1<s1.heap.objs.size:=by obtain⟨_,e,_⟩:=t1;exact M3 e
  obtain⟨its2,rv2,p2,hz2⟩:=I1.tuple hq2
  have t2:s1.heap.IsTuple l2 its2.toArray:=p2
  have b2:l2<s1.heap.objs.size:=by obtain⟨_,e,_⟩:=t2;exact M3 e
  refine ug t1 t2 (Calls.spliced_nil ?_)
  obtain⟨z1,z2,z3,z4,z5,z6,z7⟩:=gJ s1.heap (zO "list_iterator" l1) (zO "tuple_iterator" l2) rfl rfl
  obtain⟨o1,e1,w1⟩:=t1
  obtain⟨o2,e2,w2⟩:=t2
  exact mI I1 (I1.ok.hd hc) rfl rfl b1 b2 (uR _ l1 #[] (o l1 0 b1)) (dM _ l2 its2.toArray (o l2 1 b2)) ⟨⟨_,z4,rfl,rfl⟩,o1,z7 _ _ e1,w1⟩ ⟨⟨_,z5,rfl,rfl⟩,o2,z7 _ _ e2,w2⟩ rfl fin
def yp:List V->Hp->VK->Prop:=λxs H Q=>∃(p d:Addr) (kvs:List (Key×V)),xs= [.ref p]/\H p=some (DV p d)/\H d=some (.dK kvs)/\kvs.length<1000/\∀l H',H l=none->Same H H'->H' l=some (.lst (kvs.map (·.2)))->Q (.ref l) H'
theorem wB(hc:X.calm=true:=by rfl):bD X (.type "list") yp:=by
 intro Ti s σ H xs us Q I r h
 obtain⟨p,d,kvs,rfl,hp,hd,hz,q⟩:=h
 obtain⟨u,rfl,ru⟩:=dR r
 cases ru
 obtain⟨z1,z2,vs,rel,o,es,ep,ho,rr⟩:=eV I.hok hd
 have hv:s.heap.IsValuesView p d:=(show ObjOk X.prog X.w H s.heap p (DV p d) from I.hok p _ hp).1
 have hl:kvs.length=vs.length:=rel.length
 have big:1000<=ON:=by unfold ON;decide
 refine OI (PySem.W.kdl_values (knd:=aN X.prog X.w) (r:=p) (kvs:=vs) (ep:=ep)) (I.ok.hd hc) ⟨hv,o,es,ho,rr⟩ (by lia) λh' tk acc c' hk hS hacc=>?_
 have fr:H s.heap.objs.size=none:=I.hok.fresh (Nat.le_refl _)
 have rv:Vals (kvs.map (·.2)) acc.toList:=by
  refine pd _ _ (by rw [Array.length_toList,hacc.1,MQ,hl]) λj v hj=>?_
  obtain⟨k,e⟩:=hacc.2 j v (by rw [<-Array.getElem?_toList];exact hj)
  have lt:j<kvs.length:=by rw [hl];exact(List.getElem?_eq_some_iff.mp e).1
  obtain⟨u,hx,ru⟩:=kz rel (k:=kvs[j].1) (x:=kvs[j].2) (MR lt)
  rw [hx] at e
  cases e
  exact⟨kvs[j].2,by rw [M4,MR lt];rfl,ru⟩
 have I2:=I.laid (a:=s.heap.objs.size) (o:=.lst (kvs.map (·.2))) (t':=tk) hk (Nat.le_refl _) (show ObjOk X.prog X.w _ h' _ (.lst _) from ⟨by rw [MQ];lia,acc.toList,c',rv,by simpa using hS⟩)
 exact⟨.ref s.heap.objs.size,_,I2,rfl,q _ _ fr (aZ fr _) aC⟩
end
section
variable{prog:OR}{w:OV}{A:OY}{E:OL->OO->Prop}
theorem Am(N:Nx prog w it fp T item)(hf:e∉fp)(he:SO s.heap e it c old)(hit:T i s.heap)(hx:item i=some x)(hne:e≠it)
 (hQ:∀h',IsEnumOut h' e it (c+1) x s.heap.objs.size->T (i+1) h'->h'.get? s.heap.objs.size=some {cls:=.type "tuple",data:=.seq #[.int c s.toks,x]}->h'.objs.size=s.heap.objs.size+1->
  (∀b o,b≠e->b≠it->s.heap.get? b=some o->h'.get? b=some o)->Q (some (.ref s.heap.objs.size)) {s with heap:=h',toks:=s.toks+1}):OT (model prog w) A (Ro (.ref e)) Q E s:=by
 have hT:s.TypeIs (.ref e) "enumerate":=⟨_,he,rfl⟩
 refine OK (Qh (O0 hT F.slot_enumerate_next (O3 F.slot_enumerate_next hT F.entry_enumerate_next ?_ (F.args_enumerate_next_1 _))))
 obtain⟨hp,g,d,tk,os⟩:=s
 have he0:=he
 have ne':=Ne.symm hne
 have lt:=M3 he0
 show OT _ _ (field (.ref e) 2 >>= _) _ _ _
 refine OK (O2 he0 rfl rfl (OK (N.next _ i x _ _ _ hit hx λh1 it1 (s1:Heap.SameBut it hp h1)=>?_)))
 have e1:=(s1.2 e hne).trans he0
 refine OK (O2 e1 rfl rfl ?_)
 refine OK (O2 e1 rfl rfl ?_)
 refine OK (wpAny_mkInt ?_)
 show OT _ _ (SE (.ref e) 3 (Qy (c+1)) >>= _) _ _ ⟨h1,g,d,tk+1,os⟩
 refine nX e1 (by simp) λh2 e2 s2=>nX e2 (by simp) λh3 e3 s3=>OK (Rg ?_)
 have z3:h3.objs.size=hp.objs.size:=by rw [s3.1,s2.1,s1.1]
 obtain⟨h4,e4⟩:∃h4,h4=h3.push {cls:=.type "tuple",data:=.seq #[.int c tk,x]}:=⟨_,rfl⟩
 have k4:∀b o,h3.get? b=some o->h4.get? b=some o:=λb o q=>by rw [e4];exact MO _ q
 have t4:h4.get? hp.objs.size=some {cls:=.type "tuple",data:=.seq #[.int c tk,x]}:=by rw [e4,<-z3];exact MS _ rfl
 have z4:h4.objs.size=hp.objs.size+1:=by rw [e4,Nq,z3]
 have r4:=k4 _ _ e3
 have i4:=N.keep _ _ _ it1 λb hb o q=>k4 b o (s3.extBut b o (hb.elim (λz=>z▸ne') λz y=>hf (y▸z)) (s2.extBut b o (hb.elim (λz=>z▸ne') λz y=>hf (y▸z)) q))
 rw [<-e4,z3]
 refine OK (OK (O2 r4 rfl rfl (OM ?_)))
 refine OK (Qj (OK (O2 r4 rfl (x:=old) rfl (nX r4 (by simp) λh5 e5 s5=>?_))))
 refine OK (nX e5 (by simp) λh6 e6 s6=>Pf e6 (by simp) λh7 e7 s7=>OK (Rj (OM ⟨_,rfl,OM (hQ h7 e7 ?_ ?_ ?_ ?_)⟩)))
 ·exact N.keep _ _ _ i4 λb hb o q=>by
   have n:b≠e:=hb.elim (λz=>z▸ne') λz y=>hf (y▸z)
   exact s7.extBut b o n (s6.extBut b o n (s5.extBut b o n q))
 ·have n:=Nw lt
  exact s7.extBut _ _ n (s6.extBut _ _ n (s5.extBut _ _ n t4))
 ·rw [s7.1,s6.1,s5.1,z4]
 ·exact λb o n1 n2 q=>s7.extBut b o n1 (s6.extBut b o n1 (s5.extBut b o n1 (k4 b o (s3.extBut b o n1 (s2.extBut b o n1 (s1.extBut b o n2 q))))))
end
theorem CT(l:Addr)(items:Array OL):
 Tc (OW.«enumerate.__new__» ⟨[.type "enumerate",.ref l],[]⟩) (λ_ R s=>s.heap.IsTuple l items/\
  R (.ok (.ret (.ref (s.heap.push {cls:=.type "tuple_iterator",data:=.fields #[.ref l,.int 0 0]}).objs.size)))
   {s with heap:=(s.heap.push {cls:=.type "tuple_iterator",data:=.fields #[.ref l,.int 0 0]}).push (wA #[.none,.bool false,.ref s.heap.objs.size,Qy 0,.none,.none])}):=
 .of_wp λprog w A R s h=>by
  obtain⟨hp,g,d,tk,os⟩:=s;obtain⟨hl,h⟩:=h
  have hsub:=sub_enumerate
  have hL:=hl
  wp_walk using O5 hL
  refine wpAny_stack_any λst=>OM ?_
  split
  ·rename_i c _ _ _ _ _
   cases (c==OL.type "enumerate")
   ·wp_walk using O5 hL
    exact⟨_,rfl,h⟩
   ·wp_walk using O5 hL
    exact⟨_,rfl,h⟩
  ·wp_walk using O5 hL
   exact⟨_,rfl,h⟩
theorem CU(N:Nx prog w it fp T item)(hh:A.handled=none)(he:SO s.heap e it c old)(hit:T i s.heap)(hx:item i=none)
 (hQ:∀h',Heap.ExtBut it s.heap h'->Q none {s with heap:=h'}):OT (model prog w) A (Ro (.ref e)) Q E s:=by
 have hT:s.TypeIs (.ref e) "enumerate":=⟨_,he,rfl⟩
 refine OK (Qh (O0 hT F.slot_enumerate_next (O3 F.slot_enumerate_next hT F.entry_enumerate_next ?_ (F.args_enumerate_next_1 _))))
 show OT _ _ (field (.ref e) 2 >>= _) _ _ _
 refine OK (O2 he rfl rfl (OK (N.done _ i _ _ _ hh hit hx λh' x g ⟨o,ho,hc⟩=>?_)))
 exact OK (wpAny_isInstance ⟨o,ho,hc⟩ isSubtype_stop (OM (hQ _ g)))
theorem jL{s:OO}(hL:s.heap.IsTuple l items)
 (h:∀h',SO h' (s.heap.objs.size+1) s.heap.objs.size 0 .none->h'.IsTupleIter s.heap.objs.size l 0->h'.objs.size=s.heap.objs.size+2->
  (∀b o,s.heap.get? b=some o->h'.get? b=some o)->Q (.ref (s.heap.objs.size+1)) {s with heap:=h'}):
 OT (model prog w) A (call (.type "enumerate") [.ref l]) Q E s:=by
 refine QZ F.called_enumerate (by decide) (F.typeCall_enumerate_1 _) (F.newCall_enumerate_1 _) (λobj=>F.args_object_init_2 obj _) F.entry_enumerate_new
  (CT l items) ⟨hL,?_⟩
 have hz:(s.heap.push {cls:=.type "tuple_iterator",data:=.fields #[.ref l,.int 0 0]}).objs.size=s.heap.objs.size+1:=Nq ..
 rw [hz]
 have he:SO ((s.heap.push {cls:=.type "tuple_iterator",data:=.fields #[.ref l,.int 0 0]}).push
  {cls:=.type "enumerate",data:=.fields #[.none,.bool false,.ref s.heap.objs.size,Qy 0,.none,.none]}) (s.heap.objs.size+1) s.heap.objs.size 0 .none:=by
  have:=MS (s.heap.push {cls:=.type "tuple_iterator",data:=.fields #[.ref l,.int 0 0]})
   (o:={cls:=.type "enumerate",data:=.fields #[.none,.bool false,.ref s.heap.objs.size,Qy 0,.none,.none]}) rfl
  rw [hz] at this;exact this
 refine⟨⟨_,he,rfl⟩,h _ he ⟨_,MO _ (MS _ rfl),rfl,rfl⟩ (by rw [Nq,hz]) λb o x=>MO _ (MO _ x)⟩
theorem BU(he:SO h e it c old)(hit:h.IsTupleIter it a i)(ht:h.IsTuple a xs):e≠a/\a≠it:=by
 obtain⟨o,ho,hc,_⟩:=hit
 obtain⟨o2,ho2,hc2,_⟩:=ht
 refine⟨λz=>?_,λz=>?_⟩
 ·grind
 ·grind
def ItT(K:N5)(a:Addr):It:=
 ⟨λi H=>∃xs x,SqT K H a xs/\xs[i]? =some x,λi H v H'=>∃p x,v= .ref p/\H p=none/\Same H H'/\H' p=some (.tup [.int i,x])/\∀xs,SqT K H a xs->xs[i]? =some x,λi H=>∃xs,SqT K H a xs/\xs.length<=i⟩
theorem wC{K:N5}(a e it:Addr)(hne:e≠it):
 j8 P w K (.Tuple elts kk tpos) (ItT K a) [e,it] e (λi h=>(∃old,SO h e it i old)/\h.IsTupleIter it a i) where
 mem:=by simp
 obj:=λi h st b hb=>by
  obtain⟨⟨old,he⟩,o,ho,c,d⟩:=st
  rcases List.mem_cons.mp hb with rfl | hb
  ·simp_all
  ·simp_all
 keep:=λi h h' y k=>by obtain⟨⟨old,he⟩,hit⟩:=y;exact⟨⟨old,k e (by simp) _ he⟩,hit.at λo q=>k it (by simp) o q⟩
 item:=by
  intro X hP hw hK hc i Ti s σ H E I hf st hg
  subst hP hw hK
  obtain⟨xs,x,hq,hx⟩:=hg
  obtain⟨⟨old,he⟩,hit⟩:=st
  obtain⟨its,rv,p,hz⟩:=I.tuple hq
  obtain⟨u,hu,ru⟩:=rv.get hx
  have nl:=BU he hit p
  refine Am (dM it a _ nl.2) (by simpa using λz=>nl.1 z) he ⟨hit,p⟩ (by simpa using hu) hne λh' ho hit'0 hT hsz hk=>?_
  have hit':=hit'0.1
  refine⟨_,rfl,wpAny_letOwnedTupleGo_enum ho λh'' he'' hs=>?_⟩
  have helt:=M3 he
  have hilt:it<s.heap.objs.size:=by obtain⟨_,q,_⟩:=hit;exact M3 q
  have I1:Inv X Ti σ (upd H s.heap.objs.size (.tup [.int i,x])) {s with heap:=s.heap.push {cls:=.type "tuple",data:=.seq #[.int i s.toks,u]},toks:=s.toks+1}:=
   I.laid (λb o q=>MO _ q) (Nat.le_refl _) ⟨by show 2<=ON;decide,[.int i s.toks,u],.cons ⟨_,rfl⟩ (.cons ru .nil),⟨_,MS _ rfl,rfl,_,rfl⟩⟩
  have hf':∀b∈[e,it],eQ X Ti (upd H s.heap.objs.size (.tup [.int i,x])) b:=λb hb=>by
   have lt:b<s.heap.objs.size:=by
    rcases List.mem_cons.mp hb with rfl | hb
    ·exact helt
    ·simp_all
   refine⟨?_,(hf b hb).2⟩
   rw [aI (Nf lt)]
   exact(hf b hb).1
  have I2:Inv X Ti σ (upd H s.heap.objs.size (.tup [.int i,x])) {s with heap:=h'',toks:=s.toks+1}:=I1.turnedL (λb o hb q=>by
   have n1:b≠e:=λz=>hb (by simp [z])
   have n2:b≠it:=λz=>hb (by simp [z])
   apply (hs.2 b n1).trans
   by_cases hbT:b=s.heap.objs.size
   ·subst hbT
    have q':(s.heap.push {cls:=.type "tuple",data:=.seq #[.int i s.toks,u]}).get? s.heap.objs.size=some o:=q
    rw [MS _ rfl] at q'
    cases q'
    exact hT
   ·have q':(s.heap.push {cls:=.type "tuple",data:=.seq #[.int i s.toks,u]}).get? b=some o:=q
    rw [NG _ _ _ hbT] at q'
    exact hk b o n1 n2 q') hf'
  refine⟨.ref s.heap.objs.size,_,I2,rfl,⟨_,x,rfl,I.hok.fresh (Nat.le_refl _),aZ (I.hok.fresh (Nat.le_refl _)) _,aC,λys hy=>by rw [I.tuple_inj hy hq];exact hx⟩,⟨⟨_,by simpa using he''⟩,?_⟩,λb hb=>(hf' b hb).1⟩
  exact hit'.at λo q=>(hs.2 it hne.symm).trans q
 done := by
   intro X hP hw hK hc i Ti s σ H E I hf st hg
   subst hP hw hK
   obtain⟨xs,hq,hx⟩:=hg
   obtain⟨⟨old,he⟩,hit⟩:=st
   obtain⟨its,rv,p,hz⟩:=I.tuple hq
   obtain⟨f0,f1,f2,f3,f4,f5⟩:=hf it (by simp)
   have hl:=rv.length
   have nl:=BU he hit p
   exact CU (dM it a _ nl.2) (I.ok.hd hc) he ⟨hit,p⟩ (by simp;lia) λh' eb=>⟨rfl,I.turned (λb o hb e=>eb b o hb e) f0 f1 f3 f4 f5⟩
 self:=λ_ _ _ _ _ st h=>by
  obtain⟨⟨old,he⟩,_⟩:=st
  exact wpAny_pyIter_enum he h
def yq(K:N5)(ta:TA):TI:=λσ H R=>ta σ H λvs H1=>∃a,vs= [.ref a]/\(∃xs,SqT K H1 a xs)/\R (ItT K a) H1
theorem An(hg:Gl X "enumerate")(hm:X.mg "enumerate" =none)(ha:PA X [a] ta)(hs:OU [a] X.env= [(false,eval a X.env)]:=by rfl):
 PI X (.Tuple elts kk tpos) (.Call (.Name "enumerate" p) [a] [] pos) (yq X.K ta):=by
 intro Ti s σ H R I h
 refine Call_ (eO I hg hm (show Pa "enumerate" =some (.type "enumerate") by decide) (O4 (thn (ha pos Ti s σ H _ I h) λus s1 z=>?_) hs rfl))
 obtain⟨vs,H1,I1,r1,q1⟩:=z
 obtain⟨l,e,⟨xs,hq⟩,q⟩:=q1
 subst e
 cases r1 with
 | cons r rr=>
  cases rr
  cases r
  obtain⟨its,rv,pl,hz⟩:=I1.tuple hq
  refine jL pl λh' hE hI hsz hk=>?_
  refine wpAny_pyIter_enum hE ⟨s1.heap.objs.size+1,[s1.heap.objs.size+1,s1.heap.objs.size],_,_,H1,rfl,I1.kept hk,wC l _ _ (Nat.succ_ne_self _),⟨⟨_,hE⟩,hI⟩,λb hb=>?_,q⟩
  have le:s1.heap.objs.size<=b:=by
   rcases List.mem_cons.mp hb with rfl | hb
   ·lia
   ·grind
  exact I1.fpOk le (I1.hok.fresh le)
theorem yr{K:N5}{g:TG}{tb:TS}{D:fB}(xs:List V)(Pv:Nat->St->Hp->Prop)(h0:Pv 0 σ H1)
 (hl:∀i σ H,i<=xs.length->Pv i σ H->SqT K H a xs)
 (hs:∀i x σ H p H',xs[i]? =some x->Pv i σ H->H p=none->Same H H'->H' p=some (.tup [.int (i:Nat),x])->g (.ref p) σ H' λσ2 H2=>tb {D with nx:=Pv (i+1),ct:=Pv (i+1),bk:=D.nx} σ2 H2)
 (hd:∀σ H,Pv xs.length σ H->D.nx σ H):∃W:Nat->Nat->St->Hp->Prop,(∃m,W 0 m σ H1)/\∀i m σ H,W i m σ H->
  ((ItT K a).stop i H/\D.nx σ H)\/((ItT K a).go i H/\∃N,(∀σ' H',N σ' H'->∃m',m'<m/\W (i+1) m' σ' H')/\∀x H',(ItT K a).yld i H x H'->g x σ H' λσ2 H2=>tb {D with nx:=N,ct:=N,bk:=D.nx} σ2 H2):=by
 refine⟨λi m σ H=>m=xs.length-i/\i<=xs.length/\Pv i σ H,⟨xs.length,by simp,Nk _,h0⟩,?_⟩
 rintro i m σ H ⟨rfl,hi,p⟩
 have q:=hl i σ H hi p
 by_cases hlt:i<xs.length
 ·refine .inr ⟨⟨xs,xs[i],q,MR hlt⟩,Pv (i+1),λσ' H' p'=>⟨xs.length-(i+1),by lia,rfl,hlt,p'⟩,λv H' y=>?_⟩
  obtain⟨pp,x,rfl,hn,sm,hp,hx⟩:=y
  exact hs i x σ H pp H' (hx xs q) p hn sm hp
 ·have e:i=xs.length:=by lia
  subst e
  exact .inl ⟨⟨xs,q,Nat.le_refl _⟩,hd σ H p⟩
def Ao(K:N5)(tl:TE):TI:=λσ H R=>tl σ H λx H1=>∃a,x= .ref a/\(((∃xs,SqL K H1 a xs)/\R (Itl K a) H1)\/((∃xs,SqT K H1 a xs)/\R (Itt K a) H1))
theorem FR(hl:PE X l tl):PI X tg l (Ao X.K tl):=by
 intro Ti s σ H R I h
 refine thn (hl Ti s σ H _ I h) λv s1 z=>?_
 obtain⟨x,H1,I1,r1,q1⟩:=z
 obtain⟨a,e,⟨⟨xs,hq⟩,q⟩ | ⟨⟨xs,hq⟩,q⟩⟩:=q1
 ·subst e
  cases r1
  obtain⟨its,rv,p,hz⟩:=I1.list hq
  apply Py p.isList
  refine⟨s1.heap.objs.size,[s1.heap.objs.size],_,_,H1,rfl,I1.kept λb o e=>MO _ e,pS a _,⟨_,MS _ rfl,rfl,rfl⟩,λb hb=>?_,q⟩
  have e:b=s1.heap.objs.size:=by simpa using hb
  subst e
  exact I1.fpOk (Nat.le_refl _) (I1.hok.fresh (Nat.le_refl _))
 ·subst e
  cases r1
  obtain⟨its,rv,p,hz⟩:=I1.tuple hq
  apply O5 (p)
  refine⟨s1.heap.objs.size,[s1.heap.objs.size],_,_,H1,rfl,I1.kept λb o e=>MO _ e,nJ a _,⟨_,MS _ rfl,rfl,rfl⟩,λb hb=>?_,q⟩
  have e:b=s1.heap.objs.size:=by simpa using hb
  subst e
  exact I1.fpOk (Nat.le_refl _) (I1.hok.fresh (Nat.le_refl _))
theorem wD{K:N5}(ha:H1 a=some (.tup xs))(sz:xs.length<ON)(Pv:Addr->Nat->List V->St->Hp->Prop)
 (h0:∀D H',H1 D=none->Same H1 H'->H' D=some (.lst [])->Pv D 0 [] cs H')
 (hs:∀D i x ys σ1 H',xs[i]? =some x->At xs H1 D i ys H'->Pv D i ys σ1 H'->g x σ1 H' λσ2 H2=>tc σ2 H2 λb H3=>if b=true then te σ2 H3 λv H4=>Put xs H1 D (Pv D) i σ2 v H4 else kq xs H1 D (Pv D) i σ2 H3)
 (hd:∀D ys σ1 H',H1 D=none->Same H1 H'->H' D=some (.lst ys)->ys.length<=xs.length->Pv D xs.length ys σ1 H'->Q (.ref D) H'):eW (Itt K a) g tc te cs H1 Q:=
 ku rK (λH g=>g _ _ ha) sz Pv h0 hs hd
def HX(K:N5):List V->Hp->VK->Prop:=λxs H Q=>∃x tp T1 T2 t b,xs= [x,.ref tp]/\H tp=some (.tup [.ty T1,.ty T2])/\tyG H x=some t/\R9 K (.type t) [.type T1,.type T2]=some b/\Q (.bl b) H
theorem wE{σ:St}(I:Inv X Ti σ H s)(rx:RelV x u)(ty:fE X.K H x (.type t))(htp:s.heap.IsTuple tp its.toArray)(e:R9 X.K (.type t) its=some b)(h:∀tk,Q (.bool b) {s with toks:=tk}):
 OT (model X.prog X.w) A (call (.builtin "isinstance") [u,.ref tp]) Q E s:=by
 obtain⟨⟨c,dd,da,sl⟩,k1,k2,n,k3⟩:=htp
 subst k2 k3
 cases ty with
 | non=>cases (rx);exact Ob PySem.W.kitx_none I.kIn True.intro k1 e (λz=>nomatch z) h
 | bl y=>cases (rx);exact Ob PySem.W.kitx_bool I.kIn True.intro k1 e (λz=>nomatch z) h
 | int i=>obtain⟨t,q⟩:=(rx);cases q;exact Ob PySem.W.kitx_int I.kIn True.intro k1 e (λz=>nomatch z) h
 | str y=>obtain⟨t,q⟩:=(rx);cases q;exact Ob PySem.W.kitx_str I.kIn True.intro k1 e (λz=>nomatch z) h
 | flt y=>obtain⟨t,q⟩:=(rx);cases q;exact Ob PySem.W.kitx_float I.kIn True.intro k1 e (λz=>nomatch z) h
 | @lst a xs ea=>
  cases (rx)
  obtain⟨_,_,n,_,h1⟩:=(I.hok a _ ea)
  exact Ob OE I.kIn ⟨_,h1,rfl⟩ k1 e (λz=>nomatch z) h
 | @frz a ob xs ea=>
  cases (rx)
  obtain⟨_,_,_,n,_,h1⟩:=(I.hok a _ ea)
  exact Ob OE I.kIn ⟨_,h1,rfl⟩ k1 e (λz=>nomatch z) h
 | @tup a xs ea=>
  cases (rx)
  obtain⟨_,_,_,p⟩:=(I.hok a _ ea)
  obtain⟨o,h1,h2,_⟩:=p
  exact Ob PySem.W.kitx_tuple I.kIn ⟨o,h1,h2⟩ k1 e (λz=>nomatch z) h
 | @dK a kvs ea=>
  cases (rx)
  obtain⟨_,_,vs,_,p⟩:=(I.hok a _ ea)
  obtain⟨o,es,ep,h1,h2,_⟩:=p
  exact Ob OF I.kIn ⟨o,h1,h2.1⟩ k1 e (λz=>nomatch z) h
 | @dT a kvs ea=>
  cases (rx)
  obtain⟨_,_,xs,_,o,es,ep,h1,h2,_⟩:=(I.hok a _ ea)
  exact Ob OF I.kIn ⟨o,h1,h2.1⟩ k1 e (λz=>nomatch z) h
theorem rZ:bD X (.builtin "isinstance") (HX X.K):=by
 intro Ti s σ H xs us Q I r h
 obtain⟨x,tp,T1,T2,t,b,rfl,htp,ty,e,q⟩:=h
 obtain⟨u,w,rfl,ru,rw'⟩:=nN r
 cases rw'
 obtain⟨its,rv,p,hz⟩:=I.tuple (SqT.of htp)
 obtain⟨a,b',rfl,ra,rb⟩:=nN rv
 cases (ra)
 cases (rb)
 exact wE I ru (CI ty) p e λtk=>⟨.bl b,H,I.tok _,rfl,q⟩
end _L
namespace _L
open PySem
end _L
namespace _L
open PySem PySem.Spec PySem.Calls PyProof.Rows PySem.W
theorem Ap{K:Frag}{x t c:OL}{H:Heap->Prop}(ty:∀(M:Model) (h:Heap),K.In h->H h->Looks M h (typeOf x) t)(e:OP K t c=some true):Answers (λs=>K.In s.heap/\H s.heap) x c true:=by
 intro dep tk prog w A R s hs
 obtain⟨h0,g,d,tt,os⟩:=s
 obtain⟨⟨X,p⟩,hq⟩:=hs
 have LT:=ty (model prog w) h0 X p
 unfold OP at e
 unfold OW.«isinstance.nested»
 refine OK (LT.at ?_)
 by_cases q:(t==c)=true
 ·rw [Th q] at e
  rw [Th q]
  exact OK (Qj (OM (hq tt)))
 ·rw [Tf q] at e
  rw [Tf q]
  obtain⟨hty,his,hsub⟩:=kit_cls (M:=model prog w) X e
  have LI:Looks (model prog w) h0 (isInstance x c) true:=LT.andThen hsub
  refine OK (hty.at ?_)
  rw [Th (by decide)]
  k_delta "plainIsInstance"
  refine OK (OK (his.at ?_))
  simp only [Bool.not_true,NC,if_false]
  refine OK (LI.at ?_)
  simp only [if_true]
  exact OM (OM (hq tt))
def BV(K:Frag):List V->Hp->VK->Prop:=λxs H Q=>∃(x C c dx:Addr) (fs:List (Str×V)),xs= [.ref x,.ref c]/\H x=some (.ins C dx fs)/\OP K (.ref C) (.ref c)=some true/\Q (.bl true) H
theorem sf{X:Cx}:bD X (.builtin "isinstance") (BV X.K):=by
 intro Ti s σ H xs us Q I r h
 obtain⟨x,C,c,dx,fs,rfl,hx,e,q⟩:=h
 obtain⟨u,w',rfl,ru,rw'⟩:=nN r
 cases ru
 cases rw'
 obtain⟨_,_,_,hg,_⟩:=(show ObjOk X.prog X.w H s.heap x (.ins C dx fs) from I.hok x _ hx)
 refine call_isinstance (S:=λ_ R s=>(X.K.In s.heap/\s.heap.get? x=some (instObj C dx))/\∀tk,R (.ok (.ret (.bool true))) {s with toks:=tk})
  (λprog w A R s hs=>isinstance_outer (Ap (H:=λh=>h.get? x=some (instObj C dx)) (λM h _ p=>?_) e 0 _ prog w A R s hs) (λz=>nomatch z)) ⟨⟨I.kIn,hg⟩,λtk=>⟨.bl true,H,I.tok _,rfl,q⟩⟩
 exact(Looks.ld p).andThen .now
theorem Aq{X:Cx}{e:Expr}:PE X e (λ_ _ _=>False):=by
 intro Ti s σ H Q I h
 exact h.elim
end _L
namespace _L
open PySem PySem.Spec PyProof.Rows
section
variable{J:It}{ok:Hp->Prop}{g:TG}{tc:TT}{te:TE}{cs:St}{H1:Hp}{Q:VK}{x:V}
theorem gX(O:ko J [] ok)(hok:∀H,Same H1 H->ok H)(q:∀D H',H1 D=none->Same H1 H'->H' D=some (.lst [])->Q (.ref D) H'):eW J g tc te cs H1 Q:=
 ku O hok (by unfold ON;decide) (λ_ _ ys _ _=>ys= []) (λ_ _ _ _ _=>rfl) (λ_ i _ _ _ _ h=>by cases h) λD ys _ H' h1 h2 h3 _ e=>q D H' h1 h2 (e▸h3)
def P1(cs:St)(Q:VK)(D:Addr):Nat->List V->St->Hp->Prop
 | 0,ys,σ,_=>ys= []/\σ=cs
 | _+1,_,_,H=>Q (.ref D) H
theorem nY(O:ko J [x] ok)(hok:∀H,Same H1 H->ok H)(h:∀D H',At [x] H1 D 0 [] H'->g x cs H' λσ2 H2=>tc σ2 H2 λb H3=>if b=true then te σ2 H3 λv H4=>Put [x] H1 D (P1 cs Q D) 0 σ2 v H4 else kq [x] H1 D (P1 cs Q D) 0 σ2 H3):eW J g tc te cs H1 Q:=
 ku O hok (by show 1<ON;unfold ON;decide) (P1 cs Q) (λ_ _ _ _ _=>⟨rfl,rfl⟩) (λD i y ys σ1 H' hx a p=>by
  cases i with
  | zero=>cases hx;obtain⟨rfl,rfl⟩:=p;exact h D H' a
  | succ i=>cases hx) λ_ _ _ _ _ _ _ _ p=>p
variable{tb:TS}{D:fB}{σ:St}
theorem lu(s:J.stop 0 H1)(h:D.nx σ H1):wq J g tb D σ H1:=⟨λi _ σ' H'=>i=0/\σ'=σ/\H'=H1,⟨0,rfl,rfl,rfl⟩,λ_ _ _ _ ⟨e1,e2,e3⟩=>by subst e1 e2 e3;exact .inl ⟨s,h⟩⟩
theorem HY(go:J.go 0 H1)(y:∀v H',J.yld 0 H1 v H'->v=x/\H'=H1)(h:g x σ H1 λσ2 H2=>tb {D with nx:=λσ' H'=>J.stop 1 H'/\D.nx σ' H',ct:=λσ' H'=>J.stop 1 H'/\D.nx σ' H',bk:=D.nx} σ2 H2):wq J g tb D σ H1:=by
 refine⟨λi m σ' H'=>(i=0/\m=1/\σ'=σ/\H'=H1)\/(i=1/\J.stop 1 H'/\D.nx σ' H'),⟨1,.inl ⟨rfl,rfl,rfl,rfl⟩⟩,?_⟩
 rintro i m σ' H' (⟨rfl,rfl,rfl,rfl⟩ | ⟨rfl,h1,h2⟩)
 ·refine .inr ⟨go,_,λσ2 H2 n=>⟨0,Nat.zero_lt_one,.inr ⟨rfl,n⟩⟩,λv H2 hv=>?_⟩
  obtain⟨rfl,rfl⟩:=y v H2 hv
  exact h
 ·exact .inl ⟨h1,h2⟩
end
def DI(p d:Addr):HO:=.ext λh=>h.IsItemsView p d
def uV(tl:TE):TE:=λσ H Q=>tl σ H λx H1=>∃d kvs,x= .ref d/\H1 d=some (.dK kvs)/\∀p H',H1 p=none->Same H1 H'->H' p=some (DI p d)->Q (.ref p) H'
theorem yt{apos cpos:Pos}(hl:PE X l tl)(hbase:Pe l "items" X.env (eval l X.env)=eval l X.env:=by rfl)(hline:(apos.endLine==cpos.line)=true:=by rfl):
 PE X (.Call (.Attribute l "items" apos) [] [] cpos) (uV tl):=by
 intro Ti s σ H Q I h
 refine Pm hbase hline (thn (hl Ti s σ H _ I h) λv s1 z=>?_)
 obtain⟨x,H1,I1,r1,d,kvs,e,hd,q⟩:=z
 subst e
 cases r1
 obtain⟨z1,z2,vs,rel,dof⟩:=eV I1.hok hd
 obtain⟨h1,h2⟩:=gR I1 (show RelV (.ref d) (.ref d) from rfl) (.inr (.inr (.inl ⟨rfl,.inl ⟨_,hd⟩⟩)))
 refine⟨"dict","dict.items",Pg,PJ,QM,h1,h2,Calls.callWith_builtin rfl (PH ?_)⟩
 refine PY PJ h1 QD (Qw _) (meets_dict_items (aN X.prog X.w) d z2) ⟨⟨vs,dof⟩,?_⟩
 have fr:=I1.hok.fresh (Nat.le_refl s1.heap.objs.size)
 refine⟨.ref s1.heap.objs.size,upd H1 s1.heap.objs.size (DI s1.heap.objs.size d),I1.laid (λb o q=>MO _ q) (Nat.le_refl _) ⟨⟨_,MS _ rfl,rfl,rfl⟩,⟨_,MS _ rfl⟩,λg g' z k=>by obtain⟨o,e,r⟩:=z;exact⟨o,k o e,r⟩⟩,rfl,q _ _ fr (aZ fr _) aC⟩
def uW:List V->Hp->VK->Prop:=λxs H Q=>∃(p d:Addr),xs= [.ref p]/\H p=some (DI p d)/\H d=some (.dK [])/\∀D H',H D=none->Same H H'->H' D=some (.lst [])->Q (.ref D) H'
theorem qE(hc:X.calm=true):bD X (.builtin "sorted") uW:=by
 intro Ti s σ H xs us Q I r h
 obtain⟨p,d,rfl,hp,hd,q⟩:=h
 obtain⟨u,rfl,ru⟩:=dR r
 cases ru
 obtain⟨z1,z2,vs,rel,o,es,ep,ho,rr⟩:=eV I.hok hd
 have hv:=(I.hok p _ hp).1
 have D0:s.heap.DictAt (aN X.prog X.w) d vs ep:=⟨o,es,ho,rr⟩
 have lv:=rel.length.symm
 apply Qa RR RC RD (RE _)
 unfold OW.«sorted»
 refine OK (OM ?_)
 refine OK (PySem.W.kdx_collect (I.ok.hd hc) hv D0 (by rw [lv];exact Nk _) λh' tk as hkp hl _=>?_)
 rw [lv] at hl
 cases List.length_eq_zero_iff.mp hl
 refine OK (QH ?_ (by unfold ON;decide))
 have hoL:(h'.push (PD "list" ([]:List OL).toArray 0)).get? h'.objs.size=some (PD "list" ([]:List OL).toArray 0):=MS _ rfl
 refine OK (OZ (O3 Re ⟨_,hoL,rfl⟩ QX (list_sort_tree hoL (.nil:PF [] []) (by decide) λout ns' a1 a2 a3=>⟨_,rfl,?_⟩) (Rf _)))
 refine OM ⟨_,rfl,?_⟩
 obtain⟨e,he⟩:=sortedHeap_at (vs:=[]) hoL
 have I1:Inv X Ti σ H {s with heap:=h',toks:=tk}:=I.kept hkp
 have fr:=I1.hok.fresh (Nat.le_refl _)
 have kp:∀b o,h'.get? b=some o->(Sg (h'.push (PD "list" ([]:List OL).toArray 0)) h'.objs.size [] out).get? b=some o:=λb o e1=>by
  have l1:=M3 e1
  rw [sortedHeap_old (Nf l1) (by rw [Nq];exact NQ l1)]
  exact MO _ e1
 have I2:=I1.laid (o:=.lst (ns'.map V.int)) (t':=tk) kp (Nat.le_refl _) (⟨by rw [MQ,a2.length_eq];exact Nk _,out.toList,e,mz a1,he⟩)
 rw [a2.eq_nil] at I2
 exact⟨.ref h'.objs.size,_,I2,rfl,q _ _ fr (aZ fr _) aC⟩
end _L
namespace _D
open PySem PySem.W
def yu{α:Type}(v:Obj)(k:BT->α)(l r:BT):α:=k (.node v l r)
def yv{α:Type}(v:Obj)(k:BT->α)(fr:(BT->α)->α)(l:BT):α:=fr (yu v k l)
noncomputable def jj{α:Type}(t:BT):(BT->α)->α:=
 @BT.rec (λ_=>(BT->α)->α) (λk=>k .nil) (λv _ _ fl fr k=>fl (yv v k fr)) t
theorem kE:∀(t:BT) (k:BT->α),jj t k=k t
 | .nil,_=>rfl
 | .node v l r,k=>by
  show jj l (yv v k (jj r))=_
  rw [kE l]
  show jj r (yu v k l)=_
  rw [kE r]
  rfl
noncomputable def kF{α:Type}(n:Nat)(k:Nat->α):α:= @Nat.rec (λ_=>α) (k 0) (λm _=>k (m+1)) n
theorem qg(n:Nat)(k:Nat->α):kF n k=k n:=by cases n<;>rfl
def uX{α:Type}(k:O7->α)(life:Life)(gens:Array Rs)(drawn:Drawn)(os:Rk)(n toks:Nat)(t:BT):α:=k ⟨t,n,life,gens,drawn,toks,os⟩
noncomputable def FS{α:Type}(k:O7->α)(t:BT)(life:Life)(gens:Array Rs)(drawn:Drawn)(os:Rk)(n toks:Nat):α:=jj t (uX k life gens drawn os n toks)
noncomputable def FT{α:Type}(k:O7->α)(t:BT)(life:Life)(gens:Array Rs)(drawn:Drawn)(os:Rk)(toks n:Nat):α:=kF toks (FS k t life gens drawn os n)
noncomputable def kG{α:Type}(s:O7)(k:O7->α):α:=match s with
 | ⟨t,n,life,gens,drawn,toks,os⟩=>kF n (FT k t life gens drawn os toks)
theorem qh(s:O7)(k:O7->α):kG s k=k s:=by
 obtain⟨t,n,life,gens,drawn,toks,os⟩:=s
 show kF n (FT k t life gens drawn os toks)=_
 rw [qg]
 show kF toks (FS k t life gens drawn os n)=_
 rw [qg]
 show jj t (uX k life gens drawn os n toks)=_
 rw [kE]
 rfl
section
variable(thr ok:P3->Bool)(st:O7->P3->Option (O7×P3))
def nZ(ih:O7->P3->Option (Bool×O7×P3))(s:O7)(t:P3):Option (Bool×O7×P3):=match thr t with
 | true=>some (true,s,t)
 | false=>match ok t with
  | false=>none
  | true=>match st s t with
   | some (s',t')=>ih s' t'
   | none=>none
noncomputable def sj(n:Nat):O7->P3->Option (Bool×O7×P3):=
 @Nat.rec (λ_=>O7->P3->Option (Bool×O7×P3)) (λs t=>some (false,s,t)) (λ_ ih=>nZ thr ok st ih) n
def FU{α:Type}(k:O7->α)(s:O7):Option α:=some (k s)
def goOn{α:Type}(ih:O7->P3->Option α)(t:P3)(s:O7):Option α:=ih s t
noncomputable def wF{α:Type}(m:Nat)(k:O7->α)(ih:O7->P3->Option α)(s:O7)(t:P3):Option α:=
 match sj thr ok st m s t with
  | some (true,s',_)=>kG s' (FU k)
  | some (false,s',t')=>kG s' (goOn ih t')
  | none=>none
noncomputable def Ar{α:Type}(m:Nat)(k:O7->α)(n:Nat):O7->P3->Option α:=
 @Nat.rec (λ_=>O7->P3->Option α) (λ_ _=>none) (λ_ ih=>wF thr ok st m k ih) n
end
section
variable {tb : String → Option OW} {p : OR} {w : OV} {n₀ : Nat} {ann : Option OL}
noncomputable abbrev oa (tb : String → Option OW) (p : OR) (w : OV) (n₀ : Nat) (ann : Option OL) := sj through (RF n₀ ann) (SQ (denote tb) p w)
noncomputable abbrev wG {α : Type} (tb : String → Option OW) (p : OR) (w : OV) (n₀ : Nat) (ann : Option OL) := @Ar through (RF n₀ ann) (SQ (denote tb) p w) α
theorem sk:∀{n:Nat} {s s':O7} {t t':P3},oa tb p w n₀ ann n s t=some (false,s',t')->∀N r,RU tb p w n₀ ann N s'.abs t'=some r->RU tb p w n₀ ann (n+N) s.abs t=some r
 | 0,s,s',t,t',h,N,r,k=>by
  cases h
  rw [Ol];exact k
 | n+1,s,s',t,t',h,N,r,k=>by
  rw [show n+1+N=n+N+1 by lia]
  have h:nZ through (RF n₀ ann) (SQ (denote tb) p w) (oa tb p w n₀ ann n) s t=some (false,s',t'):=h
  unfold nZ at h
  unfold RU
  cases ht:through t with
  | true=>simp_all
  | false=>
   rw [ht] at h
   cases hk:RF n₀ ann t with
   | false=>simp_all
   | true=>
    rw [hk] at h
    cases hs:SQ (denote tb) p w s t with
    | none=>simp_all
    | some x=>obtain⟨s₂,t₂⟩:=x;rw [hs] at h;rw [stepT_spec hs];exact sk h N r k
theorem qi:∀{n:Nat} {s s':O7} {t t':P3},oa tb p w n₀ ann n s t=some (true,s',t')->RU tb p w n₀ ann n s.abs t=some s'.abs
 | 0,s,s',t,t',h=>by cases h
 | n+1,s,s',t,t',h=>by
  have h:nZ through (RF n₀ ann) (SQ (denote tb) p w) (oa tb p w n₀ ann n) s t=some (true,s',t'):=h
  unfold nZ at h
  unfold RU
  cases ht:through t with
  | true=>simp_all
  | false=>
   rw [ht] at h
   cases hk:RF n₀ ann t with
   | false=>simp_all
   | true=>
    rw [hk] at h
    cases hs:SQ (denote tb) p w s t with
    | none=>simp_all
    | some x=>obtain⟨s₂,t₂⟩:=x;rw [hs] at h;rw [stepT_spec hs];exact qi h
theorem sq{k:O7->α}{r:α}:∀{n:Nat} {s:O7} {t:P3},wG tb p w n₀ ann m k n s t=some r->∃s',RU tb p w n₀ ann (m*n) s.abs t=some s'.abs/\k s'=r
 | 0,s,t,h=>by cases h
 | n+1,s,t,h=>by
  have h:wF through (RF n₀ ann) (SQ (denote tb) p w) m k (wG tb p w n₀ ann m k n) s t=some r:=h
  unfold wF at h
  cases hs:sj through (RF n₀ ann) (SQ (denote tb) p w) m s t with
  | none=>simp_all
  | some x=>
   obtain⟨b,s₂,t₂⟩:=x
   rw [hs] at h
   cases b with
   | true=>
    have h:kG s₂ (FU k)=some r:=h
    rw [qh] at h
    refine⟨s₂,?_,Option.some.inj h⟩
    rw [show m*(n+1)=m+m*n by rw [Nat.mul_succ];lia]
    exact topRun_mono _ _ _ _ _ (qi hs)
   | false=>
    have h:kG s₂ (goOn (wG tb p w n₀ ann m k n) t₂)=some r:=h
    rw [qh] at h
    obtain⟨s',e,e'⟩:=sq h
    refine⟨s',?_,e'⟩
    rw [show m*(n+1)=m+m*n by rw [Nat.mul_succ];lia]
    exact sk hs _ _ e
end
noncomputable def HZ(P:Params):BT:=
 .node (boot_o_0 P) (.node (boot_o_1 P) (.node (boot_o_3 P) (.node (boot_o_7 P) .nil .nil) .nil) (.node (boot_o_5 P) (.node (boot_o_9 P) .nil .nil) .nil))
  (.node (boot_o_2 P) (.node (boot_o_4 P) (.node (boot_o_8 P) .nil .nil) .nil) (.node (boot_o_6 P) (.node (boot_o_10 P) .nil .nil) .nil))
noncomputable def ss(w:OV)(os:Rk):O7:=⟨HZ w.params,11,(PK w.params).life, #[],Q9,Rt,os⟩
noncomputable def sx(w:OV):Option OL:=(PK w.params).nsMap OX "__annotations__"
noncomputable def look{α:Type}(p q:OR)(loose:List Str)(Xt:OO->Bool)(g0:Bool)(Yf:OO->α)(w:OV)(s:O7):=
 ((SR (P4 p.main.body) (PK w.params) s.abs.heap&&Sh p s.abs.heap&&gensDone s.abs&&laidKept (PK w.params) s.abs.heap),openSeen q loose (P4 p.main.body) Xt g0 s.abs,Yf s.abs)
theorem Ia(w:OV):(PK w.params).isNs OX=true:=by kernel_rfl
noncomputable abbrev wH{α:Type}(p:OR)(w:OV):= @Ar through (Fast.tw6613529449190102663 11 (sx w)) (Fast.tw10156331382660048174 (Fast.tw11892475500146522536 Fast.tw14364793385576792824) p w) α
theorem CV(p:OR)(w:OV): @wG α Q4 p w 11 (sx w)=wH p w:=by
 show @Ar through (RF 11 (sx w)) (SQ (denote Q4) p w) α=_
 rw [Fast.te6613529449190102663,Fast.te10156331382660048174,Fast.te11892475500146522536,Fast.te14364793385576792824]
def wI{α:Type}(o:Option Obj)(a:Nat)(ih:Frag->(Frag->α)->α)(acc:Frag)(k:Frag->α):α:=match o with
 | some o=>(match alive o with
  | some o'=>ih ((a,o')::acc) k
  | none=>ih acc k)
 | none=>ih acc k
noncomputable def qU{α:Type}(t:BT)(n:Nat):Frag->(Frag->α)->α:=
 @Nat.rec (λ_=>Frag->(Frag->α)->α) (λacc k=>k acc) (λa ih acc k=>wI (t.get a) a ih acc k) n
def iL(h:Heap)(n:Nat):Frag:=(List.range n).filterMap λa=>(h.get? a).map λo=>(a,o)
theorem dU:∀{K:Frag},K.lookup a=some o->(a,o)∈K
 | [],h=>nomatch h
 | (b,x)::K,h=>by
  simp only [List.lookup] at h
  split at h
  ·simp_all
  ·exact MV _ (dU h)
theorem As(h:Heap)(n:Nat):(iL h n).In h:=λa o e=>by
 obtain⟨b,_,q⟩:=List.mem_filterMap.mp (dU e)
 obtain⟨x,h1,h2⟩:=Option.map_eq_some_iff.mp q
 cases h2
 exact h1
def Au(t:BT)(n:Nat):Bool:=(List.range n).all λa=>(t.get a).isSome
theorem mJ{k:Frag->α}(f:Au t m=true):∀(n:Nat) (acc:Frag),n<=m->qU t n acc k=k (iL (SF t m life) n++acc)
 | 0,acc,_=>rfl
 | n+1,acc,le=>by
  have e:qU t (n+1) acc k=wI (t.get n) n (qU t n) acc k:=rfl
  have hs:=List.all_eq_true.mp f n (List.mem_range.mpr le)
  obtain⟨o,hg⟩:=Option.isSome_iff_exists.mp hs
  have hx:iL (SF t m life) (n+1)++acc=iL (SF t m life) n++((match alive o with | some o'=>[(n,o')] | none=>[])++acc):=by
   unfold iL
   rw [NE,List.filterMap_append,Nj]
   congr 2
   rw [NX,abs_get le hg]
   cases alive o<;>rfl
  rw [e,hx]
  unfold wI
  rw [hg]
  cases ha:alive o with
  | none=>simp only [ha];exact mJ f n acc (Nat.le_of_succ_le le)
  | some o'=>simp only [ha];exact mJ f n _ (Nat.le_of_succ_le le)
noncomputable def wJ{α:Type}(see:Frag->α)(s:O7):α:=qU s.tree s.n [] see
theorem Av(f:Au s.tree s.n=true):wJ see s=see (iL s.abs.heap s.abs.heap.objs.size):=by
 unfold wJ
 rw [mJ f s.n [] (Nat.le_refl _),Nv]
 show _=see (iL (SF s.tree s.n s.life) (SF s.tree s.n s.life).objs.size)
 rw [absHeap_size]
noncomputable def wK{α:Type}(p q:OR)(loose:List Str)(Xt:OO->Bool)(see:Frag->α)(w:OV)(s:O7):=
 (Au s.tree s.n&&(SR (P4 p.main.body) (PK w.params) s.abs.heap&&Sh p s.abs.heap&&gensDone s.abs&&laidKept (PK w.params) s.abs.heap),openSeen q loose (P4 p.main.body) Xt true s.abs,wJ see s)
def Jo{α:Type}(see:Frag->α)(s:OO):α:=see (iL s.heap s.heap.objs.size)
theorem uh{see:Frag->α}{saw:OV->α}{N:Nat}
 (e:opening p=plainProg p.main.scope.names) (hN:Nat.ble 600 N=true) (f:∀s,fenceModules? p s=some s) (le:Nat.ble (m*n) N=true)
 (run:∀(w:OV) (os:Rk),wH p w m (wK p q loose Xt see w) n (ss w os) (SX p)=some (true,openGood q loose,saw w)):
 LeftO p q loose Xt (Jo see) saw N true:=by
 intro w
 obtain⟨⟨h,gs,d,k,os⟩,e1,e2⟩:=Option.map_eq_some_iff.mp (boot_open e hN f w)
 obtain⟨rfl,rfl,rfl,rfl⟩:h=PK w.params/\gs=Array.mk []/\d=Q9/\k=Rt:=by simpa using e2
 have r0:=run w os
 rw [<-CV] at r0
 obtain⟨s',r,l⟩:=sq r0
 have r:RU Q4 p w 11 (sx w) (m*n) ⟨PK w.params,Array.mk [],Q9,Rt,os⟩ (SX p)=some s'.abs:=r
 have r:=topRun_mono (N-m*n) _ _ _ _ r
 rw [show m*n+(N-m*n)=N by have:=MP le;lia] at r
 obtain⟨l0,l1⟩:=Bool.and_eq_true_iff.mp (congrArg Prod.fst l)
 have l2:=congrArg (λx=>x.2.1) l
 have l3:=(Av l0).symm.trans (congrArg (λx=>x.2.2) l)
 have t:topFrom Q4 p w N ⟨PK w.params,Array.mk [],Q9,Rt,os⟩=some s'.abs:=by
  unfold topFrom
  rw [Ia w]
  show(RU Q4 p w 11 (sx w) N ⟨PK w.params,Array.mk [],Q9,Rt,os⟩ (SX p)).bind _=_
  rw [r]
  show(match SR (P4 p.main.body) (PK w.params) s'.abs.heap&&Sh p s'.abs.heap&&gensDone s'.abs&&laidKept (PK w.params) s'.abs.heap with | true=>_ | false=>_)=_
  rw [l1]
 unfold openEnds
 rw [e1]
 show Option.map _ (topFrom Q4 p w N _)=_
 rw [t]
 exact congrArg some (Prod.ext l2 l3)
def gY(p:OR)(x:Str):List Str:=p.boundNames.filter λy=>!(y==x)
theorem yw{l:SA}{N:Nat}{see:Frag->α}{saw:OV->α}
 (said:l.row.wellSaid=true)
 (e:opening l.prog=plainProg l.prog.main.scope.names) (f:∀s,fenceModules? l.prog s=some s) (hN:Nat.ble 600 N=true) (le:Nat.ble (m*n) N=true)
 (run:∀(w:OV) (os:Rk),wH l.prog w m (wK l.prog (view l.prog [i]) (gY l.prog l.name) (λ_=>true) see w) n (ss w os) (SX l.prog)=some (true,openGood (view l.prog [i]) (gY l.prog l.name),saw w))
 (hdef:defOf (view l.prog [i]) l.row.name=some (d,kwd)) (hp:l.row.prog.theDef l.row.name=some (d.params,d.body,d.scope)) (hk:kwWritten? d.params.kwonlyargs d.params.kw_defaults=some kwd)
 (ok:(chainsOk (view l.prog [i])&&opensWell l.row.prog&&(frees l.row.toRowW&&l.row.within.isEmpty))=true) (hb:l.row.prog.bare) (hw:l.row.toRowW.promised)
 (call:WalkO (view l.prog [i]) (gY l.prog l.name) (λ_ _=>True) (λw h=>∃K,K.In h/\see K=saw w) l.row.toRowW d kwd λf vs=>Sy f vs):l.row.Holds:=
 holds_open (uh e hN f le run) (λ_ s h=>⟨_,As s.heap _,h⟩) (λ_ _ _ z k=>by obtain⟨K,a,b⟩:=z;exact⟨K,a.keeps k,b⟩) (λ_ _=>trivial) (λ_ _ _ _ _=>trivial) hdef hp hk (λs _=>recFacts_of (R:=[]) rfl) (by show(_ || true)=true;exact Bool.or_true _) said ok hb hw call
theorem Aw{l:SA}{S:OV->Frag->Prop}{sp:Frag->_L.Sp}
 (hn:l.most=some n) (hn2:n<=ON) (hdf:d.params.defaults= []) (hr:_L.Room k Rz)
 (F:∀(w:OV) (K:Frag) (mg:Str->Option OL) (fa:Addr) (h:Heap),S w K->K.In h->h.Ns OX mg->mg d.name=some (.ref fa)->
  ∃fd,(∀(s:OO) (u:OL),Ry s fd ⟨[u],[]⟩ [(x,u)])/\
   ∀base:Heap,K.In base->base.Ns OX mg->_L.eu l.prog w K mg base CX k fa fd [x] (sp K))
 (hsp:∀(K:Frag) (H:_L.Hp) (a:Addr) (ns:List Int),ns.length<=n->_L.zZ H->_L.SqL K H a (ns.map _L.V.int)->sp K [.ref a] H (λv _=>v= .bl true) λ_ _ _=>False)
 (hCX:∀(H:_L.Hp) (s:OO) (e:OL) (s':OO),CX [] H s (λ_ _ _=>False) e s'->False):
 WalkO q loose XP (λw h=>∃K,K.In h/\S w K) l.row.toRowW d [] (λf vs=>Sy f vs):=by
 refine _A.t7 hn hdf λw s₀ s₁ mg mb fa o pm cd doc a vs ns G Y ho hd hcd hmg hobj hints JZ hg=>?_
 obtain⟨K,KX,hS⟩:=Y
 obtain⟨fd,hb,hF⟩:=F w K mg fa _ hS KX G.T.g hmg
 exact _L.z9 KX G.T.g G.T.b G.T.builtins G.T.nolimit hg hobj hints (Nat.le_trans JZ hn2) hr hF hb (λH hO hS=>hsp K H a ns JZ hO hS) λH e s'=>hCX H s₁ e s'
def cA(s:Stmt):Str:=match s with
 | .FunctionDef n _ _ _ _ _ _ _ _ _=>n
 | _=>""
abbrev gZ:=Option (Str×Str×Arguments×FuncBody×Ql×Addr×List (Str×Addr)×OL×Addr×Bool)
def kH(K:Frag)(q:Str)(f:Addr):gZ:=match K.lookup f with
 | some ⟨_,_,.func fd,_⟩=>some (fd.name,fd.qualname,fd.params,fd.body,fd.scope,fd.globals,fd.closure,fd.defaults,fd.builtins,codeIn K fd.code q)
 | _=>none
noncomputable def eZ(x q:Str)(st:Stmt):gZ:=some (x,q,_L.fH st,.stmts (_L.b7 st),_L.ai st,OX,[],.none,Rx,true)
theorem nO(e:kH K q f=eZ x q st):
 ∃fd,_L.Fun K x q st f fd:=by
 unfold kH at e
 split at e
 ·rename_i oc od fd sl hl
  obtain⟨nm,qn,pa,bo,sc,gl,cl,df,kd,doc,pm,an,cdv,ct,bu⟩:=fd
  simp only [eZ,Option.some.injEq,Prod.mk.injEq] at e
  obtain⟨rfl,rfl,rfl,rfl,rfl,rfl,rfl,rfl,rfl,c⟩:=e
  exact⟨_,⟨oc,od,kd,doc,pm,an,cdv,ct,sl,rfl,hl,c⟩,by unfold PV;simp only [hl]⟩
 ·cases e
theorem mK(F:_L.Fun K x q st f fd)
 (b:∀(kV doc pm:OL) (an:Option Addr) (cdv ct:OL) (us:List OL),us.length=ps.length->RN (fnOf x q (_L.fH st) (_L.b7 st) (_L.ai st) .none kV doc pm an cdv ct) ⟨us,[]⟩=pure (ps.zip us)):_L.Binds K fd ps []:=by
 obtain⟨⟨oc,od,kV,doc,pm,an,cdv,ct,osl,rfl,_⟩,_⟩:=F
 exact .all (b kV doc pm an cdv ct)
def jk(K:Frag)(st:Stmt):gZ:=match nsIn K OX (cA st) with
 | some (some (.ref f))=>kH K (cA st) f
 | _=>none
theorem yz(e:jk K st=eZ (cA st) (cA st) st)(hx:cA st=x):∃f fd,nsIn K OX x=some (some (.ref f))/\_L.Fun K x x st f fd:=by
 subst hx
 unfold jk at e
 split at e
 ·rename_i f ha
  obtain⟨fd,F⟩:=nO e
  exact⟨f,fd,ha,F⟩
 ·cases e
theorem aV(X:K.In h)(G:h.Ns OX mg)(e:jk K st=eZ (cA st) (cA st) st)(hx:cA st=x)
 (b:∀(kV doc pm:OL) (an:Option Addr) (cdv ct:OL) (us:List OL),us.length=ps.length->RN (fnOf x x (_L.fH st) (_L.b7 st) (_L.ai st) .none kV doc pm an cdv ct) ⟨us,[]⟩=pure (ps.zip us)):_L.DefAt K mg x st ps:=by
 obtain⟨f,fd,ha,F⟩:=yz e hx
 exact⟨f,fd,mg_of X G ha,F,mK F b⟩
theorem CY(X:K.In h)(G:h.Ns OX mg)(e:jk K st=eZ (cA st) (cA st) st)(hx:cA st=x)(hfa:mg x=some (.ref fa))
 (b:∀(kV doc pm:OL) (an:Option Addr) (cdv ct:OL) (s:OO) (u:OL),Ry s (fnOf x x (_L.fH st) (_L.b7 st) (_L.ai st) .none kV doc pm an cdv ct) ⟨[u],[]⟩ [(y,u)]):
 ∃fd,_L.Fun K x x st fa fd/\∀(s:OO) (u:OL),Ry s fd ⟨[u],[]⟩ [(y,u)]:=by
 obtain⟨f,fd,ha,F⟩:=yz e hx
 have e:=hfa.symm.trans (mg_of X G ha)
 cases e
 refine⟨fd,F,?_⟩
 obtain⟨⟨oc,od,kV,doc,pm,an,cdv,ct,osl,rfl,_⟩,_⟩:=F
 exact b kV doc pm an cdv ct
def d6(K:Frag)(x:Str):Bool:=match nsIn K OX x with
 | some none=>true
 | _=>false
theorem dE(X:K.In h)(G:h.Ns OX mg)(e:d6 K x=true):mg x=none:=by
 unfold d6 at e
 split at e
 ·rename_i ha;exact mg_none_of X G ha
 ·cases e
def isInt(K:Frag)(x:Str)(n:Int):Bool:=match nsIn K OX x with
 | some (some (.int m _))=>decide (m=n)
 | _=>false
theorem og(X:K.In h)(G:h.Ns OX mg)(e:isInt K x n=true):∃tk,mg x=some (.int n tk):=by
 unfold isInt at e
 split at e
 ·rename_i m tk ha;cases of_decide_eq_true e;exact⟨tk,mg_of X G ha⟩
 ·cases e
def fc(K:Frag)(x:Str):Bool:=match nsIn K OX x with
 | some (some (.ref _))=>true
 | _=>false
def adr(K:Frag)(x:Str):Addr:=match nsIn K OX x with
 | some (some (.ref f))=>f
 | _=>0
theorem ff(e:fc K x=true):nsIn K OX x=some (some (.ref (adr K x))):=by
 unfold fc at e
 unfold adr
 split at e
 ·simp_all
 ·cases e
def All(l:List Bool):Bool:=l.all id
theorem all_cons(h:All (b::l)=true):b=true/\All l=true:=Bool.and_eq_true_iff.mp h
theorem aF{α:Type}{a b:α}{l m:List α}(h:a::l=b::m):a=b/\l=m:=List.cons.inj h
end _D
namespace _D
open PySem PySem.W _L
noncomputable def dX(K:Frag)(C:Addr)(attrs:List Str):Bool:=plainGet K C Str.empty&&(hasDictIn K C&&(plainOver K C&&((Pb K (.ref C) "__setattr__" ==some (some (.builtin "object.__setattr__")))&&(makesIn K C&&(PV K (.ref C)&&attrs.all λa=>Pb K (.ref C) a==some none)))))
theorem hG(e:dX K C attrs=true):Cls K C/\makesIn K C=true/\PV K (.ref C)=true/\∀a∈attrs,NoAttr K C a:=by
 unfold dX at e
 simp only [M0] at e
 obtain⟨e1,e2,e3,e4,e5,e6,e7⟩:=e
 exact⟨⟨e1,e2,e3,beq_iff_eq.mp e4⟩,e5,e6,λa ha=>beq_iff_eq.mp (List.all_eq_true.mp e7 a ha)⟩
def lw(K:Frag)(C:Addr)(m q:Str):gZ:=match Pb K (.ref C) m with
 | some (some (.ref f))=>if isFn K (.ref f)=true then kH K q f else none
 | _=>none
theorem FV(e:lw K C m q=eZ m q st):∃f fd,Pb K (.ref C) m=some (some (.ref f))/\isFn K (.ref f)=true/\_L.Fun K m q st f fd:=by
 unfold lw at e
 split at e
 ·rename_i f ha
  split at e
  ·rename_i i
   obtain⟨fd,F⟩:=nO e
   exact⟨f,fd,ha,i,F⟩
  ·cases e
 ·cases e
theorem fL(X:K.In h)(G:h.Ns OX mg)(g:nsIn K OX x=some (some (.ref C)))(mk:makesIn K C=true)(kc:PV K (.ref C)=true)(e:lw K C "__init__" q=eZ "__init__" q st)
 (b:∀(kV doc pm:OL) (an:Option Addr) (cdv ct:OL) (us:List OL),us.length=ps.length->RN (fnOf "__init__" q (_L.fH st) (_L.b7 st) (_L.ai st) .none kV doc pm an cdv ct) ⟨us,[]⟩=pure (ps.zip us)):MakeAt K mg x C q st ps:=by
 obtain⟨f,fd,ha,i,F⟩:=FV e
 exact⟨f,fd,mg_of X G g,⟨mk,ha,i,kc⟩,F,mK F b⟩
def pj(K:Frag)(a:Addr):=match K.lookup a with
 | some ⟨c,d,.dict es _,sl⟩=>some (c,d,sl,es.toList.map λ(e:QU)=>(e.hash,(match e.key with | OL.str x _=>some x | _=>none),(match e.val with | OL.str x _=>some x | _=>none)))
 | _=>none
inductive XEs (w:OV):List QU->List (Str×Str)->List (Str×OL)->Prop
 | nil:XEs w [] [] []
 | cons {x y:Str} {u v:Tok} {es:List QU} {l:List (Str×Str)} {vs:List (Str×OL)}:XEs w es l vs->XEs w (⟨qZ w (.inr x),.str x u,.str y v⟩::es) ((x,y)::l) ((x,.str y v)::vs)
theorem XEs.dict(P:OR)(t:XEs w es l vs):(∀e∈es,∃k,(aN P w).is k e.key=true/\e.hash=(aN P w).hash k)/\Pairs (aN P w) es (vs.map λp=>((.inr p.1:Key),p.2))/\KV (l.map λp=>((.inr p.1:Key),V.str p.2)) (vs.map λp=>((.inr p.1:Key),p.2))/\(vs.map λp=>((.inr p.1:Key),p.2)).map (·.1)=(l.map (·.1)).map (Sum.inr:Str->Key):=by
 induction t with
 | nil=>exact⟨λe he=>absurd he MT,.nil,.nil,rfl⟩
 | @cons x y u v es l vs r ih=>
  obtain⟨h1,h2,h3,h4⟩:=ih
  have ki:(aN P w).is (.inr x) (.str x u)=true:=by
   show OL.isStrOf x (.str x u)=true
   simp [OL.isStrOf]
  refine⟨λe he=>?_,.cons ki rfl h2,.cons ⟨rfl,⟨_,rfl⟩⟩ h3,by rw [Ng,Ng,h4];rfl⟩
  rcases List.mem_cons.mp he with rfl | he
  ·exact⟨.inr x,ki,rfl⟩
  ·exact h1 e he
theorem FW:∀{F:List (Str×Str)},(es.map λ(e:QU)=>(e.hash,(match e.key with | OL.str x _=>some x | _=>none),(match e.val with | OL.str x _=>some x | _=>none)))=(F.map λp=>(qZ w (.inr p.1),some p.1,some p.2))->∃vs,XEs w es F vs:=by
 induction es with
 | nil=>
  intro F h
  cases F with
  | nil=>exact⟨[],.nil⟩
  | cons _ _=>cases h
 | cons e es ih=>
  intro F h
  cases F with
  | nil=>cases h
  | cons p F=>
   obtain⟨h1,h2⟩:=List.cons.inj h
   obtain⟨vs,a⟩:=ih h2
   obtain⟨hs,ky,vl⟩:=e
   simp only [Prod.mk.injEq] at h1
   obtain⟨rfl,hk,hv⟩:=h1
   cases ky<;>simp only [reduceCtorEq,Option.some.injEq] at hk
   subst hk
   cases vl<;>simp only [reduceCtorEq,Option.some.injEq] at hv
   subst hv
   exact⟨_,.cons a⟩
theorem CZ{F:List (Str×Str)}(e:pj K a=some (OL.type "dict",none, #[],F.map λp=>(qZ w (.inr p.1),some p.1,some p.2)))(ns:(a==Pi)=false)(nd:((F.map (·.1)).map (Sum.inr:Str->Key)).Nodup):KD P w K a (F.map λp=>((.inr p.1:Key),V.str p.2)):=by
 unfold pj at e
 split at e
 ·rename_i c d es n sl hk
  simp only [Option.some.injEq,Prod.mk.injEq] at e
  obtain⟨rfl,rfl,rfl,e⟩:=e
  obtain⟨vs,fe⟩:=FW e
  obtain⟨h1,h2,h3,h4⟩:=fe.dict P
  exact⟨_,_,hk,ns,h3,λh hh=>⟨_,es,n,hh,⟨rfl,rfl,rfl⟩,rfl,λe he=>h1 e (Array.mem_toList_iff.mpr he),h2,by rw [h4];exact nd⟩⟩
 ·cases e
def pA(K:Frag)(C:Addr)(m q:Str):gZ:=match Pb K (.ref C) m with
 | some (some (.ref f))=>if (isFn K (.ref f)&&PV K (.ref f))=true then kH K q f else none
 | _=>none
theorem aT{K:Frag}{C:Addr}{m q:Str}{st:Stmt}{ps:List Str}(e:pA K C m q=eZ m q st)
 (b:∀(kV doc pm:OL) (an:Option Addr) (cdv ct:OL) (us:List OL),us.length=ps.length->RN (fnOf m q (_L.fH st) (_L.b7 st) (_L.ai st) .none kV doc pm an cdv ct) ⟨us,[]⟩=pure (ps.zip us)):MethAt K C m q st ps:=by
 unfold pA at e
 split at e
 ·rename_i f ha
  split at e
  ·rename_i i
   rw [M0] at i
   obtain⟨fd,F⟩:=nO e
   exact⟨f,fd,⟨ha,i.1,i.2⟩,F,mK F b⟩
  ·cases e
 ·cases e
end _D
namespace _L
open PySem PySem.Spec PyProof.Rows
theorem PE.imp{X:Cx}{e:Expr}{t t':TE}(h:PE X e t)(k:∀σ H Q,t' σ H Q->t σ H Q):PE X e t':=λTi s σ H Q I q=>h Ti s σ H Q I (k σ H Q q)
def oh(i:Nat):TE:=λσ H Q=>match σ[i]? with
 | some (some v)=>Q v H
 | _=>False
theorem Ax{i:Nat}{σ:St}{H:Hp}{Q:VK}(h:oh i σ H Q):dF i σ H Q:=by
 unfold oh at h
 split at h
 ·next v e=>exact⟨v,e,h⟩
 ·exact h.elim
section
variable{X:Cx}
theorem pvM(i:Nat){x:Str}{pos:Pos}(hN:X.N[i]? =some x:=by rfl)(hv:Vis X.env.scope x:=by first | exact Or.inl rfl | exact Or.inr (Or.inl rfl) | exact Or.inr (Or.inr rfl))(hd:(x==("__debug__":Str))=false:=by decide)
 (hcd:(x==("__classdict__":Str))=false:=by decide):PE X (.Name x pos) (oh i):=(pv i hN hv hd hcd).imp λ_ _ _ h=>Ax h
end
end _L
open Lean Meta Simp in
simproc_decl quickVM (_L.oh _ _ _ _) := fun e => do
  let_expr _L.oh i s H Q := e | return .continue
  let l ← mkAppM ``GetElem?.getElem? #[s, i]
  let w ← whnfD l
  let_expr Option.some _ o := w | return .continue
  let o' ← whnfD o
  let_expr Option.some _ v := o' | return .continue
  return .visit { expr := (mkApp2 Q v H).headBeta }
seal _L.PE _L.PA _L.PS _L.PSs _L.PT _L.PW _L.PG _L.PGs _L.OpR _L.bD _L.PI _L.vN _L.PO _L.SlR _L.IxR _L.PC _L.UnR _L.MtR
def _L.wa (s : String) : Lean.MacroM (Lean.TSyntax `tactic) := do
  let a ← _L.rdArgs s
  `(tactic| simp (config := { maxSteps := 3000000 }) only [$a,*, *])
def _L.wb (s : String) : Lean.MacroM (Lean.TSyntax `tactic) := do
  let a ← _L.rdArgs s
  `(tactic| simp (config := { maxSteps := 3000000, zeta := false, zetaDelta := false }) only [$a,*, *])
local macro_rules
  | `(tactic| walk_at "rl") => _L.wa _L.lzPre
  | `(tactic| walk_at "ro") => do
    let a ← _L.rdArgs (_L.rdPre)
    `(tactic| simp (config := { maxSteps := 3000000 }) only [and_assoc, $a,*, *])
  | `(tactic| walk_at "rz") => _L.wa (_L.lzPre ++ " lazyAll")
  | `(tactic| walk_at "rd") => `(tactic| first | (walk_at "rl"; try walk_at "ro") | walk_at "ro")
  | `(tactic| walk_at "ry") => _L.wb (_L.lzPre2 ++ " lazyAll")
  | `(tactic| walk_at "rh") => `(tactic| with_reducible first | (refine _L.hideL ?_; intro T) | refine _L.hRet ?_ | refine _L.hIf ?_ | refine _L.hFor ?_ | refine _L.hDrop ?_ | refine _L.hAsg ?_ | refine _L.hWhile ?_ | refine _L.hFld ?_ | refine _L.hForU ?_ | refine _L.hForK ?_ | refine _L.hPut ?_ | refine _L.hRetN ?_)
  | `(tactic| walk_at "r2") => `(tactic| ((try walk_at "rh"); (try walk_at "ry"); repeat (walk_at "rh"; walk_at "ry")))
namespace _L
open PySem PySem.Spec PyProof.Rows
theorem scO{N P:List Str}{sc:Ql}(h:(sc.kind= .function/\sc.isCoroutine=false/\sc.isGenerator=false/\N.Nodup/\N.take P.length=P)/\(∀x∈P,sc.names.lookup x=some .local\/sc.names.lookup x=some .cell)/\∀y∈sc.names,y.2≠.free):au N P sc:=⟨h.1.1,h.1.2.1,h.1.2.2.1,h.1.2.2.2.1,h.1.2.2.2.2,h.2.1,h.2.2⟩
section
variable{X:Cx}{pos:Pos}{x:Str}{e a b c d:Expr}{es:List Expr}{te ta tb tc td:TE}{t:TA}{P:List Str}{sc:Ql}{op:CmpOp}{r:R2}
theorem aP(i:Nat){pos':Pos}(S:au X.N P sc)(he:PE X e te)(hi:X.N[i]? =some x:=by rfl)(hx:Loc X.env.scope x:=by exact .inl rfl)(hs:Qx e (some (.Name x pos')) pos.line X.env=pure false:=by rfl)(hf:X.fn x=true\/X.env.scope.names.lookup x=some .local:=by first | exact .inl rfl | exact .inr rfl | assumption):PS X (.Assign [.Name x pos'] e pos) (cG te (bW i)):=nI S.nd hi hx he hs hf
theorem aX(i:Nat)(S:au X.N P sc)(hi:X.N[i]? =some x:=by rfl)(hx:Loc X.env.scope x:=by exact .inl rfl)(hf:X.fn x=true\/X.env.scope.names.lookup x=some .local:=by first | exact .inl rfl | exact .inr rfl | assumption):PG X (.Name x pos) (bW i):=dw S.nd hi hx hf
theorem cO(i:Nat)(n:X.N.Nodup)(hi:X.N[i]? =some x:=by rfl)(hx:Loc X.env.scope x:=by exact .inl (OS rfl))(hf:X.fn x=true\/X.env.scope.names.lookup x=some .local:=by exact .inr (OS rfl)):PG X (.Name x pos) (bW i):=dw n hi hx hf
theorem ar(ha:PE X a ta)(hb:PE X b tb)(hs:uE b:=by exact λ_ _=>rfl):PE X (.Subscript a b pos) (tOp o0 ta tb):=Hw Jj ha hb hs
theorem aM(ho:OpR X (Pc op) r)(ha:PE X a ta)(hb:PE X b tb)(hm:PU op b=false:=by exact xu _):PT X (.Compare a [op] [b] pos) (vT (tOp r ta tb)):=gK ho ha hb hm
theorem cv(ho:OpR X (Pc op) r)(ha:PE X a ta)(hb:PE X b tb)(hm:PU op b=false:=by exact xu _):PE X (.Compare a [op] [b] pos) (tOp r ta tb):=Ch ho ha hb hm
theorem aB(ha:PE X a ta)(h:bt a=true:=by rfl):PA X [a] (cP ta fF):=cT ha aL h
theorem aA(ha:PE X a ta)(hb:PE X b tb)(h:(bt a&&bt b)=true:=by rfl):PA X [a,b] (cP ta (cP tb fF)):=cT ha (aB hb (Bool.and_eq_true_iff.mp h).2) (Bool.and_eq_true_iff.mp h).1
theorem bc(ha:PE X a ta)(hb:PE X b tb)(hc:PE X c tc)(h:(bt a&&(bt b&&bt c))=true:=by rfl):PA X [a,b,c] (cP ta (cP tb (cP tc fF))):=cT ha (aA hb hc (Bool.and_eq_true_iff.mp h).2) (Bool.and_eq_true_iff.mp h).1
theorem aU(ha:PE X a ta)(hb:PE X b tb)(hc:PE X c tc)(hd:PE X d td)(h:(bt a&&(bt b&&(bt c&&bt d)))=true:=by rfl):PA X [a,b,c,d] (cP ta (cP tb (cP tc (cP td fF)))):=cT ha (bc hb hc hd (Bool.and_eq_true_iff.mp h).2) (Bool.and_eq_true_iff.mp h).1
end
section
variable{X:Cx}{e:Expr}{es:List Expr}{t:TA}{x:Str}{p pos:Pos}{id T:String}{r:List V->Hp->VK->Prop}
theorem fM(hc:bD X (.builtin id) r)(hm:X.mg x=none)(ha:PA X (e::es) t)(hg:Gl X x:=by rfl)(hv:Pa x=some (.builtin id):=by decide)(hn:x≠"__name__":=by decide)(hdb:(x==("__debug__":Str))=false:=by decide)(hs:(e::es).all bt=true:=by rfl):PE X (.Call (.Name x p) (e::es) [] pos) (tCB r t):=iF hc hg hm hv ha hn hdb hs
theorem bK(hc:bD X (.type T) r)(hm:X.mg x=none)(ha:PA X (e::es) t)(hg:Gl X x:=by rfl)(hv:Pa x=some (.type T):=by decide)(hn:x≠"__name__":=by decide)(hdb:(x==("__debug__":Str))=false:=by decide)(hs:(e::es).all bt=true:=by rfl):PE X (.Call (.Name x p) (e::es) [] pos) (tCB r t):=FF hc hg hm hv ha hn hdb hs
end
section
variable{X:Cx}{scope:Ql}{cl:List (Str×Addr)}{N:List Str}{cap:List Nat}{k:Nat}{tg:Expr}{g:TG}{pos:Pos}{iter elt:Expr}{ifs:List Expr}{wi:TI}{tc:TT}{te:TE}
theorem cE(k:Nat)(N:List Str)(cap:List Nat)(hi:PI X tg iter wi)(hg:N.Nodup->∀C fp s₀ H₀,PG (X.comp scope (pc X.env scope) N C fp s₀ H₀) tg g)(ht:∀C fp s₀ H₀,PTs (X.comp scope (pc X.env scope) N C fp s₀ H₀) ifs tc)(he:∀C fp s₀ H₀,PE (X.comp scope (pc X.env scope) N C fp s₀ H₀) elt te)(hs:∀x,Pq iter X.env x=pure x:=by intro _;rfl)(S:dW X scope (pc X.env scope) N cap k:=by exact ce _ rfl rfl rfl rfl (by decide) rfl rfl rfl)(hc:X.calm=true:=by rfl):PE X (.ListComp elt [⟨tg,iter,ifs,0⟩] scope pos) (jh k cap wi g tc te):=Af S hc hi (hg S.nd) ht he hs
end
end _L
namespace _K
open PySem _L
def top(i:Nat):Stmt:=PySem.Challenge.pw_rerunyard_k33_stops_known.main.body.getD i (.Pass ⟨0,0,0,0⟩)
abbrev iM:Stmt:=aQ (top 2) 0
theorem mL:au ["self","count"] ["self","count"] (ai iM):=scO (by decide)
abbrev hJ:Stmt:=aQ (top 3) 0
theorem lJ:au ["self","level","most"] ["self","level","most"] (ai hJ):=scO (by decide)
abbrev hU:Stmt:=aQ (top 4) 0
theorem lK:au ["self","program"] ["self","program"] (ai hU):=scO (by decide)
abbrev jT:Stmt:=aQ (top 4) 5
theorem fN:au ["self","name","n","store","brought"] ["self","name","n"] (ai jT):=scO (by decide)
abbrev jU:Stmt:=aQ (top 4) 6
theorem dY:au ["self","hand","left","name","n","given","served"] ["self","hand"] (ai jU):=scO (by decide)
abbrev jV:Stmt:=aQ (top 4) 7
theorem pB:au ["self"] ["self"] (ai jV):=scO (by decide)
abbrev jm:Stmt:=aQ (top 4) 8
theorem om:au ["self"] ["self"] (ai jm):=scO (by decide)
abbrev jW:Stmt:=aQ (top 4) 9
theorem cU:au ["self","tools","stores","tool","told","store"] ["self","tools","stores"] (ai jW):=scO (by decide)
abbrev oq:Stmt:=top 5
theorem ui:au ["program"] ["program"] (ai oq):=scO (by decide)
abbrev lQ:Stmt:=top 6
theorem sy:au ["program"] ["program"] (ai lQ):=scO (by decide)
abbrev lR:Stmt:=top 7
theorem sA:au ["tool"] ["tool"] (ai lR):=scO (by decide)
abbrev kI:Stmt:=top 8
theorem qF:au ["store"] ["store"] (ai kI):=scO (by decide)
abbrev hW:Stmt:=top 12
theorem gA:au ["store","served","hand","n"] ["store"] (ai hW):=scO (by decide)
abbrev lS:Stmt:=top 14
theorem sB:au ["statement"] ["statement"] (ai lS):=scO (by decide)
abbrev hX:Stmt:=top 15
theorem gB:au ["statement","word"] ["statement"] (ai hX):=scO (by decide)
abbrev ot:Stmt:=top 16
theorem lT:au ["statement","word"] ["statement"] (ai ot):=scO (by decide)
abbrev uY:Stmt:=top 17
theorem Ay:au ["sign","left","right"] ["sign","left","right"] (ai uY):=scO (by decide)
abbrev mM:Stmt:=top 18
theorem qj:au ["thing"] ["thing"] (ai mM):=scO (by decide)
abbrev iN:Stmt:=aQ (top 24) 0
theorem mN:au ["self","number","name","row","known"] ["self","number","name","row","known"] (ai iN):=scO (by decide)
abbrev iO:Stmt:=aQ (top 25) 0
theorem mO:au ["self","program","outer","agenda"] ["self","program","outer","agenda"] (ai iO):=scO (by decide)
abbrev fY:Stmt:=aQ (top 25) 1
theorem j0:au ["self"] ["self"] (ai fY):=scO (by decide)
abbrev fg:Stmt:=aQ (top 25) 2
theorem eF:au ["self","moment"] ["self"] (ai fg):=scO (by decide)
abbrev iX:Stmt:=aQ (top 25) 3
theorem fh:au ["self","moment"] ["self"] (ai iX):=scO (by decide)
abbrev iP:Stmt:=aQ (top 25) 4
theorem dc:au ["self","thing","brought","served"] ["self"] (ai iP):=scO (by decide)
abbrev ow:Stmt:=aQ (top 25) 7
theorem uj:au ["self"] ["self"] (ai ow):=scO (by decide)
abbrev ox:Stmt:=aQ (top 25) 9
theorem uk:au ["self"] ["self"] (ai ox):=scO (by decide)
abbrev lU:Stmt:=aQ (top 25) 10
theorem sc_Yard_view:au ["self","hands","told"] ["self"] (ai lU):=scO (by decide)
abbrev lV:Stmt:=aQ (top 25) 11
theorem sC:au ["self"] ["self"] (ai lV):=scO (by decide)
abbrev kJ:Stmt:=aQ (top 25) 12
theorem bU:au ["self","kept","hands","tools","stores","places","agenda","begun","left"] ["self","kept"] (ai kJ):=scO (by decide)
abbrev oy:Stmt:=aQ (top 25) 13
theorem ul:au ["self","number","words"] ["self","number","words"] (ai oy):=scO (by decide)
abbrev lW:Stmt:=aQ (top 25) 14
theorem fj:au ["self","name","served","number","word","n"] ["self","name","served"] (ai lW):=scO (by decide)
abbrev kK:Stmt:=aQ (top 25) 15
theorem qG:au ["self","name","numbers"] ["self","name","numbers"] (ai kK):=scO (by decide)
abbrev iQ:Stmt:=aQ (top 25) 16
theorem de:au ["self","hand","name","given","served"] ["self","hand"] (ai iQ):=scO (by decide)
abbrev d9:Stmt:=aQ (top 25) 18
theorem iA:au ["self","hand","k"] ["self","hand","k"] (ai d9):=scO (by decide)
abbrev jn:Stmt:=aQ (top 25) 19
theorem oA:au ["self","hand","stop"] ["self","hand","stop"] (ai jn):=scO (by decide)
abbrev lX:Stmt:=aQ (top 25) 20
theorem sD:au ["self","hand","word","names","numbers"] ["self","hand","word","names","numbers"] (ai lX):=scO (by decide)
abbrev lY:Stmt:=aQ (top 25) 21
theorem sE:au ["self","hand","moments"] ["self","hand","moments"] (ai lY):=scO (by decide)
abbrev eG:Stmt:=aQ (top 27) 0
theorem iY:au ["self"] ["self"] (ai eG):=scO (by decide)
abbrev hZ:Stmt:=aQ (top 27) 1
theorem d7:au ["self","moment","thing","at"] ["self","moment","thing"] (ai hZ):=scO (by decide)
abbrev fZ:Stmt:=aQ (top 27) 2
theorem j2:au ["self"] ["self"] (ai fZ):=scO (by decide)
abbrev gC:Stmt:=aQ (top 27) 3
theorem kL:au ["self"] ["self"] (ai gC):=scO (by decide)
abbrev eI:Stmt:=aQ (top 27) 4
theorem iZ:au ["self"] ["self"] (ai eI):=scO (by decide)
abbrev gb:Stmt:=aQ (top 27) 5
theorem dB:au ["self","kept","moment","thing"] ["self","kept"] (ai gb):=scO (by decide)
abbrev eJ:Stmt:=aQ (top 28) 0
theorem i3:au ["self"] ["self"] (ai eJ):=scO (by decide)
abbrev ia:Stmt:=aQ (top 28) 1
theorem lL:au ["self","moment","thing"] ["self","moment","thing"] (ai ia):=scO (by decide)
abbrev gf:Stmt:=aQ (top 28) 2
theorem j3:au ["self"] ["self"] (ai gf):=scO (by decide)
abbrev gE:Stmt:=aQ (top 28) 3
theorem cf:au ["self","moment","turn","thing","last"] ["self"] (ai gE):=scO (by decide)
abbrev eK:Stmt:=aQ (top 28) 4
theorem i7:au ["self"] ["self"] (ai eK):=scO (by decide)
abbrev gh:Stmt:=aQ (top 28) 5
theorem dC:au ["self","kept","moment","thing"] ["self","kept"] (ai gh):=scO (by decide)
abbrev yA:Stmt:=top 29
theorem pC:au ["heap","at"] ["heap"] (ai yA):=scO (by decide)
abbrev yB:Stmt:=top 30
theorem jo:au ["heap","at","least"] ["heap"] (ai yB):=scO (by decide)
abbrev ib:Stmt:=top 31
theorem cQ:au ["heap","at","least","below"] ["heap","at"] (ai ib):=scO (by decide)
abbrev yC:Stmt:=top 32
theorem uZ:au ["heap","one","other","kept"] ["heap","one","other"] (ai yC):=scO (by decide)
abbrev u0:Stmt:=top 35
theorem jM:au ["e","values","now","own","kind","left","right"] ["e","values","now","own"] (ai u0):=scO (by decide)
abbrev iR:Stmt:=top 36
theorem mP:au ["name","values"] ["name","values"] (ai iR):=scO (by decide)
abbrev oB:Stmt:=top 37
theorem um:au ["sign","left","right"] ["sign","left","right"] (ai oB):=scO (by decide)
abbrev qk:Stmt:=top 38
theorem wL:au ["n"] ["n"] (ai qk):=scO (by decide)
abbrev fm:Stmt:=aQ (top 40) 0
theorem jp:au ["self","program","outer","agenda"] ["self","program","outer","agenda"] (ai fm):=scO (by decide)
abbrev gF:Stmt:=aQ (top 40) 1
theorem bN:au ["self","hand","path","going","statement"] ["self","hand"] (ai gF):=scO (by decide)
abbrev jq:Stmt:=aQ (top 40) 2
theorem iS:au ["self","hand","statement","path","numbers"] ["self","hand","statement","path"] (ai jq):=scO (by decide)
abbrev gj:Stmt:=aQ (top 40) 3
theorem bY:au ["self","hand","expressions","numbers","e","n","stop"] ["self","hand","expressions"] (ai gj):=scO (by decide)
abbrev jX:Stmt:=top 41
theorem cV:au ["body","row","at","statement","within","path"] ["body","row"] (ai jX):=scO (by decide)
abbrev ie:Stmt:=top 42
theorem d8:au ["path","body","at"] ["path"] (ai ie):=scO (by decide)
abbrev qm:Stmt:=top 43
theorem jN:au ["path","body","at"] ["path"] (ai qm):=scO (by decide)
abbrev jY:Stmt:=top 44
theorem pD:au ["statement","held","path"] ["statement","held","path"] (ai jY):=scO (by decide)
abbrev lZ:Stmt:=top 46
theorem cW:au ["cell","k","j","number"] ["cell","k"] (ai lZ):=scO (by decide)
abbrev ma:Stmt:=top 47
theorem cX:au ["program","outer","heap","most","agenda","yard","many"] ["program","outer","heap","most"] (ai ma):=scO (by decide)
abbrev jZ:Stmt:=top 48
theorem jr:au ["yard","stop","log","view"] ["yard","stop","log"] (ai jZ):=scO (by decide)
abbrev oC:Stmt:=top 49
theorem i8:au ["cell","far","some"] ["cell"] (ai oC):=scO (by decide)
abbrev fo:Stmt:=top 50
theorem aK:au ["cell","e","stop","good","some","ahead","hands","program","moment","outer","yard","many","log"] ["cell"] (ai fo):=scO (by decide)
abbrev js:Stmt:=top 51
theorem sc__law_endless:au ["cell","many","before","body","inner","sides","program","says","left","row","k","outer","yard","happened"] ["cell"] (ai js):=scO (by decide)
abbrev md:Stmt:=top 52
theorem sc__law_many:au ["cell","outer","program","yard","happened","log","k","body"] ["cell"] (ai md):=scO (by decide)
abbrev mf:Stmt:=top 53
theorem sc__law_long:au ["cell","hands","brings","moment","sides","body","program","outer","yard","happened","log"] ["cell"] (ai mf):=scO (by decide)
abbrev wM:Stmt:=top 54
theorem sF:au ["script","cell","way"] ["script"] (ai wM):=scO (by decide)
end _K
namespace _L
open PySem
def spG{A:Type}(args:A->List V)(pre:A->Hp->Prop)(post:A->Hp->V->Hp->Prop):Sp:=λvs H Q _=>∃a,vs=args a/\pre a H/\∀v H',post a H v H'->Q v H'
section
variable{P:OR}{w:OV}{K:N5}{mg:Str->Option OL}{base:Heap}{A:Type}{args:A->List V}{pre:A->Hp->Prop}{post:A->Hp->V->Hp->Prop}{N ps:List Str}{k:Nat}{st:Stmt}
theorem MethAt.okG(D:MethAt K C m q st ps)(cl:Cls K C)(sc:au N ps (ai st))(hl:∀a,(args a).length=ps.length)
 (body:∀(a:A) (f:Addr) (cdv:OL) (A':OY) (outer:List Env) (s:OO) (H:Hp) (Q:VK) (E:XK),Room k (A'.deeper (Pl q (ai st) s.heap.objs.size f cdv))->pre a H->(∀v H',post a H v H'->Q v H')->∃t,PSs (eT CX0 P w K mg base N q (ai st) f cdv A' outer s H E).nox (b7 st) t/\t {nx:=λ_ H'=>Q V.non H',rt:=Q} (start N (args a)) H):
 OkM P w K mg base (k+1) C m ps (spG args pre post):=by
 refine D.ok cl sc (λvs H Q E h=>?_) (λf cdv A' outer s H vs Q E hr h=>?_)
 ·obtain⟨a,rfl,_⟩:=h;exact hl a
 ·obtain⟨a,rfl,p,q⟩:=h;exact body a f cdv A' outer s H Q E hr p q
theorem DefAt.okG(D:DefAt K mg x st ps)(sc:au N ps (ai st))(hl:∀a,(args a).length=ps.length)
 (body:∀(a:A) (f:Addr) (cdv:OL) (A':OY) (outer:List Env) (s:OO) (H:Hp) (Q:VK) (E:XK),Room k (A'.deeper (Pl x (ai st) s.heap.objs.size f cdv))->pre a H->(∀v H',post a H v H'->Q v H')->∃t,PSs (eT CX0 P w K mg base N x (ai st) f cdv A' outer s H E).nox (b7 st) t/\t {nx:=λ_ H'=>Q V.non H',rt:=Q} (start N (args a)) H):
 OkD P w K mg base (k+1) x ps (spG args pre post):=by
 refine D.ok sc (λvs H Q E h=>?_) (λf cdv A' outer s H vs Q E hr h=>?_)
 ·obtain⟨a,rfl,_⟩:=h;exact hl a
 ·obtain⟨a,rfl,p,q⟩:=h;exact body a f cdv A' outer s H Q E hr p q
end
theorem MakeAt.okG{args:A->List V}{pre:A->Hp->Prop}{post:A->Hp->V->Hp->Prop}(D:MakeAt K mg x C q st ps)(sc:au N ps (ai st))(hl:∀a,(args a).length=ps.length)
 (body:∀(a:A) (f:Addr) (cdv:OL) (A':OY) (outer:List Env) (s:OO) (H:Hp) (Q:VK) (E:XK),Room k (A'.deeper (Pl q (ai st) s.heap.objs.size f cdv))->pre a H->(∀v H',post a H v H'->Q v H')->∃t,PSs (eT CX0 P w K mg base N q (ai st) f cdv A' outer s H E).nox (b7 st) t/\t {nx:=λ_ H'=>Q V.non H',rt:=Q} (start N (args a)) H):
 OkC P w K mg base (k+1) x C ps (spG args pre post):=by
 refine D.ok sc (λvs H Q E h=>?_) (λf cdv A' outer s H vs Q E hr h=>?_)
 ·obtain⟨a,rfl,_⟩:=h;exact hl a
 ·obtain⟨a,rfl,p,q⟩:=h;exact body a f cdv A' outer s H Q E hr p q
theorem mQ(m:Mu H a o H1)(m':Mu H1 a o' H2):Mu H a o' H2:=⟨m'.at_,λb h=>by rw [m'.else_ b h,m.else_ b h]⟩
theorem ah(k:Same H H1)(k':Same H1 H'):Same H H':=λa o h=>k' _ _ (k _ _ h)
theorem di(h:p)(x:X): @ite Prop p d X Y:=by rw [Th h];exact x
theorem bz(h:¬p)(y:Y): @ite Prop p d X Y:=by rw [Tf h];exact y
end _L
namespace _K
open PySem _L
structure CA where
 l:Addr
 h:Addr
 g:Addr
 t:Addr
 s:Addr
 y:Addr
 d:Addr
structure TC where
 a:Addr
 d:Addr
 q:Addr
 n:Int
structure SC where
 a:Addr
 g:Addr
 p:Addr
 l:Int
 m:Int
def TlO(C:Addr)(H:Hp)(t:TC):Prop:=(∃dx,H t.a=some (.ins C dx [("free",.int t.n),("held",.ref t.d),("queue",.ref t.q)]))/\H t.d=some (.dK [])/\H t.q=some (.lst [])
def StO(C:Addr)(H:Hp)(s:SC):Prop:=(∃dx,H s.a=some (.ins C dx [("level",.int s.l),("most",.int s.m),("getters",.ref s.g),("putters",.ref s.p)]))/\H s.g=some (.lst [])/\H s.p=some (.lst [])
def TC.cs(t:TC):List Addr:=[t.a,t.d,t.q]
def SC.cs(s:SC):List Addr:=[s.a,s.g,s.p]
def DtO(C:Addr)(H:Hp)(dt:Addr):Option TC->Prop
 | none=>H dt=some (.dK [])
 | some t=>H dt=some (.dK [(Sum.inr "jig",.ref t.a)])/\TlO C H t
def DsO(C:Addr)(H:Hp)(ds:Addr):Option SC->Prop
 | none=>H ds=some (.dK [])
 | some s=>H ds=some (.dK [(Sum.inr "bin",.ref s.a)])/\StO C H s
def tcs:Option TC->List Addr
 | none=>[]
 | some t=>t.cs
def scs:Option SC->List Addr
 | none=>[]
 | some s=>s.cs
theorem TlO.grow(h:TlO C H t)(k:∀c∈t.cs,∀u,H c=some u->H' c=some u):TlO C H' t:=by
 obtain⟨⟨dx,h1⟩,h2,h3⟩:=h
 exact⟨⟨dx,k _ (by simp [TC.cs]) _ h1⟩,k _ (by simp [TC.cs]) _ h2,k _ (by simp [TC.cs]) _ h3⟩
theorem StO.grow(h:StO C H t)(k:∀c∈t.cs,∀u,H c=some u->H' c=some u):StO C H' t:=by
 obtain⟨⟨dx,h1⟩,h2,h3⟩:=h
 exact⟨⟨dx,k _ (by simp [SC.cs]) _ h1⟩,k _ (by simp [SC.cs]) _ h2,k _ (by simp [SC.cs]) _ h3⟩
theorem DtO.grow{H H':Hp}:∀{t:Option TC},DtO C H dt t->(∀c∈dt::tcs t,∀u,H c=some u->H' c=some u)->DtO C H' dt t
 | none,h,k=>k _ MU _ h
 | some _,h,k=>⟨k _ MU _ h.1,h.2.grow λc hc=>k c (MV _ hc)⟩
theorem DsO.grow{H H':Hp}:∀{t:Option SC},DsO C H dt t->(∀c∈dt::scs t,∀u,H c=some u->H' c=some u)->DsO C H' dt t
 | none,h,k=>k _ MU _ h
 | some _,h,k=>⟨k _ MU _ h.1,h.2.grow λc hc=>k c (MV _ hc)⟩
section
variable{P:OR}{w:OV}{K:N5}{mg:Str->Option OL}{base:Heap}
def u6(C:Addr):Sp:=spG (A:=Addr×Addr×Int) (λx=>[.ref x.1,.int x.2.2]) (λx H=>H x.1=some (.ins C x.2.1 [])) (λx H v H'=>v= .non/\∃d q,H d=none/\H q=none/\(∀c u,c≠x.1->H c=some u->H' c=some u)/\TlO C H' ⟨x.1,d,q,x.2.2⟩)
theorem Da(D:MakeAt K mg "Tool" C "Tool.__init__" iM ["self","count"])(Kj:Cls K C)(KC:NoAttr K C "free")(Kh:NoAttr K C "held")(Kr:NoAttr K C "queue"):OkC P w K mg base 1 "Tool" C ["self","count"] (u6 C):=by
 refine MakeAt.okG D mL (λ_=>rfl) λa f cdv A outer s0 H Q E hr p q=>?_
 obtain⟨a,dx,n⟩:=a
 dsimp only at p q⊢
 refine⟨_,(aa (aD Kj KC (pv 0) (pv 1)) (aa (aD Kj Kh (pv 0) rH) (ac (aD Kj Kr (pv 0) (aq aL))))),?_⟩
 symm
 intro H1 m1
 symm
 intro d H2 hd g2 h2
 have a2:=g2 _ _ m1.at_
 symm
 intro H3 m3
 symm
 intro q0 H4 hq g4 h4
 have a4:=g4 _ _ m3.at_
 clear a2
 symm
 intro H5 m5
 have nd:=(av m1.at_ hd).symm
 have nq:=(av m3.at_ hq).symm
 have hq2:H2 q0=none:=by rw [<-m3.else_ q0 nq];exact hq
 exact q _ _ ⟨rfl,d,q0,by rw [<-m1.else_ d nd];exact hd,by rw [<-m1.else_ q0 nq];exact g2.free hq2,λc u nc hc=>m5.old (g4 _ _ (m3.old (g2 _ _ (m1.old hc nc)) nc)) nc,⟨dx,m5.at_⟩,m5.old (g4 _ _ (m3.old h2 nd)) nd,m5.old h4 nq⟩
def sH(C:Addr):Sp:=spG (A:=Addr×Addr×Int×Int) (λx=>[.ref x.1,.int x.2.2.1,.int x.2.2.2]) (λx H=>H x.1=some (.ins C x.2.1 [])) (λx H v H'=>v= .non/\∃d q,H d=none/\H q=none/\(∀c u,c≠x.1->H c=some u->H' c=some u)/\StO C H' ⟨x.1,d,q,x.2.2.1,x.2.2.2⟩)
theorem Az(D:MakeAt K mg "Store" C "Store.__init__" hJ ["self","level","most"])(JV:Cls K C)(JX:NoAttr K C "level")(Ks:NoAttr K C "most")(J1:NoAttr K C "getters")(J2:NoAttr K C "putters"):OkC P w K mg base 1 "Store" C ["self","level","most"] (sH C):=by
 refine MakeAt.okG D lJ (λ_=>rfl) λa f cdv A outer s0 H Q E hr p q=>?_
 obtain⟨a,dx,l,m⟩:=a
 dsimp only at p q⊢
 refine⟨_,(aa (aD JV JX (pv 0) (pv 1)) (aa (aD JV Ks (pv 0) (pv 2)) (aa (aD JV J1 (pv 0) (aq aL)) (ac (aD JV J2 (pv 0) (aq aL)))))),?_⟩
 symm
 intro H1 m1
 have a1:=m1.at_
 symm
 intro H2 m2
 symm
 intro d H3 hd g3 h3
 have a3:=g3 _ _ m2.at_
 clear a1
 symm
 intro H4 m4
 symm
 intro q0 H5 hq g5 h5
 have a5:=g5 _ _ m4.at_
 clear a3
 symm
 intro H6 m6
 have nd:=(av m2.at_ hd).symm
 have nq:=(av m4.at_ hq).symm
 have hq3:H3 q0=none:=by rw [<-m4.else_ q0 nq];exact hq
 exact q _ _ ⟨rfl,d,q0,by rw [<-m1.else_ d nd,<-m2.else_ d nd];exact hd,by rw [<-m1.else_ q0 nq,<-m2.else_ q0 nq];exact g3.free hq3,λc u nc hc=>m6.old (g5 _ _ (m4.old (g3 _ _ (m2.old (m1.old hc nc) nc)) nc)) nc,⟨dx,m6.at_⟩,m6.old (g5 _ _ (m4.old h3 nd)) nd,m6.old h5 nq⟩
def PtO(H:Hp)(p0:Addr):Option (Addr×Int)->Prop
 | none=>H p0=some (.lst [])
 | some (x,n)=>H p0=some (.lst [.ref x])/\H x=some (.tup [.str "jig",.int n])
def PsO(H:Hp)(p1:Addr):Option (Addr×Int×Int)->Prop
 | none=>H p1=some (.lst [])
 | some (x,l,m)=>H p1=some (.lst [.ref x])/\H x=some (.tup [.str "bin",.int l,.int m])
theorem PtO.same(k:Same H H'):∀{o:Option (Addr×Int)},PtO H p0 o->PtO H' p0 o
 | none,h=>k _ _ h
 | some _,h=>⟨k _ _ h.1,k _ _ h.2⟩
theorem PsO.same(k:Same H H'):∀{o:Option (Addr×Int×Int)},PsO H p0 o->PsO H' p0 o
 | none,h=>k _ _ h
 | some _,h=>⟨k _ _ h.1,k _ _ h.2⟩
def qo(C:Addr):Sp:=spG (A:=Addr×Addr×V×V×V×Option (Addr×Int)) (λx=>[.ref x.1]) (λx H=>H x.1=some (.tup [.ref x.2.1,x.2.2.1,x.2.2.2.1,x.2.2.2.2.1])/\PtO H x.2.1 x.2.2.2.2.2) (λx H v H'=>∃dt t,v= .ref dt/\Same H H'/\DtO C H' dt t/\t.map (·.n)=x.2.2.2.2.2.map (·.2)/\∀c∈dt::tcs t,H c=none)
theorem wN(D:DefAt K mg "tools_of" oq ["program"])(L3:OkC P w K mg base 1 "Tool" C ["self","count"] (u6 C))(Kq:mg "dict" =none):OkD P w K mg base 3 "tools_of" ["program"] (qo C):=by
 refine D.okG ui (λ_=>rfl) λa f cdv A outer s0 H Q E hr p q=>?_
 obtain⟨pp,p0,x1,x2,x3,o⟩:=a
 dsimp only at p q⊢
 obtain⟨h1,h2⟩:=p
 refine⟨_,(ac (az (bK cL Kq (aB (cE 2 ["name","count"] [] (bM (ar (pv 0) ab)) (λn _ _ _ _=>(bF 2 rfl (aE (cO 0 n) (aE (cO 1 n) bq)))) (λ_ _ _ _=>bv) (λ_ _ _ _=>(ad (aA (pv 0) (fJ L3 hr rfl (aB (pv 1))))))))))),?_⟩
 symm
 apply bA
 simp only [cF]
 symm
 cases o with
 | none=>
  refine⟨⟨_,SqL.of h2⟩,gX over_list (λH g=>g _ _ h2) λD H1 n1 g1 e1=>?_⟩
  symm
  refine⟨[],.nil,by decide,λl H2 hl g2 e2=>?_⟩
  exact q _ _ ⟨l,none,rfl,ah g1 g2,e2,rfl,λc hc=>by rw [List.mem_singleton.mp hc];exact g1.free hl⟩
 | some o=>
  obtain⟨x,n⟩:=o
  obtain⟨h2,h3⟩:=h2
  refine⟨⟨_,SqL.of h2⟩,nY over_list (λH g=>g _ _ h2) λD H1 at1=>?_⟩
  have h3':=at1.same _ _ h3
  symm
  intro a dx H2 ha hdx g2 ea edx
  refine⟨(a,dx,n),rfl,ea,λv H3 po=>?_⟩
  obtain⟨rfl,d0,q0,hd,hq,k3,tl⟩:=po
  dsimp only at hd hq k3 tl
  symm
  intro p4 H4 hp g4 e4
  have S13:Same H1 H3:=λc u hc=>k3 c u (av hc ha) (g2 _ _ hc)
  refine at1.put (ah S13 g4) λH5 mu=>?_
  have S:=ah S13 g4
  have nD:∀{c:Addr},H1 c=none->c≠D:=λhc=>(av at1.lst hc).symm
  have hd1:=g2.free hd
  have hq1:=g2.free hq
  have e5:=mu.old e4 (nD (S13.free hp))
  have eD:=mu.at_
  have tl5:=tl.grow λc hc u e=>mu.old (g4 _ _ e) (by
   simp only [TC.cs,Na,MT,or_false] at hc
   rcases hc with rfl | rfl | rfl
   ·exact nD ha
   ·exact nD hd1
   ·exact nD hq1)
  have S5:=mu.same (ah at1.same S) at1.new
  have f:∀{c:Addr},H1 c=none->H c=none:=λhc=>at1.same.free hc
  clear h1 h2 h3 h3' at1
  unfold P1
  symm
  refine⟨[(Sum.inr "jig",.ref a)],.cons e5 .nil,MP rfl,λl H6 hl g6 e6=>?_⟩
  refine q _ _ ⟨l,some ⟨a,d0,q0,n⟩,rfl,ah S5 g6,⟨e6,tl5.grow λc _ u e=>g6 _ _ e⟩,rfl,λc hc=>?_⟩
  simp only [tcs,TC.cs,Na,MT,or_false] at hc
  rcases hc with rfl | rfl | rfl | rfl
  ·exact S5.free hl
  ·exact f ha
  ·exact f hd1
  ·exact f hq1
def oE(C:Addr):Sp:=spG (A:=Addr×Addr×V×V×V×Option (Addr×Int×Int)) (λx=>[.ref x.1]) (λx H=>H x.1=some (.tup [x.2.2.1,.ref x.2.1,x.2.2.2.1,x.2.2.2.2.1])/\PsO H x.2.1 x.2.2.2.2.2) (λx H v H'=>∃dt t,v= .ref dt/\Same H H'/\DsO C H' dt t/\t.map (λs=>(s.l,s.m))=x.2.2.2.2.2.map (·.2)/\∀c∈dt::scs t,H c=none)
theorem uo(D:DefAt K mg "stores_of" lQ ["program"])(LQ:OkC P w K mg base 1 "Store" C ["self","level","most"] (sH C))(Kq:mg "dict" =none):OkD P w K mg base 3 "stores_of" ["program"] (oE C):=by
 refine D.okG sy (λ_=>rfl) λa f cdv A outer s0 H Q E hr p q=>?_
 obtain⟨pp,p0,x1,x2,x3,o⟩:=a
 dsimp only at p q⊢
 obtain⟨h1,h2⟩:=p
 refine⟨_,(ac (az (bK cL Kq (aB (cE 3 ["name","level","most"] [] (bM (ar (pv 0) ab)) (λn _ _ _ _=>(bF 3 rfl (aE (cO 0 n) (aE (cO 1 n) (aE (cO 2 n) bq))))) (λ_ _ _ _=>bv) (λ_ _ _ _=>(ad (aA (pv 0) (fJ LQ hr rfl (aA (pv 1) (pv 2))))))))))),?_⟩
 symm
 apply bA
 simp only [cF]
 symm
 cases o with
 | none=>
  refine⟨⟨_,SqL.of h2⟩,gX over_list (λH g=>g _ _ h2) λD H1 n1 g1 e1=>?_⟩
  symm
  refine⟨[],.nil,by decide,λl H2 hl g2 e2=>?_⟩
  exact q _ _ ⟨l,none,rfl,ah g1 g2,e2,rfl,λc hc=>by rw [List.mem_singleton.mp hc];exact g1.free hl⟩
 | some o=>
  obtain⟨x,n,m⟩:=o
  obtain⟨h2,h3⟩:=h2
  refine⟨⟨_,SqL.of h2⟩,nY over_list (λH g=>g _ _ h2) λD H1 at1=>?_⟩
  have h3':=at1.same _ _ h3
  symm
  intro a dx H2 ha hdx g2 ea edx
  refine⟨(a,dx,n,m),rfl,ea,λv H3 po=>?_⟩
  obtain⟨rfl,d0,q0,hd,hq,k3,tl⟩:=po
  dsimp only at hd hq k3 tl
  symm
  intro p4 H4 hp g4 e4
  have S13:Same H1 H3:=λc u hc=>k3 c u (av hc ha) (g2 _ _ hc)
  refine at1.put (ah S13 g4) λH5 mu=>?_
  have S:=ah S13 g4
  have nD:∀{c:Addr},H1 c=none->c≠D:=λhc=>(av at1.lst hc).symm
  have hd1:=g2.free hd
  have hq1:=g2.free hq
  have e5:=mu.old e4 (nD (S13.free hp))
  have eD:=mu.at_
  have tl5:=tl.grow λc hc u e=>mu.old (g4 _ _ e) (by
   simp only [SC.cs,Na,MT,or_false] at hc
   rcases hc with rfl | rfl | rfl
   ·exact nD ha
   ·exact nD hd1
   ·exact nD hq1)
  have S5:=mu.same (ah at1.same S) at1.new
  have f:∀{c:Addr},H1 c=none->H c=none:=λhc=>at1.same.free hc
  clear h1 h2 h3 h3' at1
  unfold P1
  symm
  refine⟨[(Sum.inr "bin",.ref a)],.cons e5 .nil,MP rfl,λl H6 hl g6 e6=>?_⟩
  refine q _ _ ⟨l,some ⟨a,d0,q0,n,m⟩,rfl,ah S5 g6,⟨e6,tl5.grow λc _ u e=>g6 _ _ e⟩,rfl,λc hc=>?_⟩
  simp only [scs,SC.cs,Na,MT,or_false] at hc
  rcases hc with rfl | rfl | rfl | rfl
  ·exact S5.free hl
  ·exact f ha
  ·exact f hd1
  ·exact f hq1
structure GC where
 g:Addr
 dt:Addr
 ds:Addr
 t:Option TC
 s:Option SC
def GC.cs(c:GC):List Addr:=c.g::(c.dt::tcs c.t)++(c.ds::scs c.s)
def GC.sS(c:GC)(s:Option SC):GC:={c with s:=s}
structure GoZ(C:CA)(H:Hp)(c:GC):Prop where
 g:∃dx,H c.g=some (.ins C.g dx [("by_tool",.ref c.dt),("by_store",.ref c.ds)])
 t:DtO C.t H c.dt c.t
 s:DsO C.s H c.ds c.s
theorem GoZ.grow(h:GoZ C H c)(k:∀a∈c.cs,∀u,H a=some u->H' a=some u):GoZ C H' c:=by
 obtain⟨⟨dx,h1⟩,h2,h3⟩:=h
 exact⟨⟨dx,k _ (by simp [GC.cs]) _ h1⟩,h2.grow λa ha=>k a (by unfold GC.cs;exact NA _ (MV _ ha)),h3.grow λa ha=>k a (by unfold GC.cs;exact M9 _ ha)⟩
def sI(C:CA):Sp:=spG (A:=Addr×Addr×Addr×Addr×Addr×V×V×Option (Addr×Int)×Option (Addr×Int×Int)) (λx=>[.ref x.1,.ref x.2.2.1]) (λx H=>H x.1=some (.ins C.g x.2.1 [])/\H x.2.2.1=some (.tup [.ref x.2.2.2.1,.ref x.2.2.2.2.1,x.2.2.2.2.2.1,x.2.2.2.2.2.2.1])/\PtO H x.2.2.2.1 x.2.2.2.2.2.2.2.1/\PsO H x.2.2.2.2.1 x.2.2.2.2.2.2.2.2) (λx H v H'=>v= .non/\∃c:GC,c.g=x.1/\(∀a u,a≠x.1->H a=some u->H' a=some u)/\GoZ C H' c/\c.t.map (·.n)=x.2.2.2.2.2.2.2.1.map (·.2)/\c.s.map (λs=>(s.l,s.m))=x.2.2.2.2.2.2.2.2.map (·.2)/\∀a∈c.cs,a≠x.1->H a=none)
theorem PsO.fr(ha:H a=some (.ins C dx fs))(k:∀c u,c≠a->H c=some u->H' c=some u):∀{o:Option (Addr×Int×Int)},PsO H p0 o->PsO H' p0 o
 | none,h=>k _ _ (λz=>by have h:H p0=_:=h;rw [z,ha] at h;cases h) h
 | some _,h=>⟨k _ _ (λz=>by have:=h.1;rw [z,ha] at this;cases this) h.1,k _ _ (λz=>by have:=h.2;rw [z,ha] at this;cases this) h.2⟩
theorem AA(D:MakeAt K mg "Goods" C.g "Goods.__init__" hU ["self","program"])(J0:Cls K C.g)(J6:NoAttr K C.g "by_tool")(J7:NoAttr K C.g "by_store")(LG:OkD P w K mg base 3 "tools_of" ["program"] (qo C.t))(Lw:OkD P w K mg base 3 "stores_of" ["program"] (oE C.s)):OkC P w K mg base 4 "Goods" C.g ["self","program"] (sI C):=by
 refine MakeAt.okG D lK (λ_=>rfl) λa f cdv A outer s0 H Q E hr p q=>?_
 obtain⟨g,dx,pp,p0,p1,x2,x3,o,o'⟩:=a
 dsimp only at p q⊢
 obtain⟨hg,h1,h2,h3⟩:=p
 refine⟨_,(aa (aD J0 J6 (pv 0) (aH LG hr rfl (aB (pv 1)))) (ac (aD J0 J7 (pv 0) (aH Lw hr rfl (aB (pv 1)))))),?_⟩
 symm
 refine⟨(pp,p0,_,_,_,o),rfl,⟨h1,h2⟩,λv H1 po=>?_⟩
 obtain⟨dt,t,rfl,g1,d1,m1,f1⟩:=po
 dsimp only at g1 d1 m1 f1
 have hg1:=g1 _ _ hg
 have npp:pp≠g:=λz=>by rw [z,hg] at h1;cases h1
 have h1':=g1 _ _ h1
 have h3':=h3.same g1
 have hgs:=PLift.up hg
 clear hg h1
 symm
 intro H2 mu2
 have hg2:=mu2.at_
 have h12:=mu2.old h1' npp
 have k12:∀c u,c≠g->H1 c=some u->H2 c=some u:=λc u n h=>mu2.old h n
 have h32:=h3'.fr hg1 k12
 clear h1'
 symm
 refine⟨(pp,p1,_,_,_,o'),rfl,⟨h12,h32⟩,λv H3 po=>?_⟩
 obtain⟨ds,t',rfl,g3,d3,m3,f3⟩:=po
 dsimp only at g3 d3 m3 f3
 have hg3:=g3 _ _ hg2
 have hgk:=PLift.up hg2
 clear hg1 hg2
 symm
 intro H4 mu4
 have k4:=λc u n h=>mu4.old (g3 _ _ (k12 c u n h)) n
 have ne1:=λc hc=>(av hgs.down (f1 c hc)).symm
 have ne3:=λc hc=>(av hgk.down (f3 c hc)).symm
 refine q _ _ ⟨rfl,⟨g,dt,ds,t,t'⟩,rfl,λa u n h=>k4 a u n (g1 _ _ h),⟨⟨_,mu4.at_⟩,d1.grow λc hc u e=>k4 c u (ne1 c hc) e,d3.grow λc hc u e=>mu4.old e (ne3 c hc)⟩,m1,m3,λa ha n=>?_⟩
 unfold GC.cs at ha
 rcases List.mem_append.mp ha with ha | ha
 ·rcases List.mem_cons.mp ha with rfl | ha
  ·exact absurd rfl n
  ·exact f1 a ha
 ·apply g1.free
  rw [<-mu2.else_ a n]
  exact f3 a ha
def FrG(cs:List Addr)(H H':Hp):Prop:=∀c u,c∉cs->H c=some u->H' c=some u
def tlD(n:Int):OQ:=.tuple [.int n,.list [],.list []]
theorem sJ(hd:H d=some (.dK kv))(g1:Same (upd H d (.frz o (.dK kv))) H1):Same H (upd H1 d (.dK kv)):=λc u hc=>by
 by_cases z:c=d
 ·rw [z,aC];rw [z,hd] at hc;exact hc
 ·rw [aI z]
  exact g1 _ _ (by rw [aI z];exact hc)
def yD(C:Addr)(K:N5):Sp:=spG (A:=TC) (λt=>[.ref t.a]) (λt H=>TlO C H t) (λt H v H'=>Same H H'/\Rp K (nw H H') v (tlD t.n))
theorem Db(D:DefAt K mg "told_tool" lR ["tool"])(Kj:Cls K C)(KC:NoAttr K C "free")(Kh:NoAttr K C "held")(Kr:NoAttr K C "queue")(KQ:mg "sorted" =none)(J9:mg "list" =none):OkD P w K mg base 1 "told_tool" ["tool"] (yD C K):=by
 refine D.okG sA (λ_=>rfl) λt f cdv A outer s0 H Q E hr p q=>?_
 obtain⟨a,d,q0,n⟩:=t
 obtain⟨⟨dx,k1⟩,k2,k3⟩:=p
 dsimp only at k1 k2 k3 q⊢
 refine⟨_,(ac (az (ad (bc (aj Kj KC (pv 0)) (fM (kB rfl) KQ (aB (rP (cE 2 ["hand","n"] [] (Aj (aj Kj Kh (pv 0))) (λn _ _ _ _=>(bF 2 rfl (aE (cO 0 n) (aE (cO 1 n) bq)))) (λ_ _ _ _=>(CJ (aM gH (pv 1) ab))) (λ_ _ _ _=>(ad (aA (pv 0) (pv 1)))))))) (bK cb J9 (aB (aj Kj Kr (pv 0)))))))),?_⟩
 symm
 apply bA
 simp only [xZ]
 symm
 intro o nf
 refine ub aC (by unfold ON;decide) (λ_ _ ys _ _=>ys= []) (λD H' _ _ _=>rfl) (λD i k x ys σ1 H1 p H2 hx=>by cases hx) ?_
 rintro D ys σ1 H1 hD g1 hy hle rfl
 have nDd:D≠d:=λz=>by rw [z,aC] at hD;cases hD
 have SH:=sJ k2 g1
 have d1:=g1 _ _ aC
 refine⟨d,nf,o,_,d1,?_⟩
 have k1':=SH _ _ k1
 have k3':=SH _ _ k3
 have hD':upd H1 d (.dK []) D=some (.lst []):=by rw [aI nDd];exact hy
 clear k1 k3
 generalize upd H1 d (.dK [])=H2 at *
 symm
 refine⟨[],rfl,1,λ_ h=>absurd h MT,by decide,λ_ h=>absurd h MT,.nil,by unfold SN;decide,λD2 H3 qs n3 g3 e3 pm _=>?_⟩
 rw [pm.eq_nil] at e3
 have k1'':=g3 _ _ k1'
 have k3'':=g3 _ _ k3'
 clear k1' k3'
 symm
 intro l4 H4 n4 g4 e4
 symm
 intro r H5 n5 g5 e5
 exact q _ _ ⟨ah SH (ah g3 (ah g4 g5)),.tup (cq (SH.free (g3.free (g4.free n5))) e5) (.cons (.int _) (.cons (.lst (cq (SH.free n3) (g5 _ _ (g4 _ _ e3))) .nil) (.cons (.lst (cq (SH.free (g3.free n4)) (g5 _ _ e4)) .nil) .nil)))⟩
def u7(C:Addr)(K:N5):Sp:=spG (A:=SC) (λt=>[.ref t.a]) (λt H=>StO C H t) (λt H v H'=>Same H H'/\Rp K (nw H H') v (tlD t.l))
theorem AB(D:DefAt K mg "told_store" kI ["store"])(JV:Cls K C)(JX:NoAttr K C "level")(J1:NoAttr K C "getters")(J2:NoAttr K C "putters")(J9:mg "list" =none):OkD P w K mg base 1 "told_store" ["store"] (u7 C K):=by
 refine D.okG qF (λ_=>rfl) λt f cdv A outer s0 H Q E hr p q=>?_
 obtain⟨a,g,p0,l,m⟩:=t
 obtain⟨⟨dx,k1⟩,k2,k3⟩:=p
 dsimp only at k1 k2 k3 q⊢
 refine⟨_,(ac (az (ad (bc (aj JV JX (pv 0)) (bK cb J9 (aB (aj JV J1 (pv 0)))) (bK cb J9 (aB (aj JV J2 (pv 0)))))))),?_⟩
 symm
 intro l1 H1 n1 g1 e1
 have k1':=g1 _ _ k1
 have k3':=g1 _ _ k3
 clear k1 k3
 symm
 intro l2 H2 n2 g2 e2
 symm
 intro r H3 n3 g3 e3
 exact q _ _ ⟨ah g1 (ah g2 g3),.tup (cq (g1.free (g2.free n3)) e3) (.cons (.int _) (.cons (.lst (cq n1 (g3 _ _ (g2 _ _ e1))) .nil) (.cons (.lst (cq (g1.free n2) (g3 _ _ e2)) .nil) .nil)))⟩
def u8(C:CA)(K:N5):Sp:=spG (A:=GC) (λc=>[.ref c.g]) (λc H=>GoZ C H c) (λc H v H'=>Same H H'/\Rp K (nw H H') v (.list (c.t.toList.map λt=>tlD t.n)))
def sK(C:CA)(K:N5):Sp:=spG (A:=GC) (λc=>[.ref c.g]) (λc H=>GoZ C H c) (λc H v H'=>Same H H'/\Rp K (nw H H') v (.list (c.s.toList.map λt=>tlD t.l)))
theorem AC(D:MethAt K C.g "tools" "Goods.tools" jV ["self"])(J0:Cls K C.g)(J6:NoAttr K C.g "by_tool")(Lx:OkD P w K mg base 1 "told_tool" ["tool"] (yD C.t K)):OkM P w K mg base 2 C.g "tools" ["self"] (u8 C K):=by
 refine D.okG J0 pB (λ_=>rfl) λc f cdv A outer s0 H Q E hr p q=>?_
 obtain⟨g,dt,ds,t,s⟩:=c
 obtain⟨⟨dx,h1⟩,h2,_⟩:=p
 dsimp only at h1 h2 q⊢
 refine⟨_,(ac (az (rP (cE 1 ["tool"] [] (uN (aj J0 J6 (pv 0))) (λn _ _ _ _=>(cO 0 n)) (λ_ _ _ _=>bv) (λ_ _ _ _=>(aH Lx hr rfl (aB (pv 0)))))))),?_⟩
 symm
 apply bA
 simp only [wv]
 symm
 cases t with
 | none=>
  have h2:=h2
  refine⟨[],h2,λo nf=>?_⟩
  refine gX (iI (kvs:=[])) (λH g=>g _ _ aC) λD H1 n1 g1 e1=>?_
  have nDd:D≠dt:=λz=>by rw [z,aC] at n1;cases n1
  refine⟨dt,nf,o,_,g1 _ _ aC,?_⟩
  symm
  have S:=sJ h2 g1
  exact q _ _ ⟨S,.lst (cq (by rw [aI nDd] at n1;exact n1) (by rw [aI nDd];exact e1)) .nil⟩
 | some t=>
  obtain⟨h2,tl⟩:=h2
  refine⟨_,h2,λo nf=>?_⟩
  refine nY (iI (kvs:=[(Sum.inr "jig",.ref t.a)])) (λH g=>g _ _ aC) λD H1 at1=>?_
  have nd:∀c∈t.cs,c≠dt:=λc hc z=>by
   obtain⟨⟨dx,k1⟩,k2,k3⟩:=tl
   simp only [TC.cs,Na,MT,or_false] at hc
   rw [z] at hc
   rcases hc with e | e | e
   ·rw [<-e,h2] at k1;cases k1
   ·rw [<-e,h2] at k2;cases k2
   ·rw [<-e,h2] at k3;cases k3
  symm
  refine⟨t,rfl,tl.grow λc hc u e=>at1.same _ _ (by rw [aI (nd c hc)];exact e),λv H2 po=>?_⟩
  obtain⟨g2,r2⟩:=po
  refine at1.put g2 λH3 mu=>?_
  unfold P1
  have nDd:D≠dt:=λz=>by have:=at1.new;rw [z,aC] at this;cases this
  have S3:=mu.same (ah at1.same g2) at1.new
  have S:=sJ h2 S3
  have d3:=S3 _ _ aC
  refine⟨dt,nf,o,_,d3,?_⟩
  have nH:H D=none:=by have:=at1.new;rw [aI nDd] at this;exact this
  have k:Same (nw H1 H2) (nw H (upd H3 dt (.dK [(Sum.inr "jig",.ref t.a)]))):=λc u e=>by
   obtain⟨e1,e2⟩:=eX e
   have nc:=(av at1.lst e1).symm
   have nt:=(av (at1.same _ _ aC) e1).symm
   refine cq ?_ (by rw [aI nt];exact mu.old e2 nc)
   have:=at1.same.free e1
   rw [aI nt] at this;exact this
  symm
  exact q _ _ ⟨S,.lst (cq nH (by rw [aI nDd];exact mu.at_)) (.cons (Rp.mono k r2) .nil)⟩
theorem yE(D:MethAt K C.g "stores" "Goods.stores" jm ["self"])(J0:Cls K C.g)(J7:NoAttr K C.g "by_store")(Lr:OkD P w K mg base 1 "told_store" ["store"] (u7 C.s K)):OkM P w K mg base 2 C.g "stores" ["self"] (sK C K):=by
 refine D.okG J0 om (λ_=>rfl) λc f cdv A outer s0 H Q E hr p q=>?_
 obtain⟨g,ds,dt,s,t⟩:=c
 obtain⟨⟨dx,h1⟩,_,h2⟩:=p
 dsimp only at h1 h2 q⊢
 refine⟨_,(ac (az (rP (cE 1 ["store"] [] (uN (aj J0 J7 (pv 0))) (λn _ _ _ _=>(cO 0 n)) (λ_ _ _ _=>bv) (λ_ _ _ _=>(aH Lr hr rfl (aB (pv 0)))))))),?_⟩
 symm
 apply bA
 simp only [wv]
 symm
 cases t with
 | none=>
  have h2:=h2
  refine⟨[],h2,λo nf=>?_⟩
  refine gX (iI (kvs:=[])) (λH g=>g _ _ aC) λD H1 n1 g1 e1=>?_
  have nDd:D≠dt:=λz=>by rw [z,aC] at n1;cases n1
  refine⟨dt,nf,o,_,g1 _ _ aC,?_⟩
  symm
  have S:=sJ h2 g1
  exact q _ _ ⟨S,.lst (cq (by rw [aI nDd] at n1;exact n1) (by rw [aI nDd];exact e1)) .nil⟩
 | some t=>
  obtain⟨h2,tl⟩:=h2
  refine⟨_,h2,λo nf=>?_⟩
  refine nY (iI (kvs:=[(Sum.inr "bin",.ref t.a)])) (λH g=>g _ _ aC) λD H1 at1=>?_
  have nd:∀c∈t.cs,c≠dt:=λc hc z=>by
   obtain⟨⟨dx,k1⟩,k2,k3⟩:=tl
   simp only [SC.cs,Na,MT,or_false] at hc
   rw [z] at hc
   rcases hc with e | e | e
   ·rw [<-e,h2] at k1;cases k1
   ·rw [<-e,h2] at k2;cases k2
   ·rw [<-e,h2] at k3;cases k3
  symm
  refine⟨t,rfl,tl.grow λc hc u e=>at1.same _ _ (by rw [aI (nd c hc)];exact e),λv H2 po=>?_⟩
  obtain⟨g2,r2⟩:=po
  refine at1.put g2 λH3 mu=>?_
  unfold P1
  have nDd:D≠dt:=λz=>by have:=at1.new;rw [z,aC] at this;cases this
  have S3:=mu.same (ah at1.same g2) at1.new
  have S:=sJ h2 S3
  have d3:=S3 _ _ aC
  refine⟨dt,nf,o,_,d3,?_⟩
  have nH:H D=none:=by have:=at1.new;rw [aI nDd] at this;exact this
  have k:Same (nw H1 H2) (nw H (upd H3 dt (.dK [(Sum.inr "bin",.ref t.a)]))):=λc u e=>by
   obtain⟨e1,e2⟩:=eX e
   have nc:=(av at1.lst e1).symm
   have nt:=(av (at1.same _ _ aC) e1).symm
   refine cq ?_ (by rw [aI nt];exact mu.old e2 nc)
   have:=at1.same.free e1
   rw [aI nt] at this;exact this
  symm
  exact q _ _ ⟨S,.lst (cq nH (by rw [aI nDd];exact mu.at_)) (.cons (Rp.mono k r2) .nil)⟩
theorem u9(h:H p=some (.lst xs)):vU K (.ref p) H (!xs.isEmpty):=.inl ⟨_,SqL.of h,rfl⟩
def vc(C:Addr):Sp:=spG (A:=SC) (λt=>[.ref t.a]) (λt H=>StO C H t) (λt H v H'=>∃r,v= .ref r/\H r=none/\Same H H'/\H' r=some (.lst []))
theorem AD(D:DefAt K mg "serve_by_turns" hW ["store"])(JV:Cls K C)(JX:NoAttr K C "level")(Ks:NoAttr K C "most")(J1:NoAttr K C "getters")(J2:NoAttr K C "putters"):OkD P w K mg base 1 "serve_by_turns" ["store"] (vc C):=by
 refine D.okG gA (λ_=>rfl) λt f cdv A outer s0 H Q E hr p q=>?_
 obtain⟨a,g,p0,l,m⟩:=t
 obtain⟨⟨dx,k1⟩,k2,k3⟩:=p
 dsimp only at k1 k2 k3 q⊢
 refine⟨_,(aa (aP 1 gA (aq aL)) (ac (cZ O1.never (bX ci) (ac (aJ (PW.pt (dG (dH (aj JV J1 (pv 0)) (λ_=>rfl)) (cR (aM vS (ar (ar (aj JV J1 (pv 0)) ab) ab) (aj JV JX (pv 0)))))) bS (ac (aJ (PW.pt (dG (dH (aj JV J2 (pv 0)) (λ_=>rfl)) (cR (aM vS (aw aY (aj JV JX (pv 0)) (ar (ar (aj JV J2 (pv 0)) ab) ab)) (aj JV Ks (pv 0)))))) bS (ac (az (pv 1)))))))))),?_⟩
 symm
 intro r H1 n1 g1 e1
 have k1':=g1 _ _ k1
 have k2':=g1 _ _ k2
 have k3':=g1 _ _ k3
 clear k1 k2 k3
 refine⟨λ_ σ H'=>σ= [some (.ref a),some (.ref r),none,none]/\H'=H1,⟨0,rfl,rfl⟩,?_⟩
 rintro m σ H' ⟨rfl,rfl⟩
 symm
 refine⟨λ_ _=>False,λ_ _ h=>h.elim,?_⟩
 symm
 refine⟨false,u9 k2',?_⟩
 symm
 refine⟨false,u9 k3',?_⟩
 have q:=q _ _ ⟨r,rfl,n1,g1,e1⟩
 symm
noncomputable def brg(s:SC)(n:Int):Int:=if (if s.m-s.l<n then s.m-s.l else n)>0 then (if s.m-s.l<n then s.m-s.l else n) else 0
def SC.up(s:SC)(n:Int):SC:={s with l:=s.l+brg s n}
def vd(C:CA):Sp:=spG (A:=GC×SC×Int) (λx=>[.ref x.1.g,.str "bin",.int x.2.2]) (λx H=>GoZ C H x.1/\x.1.s=some x.2.1) (λx H v H'=>∃p r,v= .ref p/\H' p=some (.tup [.int (brg x.2.1 x.2.2),.ref r])/\H r=none/\H' r=some (.lst [])/\FrG [x.2.1.a] H H'/\GoZ C H' (x.1.sS (some (x.2.1.up x.2.2))))
theorem AE(D:MethAt K C.g "bring" "Goods.bring" jT ["self","name","n"])(J0:Cls K C.g)(J7:NoAttr K C.g "by_store")(JV:Cls K C.s)(JX:NoAttr K C.s "level")(Ks:NoAttr K C.s "most")(K6:OkD P w K mg base 1 "serve_by_turns" ["store"] (vc C.s))(LO:mg "min" =none)(LP:mg "max" =none):OkM P w K mg base 2 C.g "bring" ["self","name","n"] (vd C):=by
 refine D.okG J0 fN (λ_=>rfl) λx f cdv A outer s0 H Q E hr p q=>?_
 obtain⟨⟨g,dt,ds,t,s⟩,c,n⟩:=x
 obtain⟨G,e⟩:=p
 dsimp only at e q⊢
 subst e
 obtain⟨⟨dx,h1⟩,ht,h2,st⟩:=id G
 dsimp only at h1 h2
 obtain⟨⟨dx',k1⟩,k2,k3⟩:=id st
 have hu:=cn hr
 have vb:bL [((Sum.inr "bin":Key),V.ref c.a)] (Sum.inr "bin")=some (.ref c.a):=gS rfl
 refine⟨_,(aa (aP 3 fN (dJ hu (aj J0 J7 (pv 0)) (pv 1) (λ_ _=>rfl))) (aa (aP 4 fN (fM (pT rfl) LP (aA ab (fM (ke rfl) LO (aA (pv 2) (aw cC (aj JV Ks (pv 3)) (aj JV JX (pv 3)))))))) (aa (aD JV JX (pv 3) (aw aY (aj JV JX (pv 3)) (pv 4))) (ac (az (ad (aA (pv 4) (aH K6 hr rfl (aB (pv 3)))))))))),?_⟩
 symm
 intro H1 m1
 have ng:c.g≠c.a:=λz=>by rw [z,k1] at k2;cases k2
 have np:c.p≠c.a:=λz=>by rw [z,k1] at k3;cases k3
 have t1:StO C.s H1 (c.up n):=⟨⟨dx',m1.at_⟩,m1.old k2 ng,m1.old k3 np⟩
 have f1:FrG [c.a] H H1:=λb u nb hb=>m1.old hb λz=>nb (by rw [z];exact Nb _)
 have G1:GoZ C H1 ⟨g,dt,ds,t,some (c.up n)⟩:=by
  refine⟨⟨dx,m1.old h1 λz=>by
   dsimp only at z
   rw [z,k1] at h1
   have:=congrArg List.length (HO.ins.inj (Option.some.inj h1)).2.2
   simp at this⟩,ht.grow λb hb u e=>m1.old e λz=>?_,m1.old h2 λz=>(by dsimp only at z;rw [z,k1] at h2;cases h2),t1⟩
  subst z
  cases t with
  | none=>
   rw [List.mem_singleton.mp hb] at k1
   have ht:=ht
   rw [ht] at k1;cases k1
  | some t=>
   obtain⟨q1,⟨dx2,q2⟩,q3,q4⟩:=ht
   simp only [tcs,TC.cs,Na,MT,or_false] at hb
   rcases hb with z | z | z | z<;>rw [z] at k1
   ·rw [q1] at k1;cases k1
   ·rw [q2] at k1
    have:=congrArg List.length (HO.ins.inj (Option.some.inj k1)).2.2
    simp at this
   ·rw [q3] at k1;cases k1
   ·rw [q4] at k1;cases k1
 symm
 refine⟨c.up n,rfl,t1,λv H2 po=>?_⟩
 obtain⟨r,rfl,nr,g2,e2⟩:=po
 symm
 intro p H3 np3 g3 e3
 have nra:=(av m1.at_ nr).symm
 refine q _ _ ⟨p,r,rfl,e3,by rw [<-m1.else_ r nra];exact nr,g3 _ _ e2,λb u nb hb=>g3 _ _ (g2 _ _ (f1 b u nb hb)),G1.grow λb _ u e=>g3 _ _ (g2 _ _ e)⟩
def ve(C:CA):Sp:=spG (A:=GC×Int) (λx=>[.ref x.1.g,.int x.2]) (λx H=>GoZ C H x.1) (λx H v H'=>∃r,v= .ref r/\H r=none/\Same H H'/\H' r=some (.lst []))
theorem AG(D:MethAt K C.g "leave" "Goods.leave" jU ["self","hand"])(J0:Cls K C.g)(J6:NoAttr K C.g "by_tool")(Kj:Cls K C.t)(Kh:NoAttr K C.t "held")(J9:mg "list" =none):OkM P w K mg base 1 C.g "leave" ["self","hand"] (ve C):=by
 refine D.okG J0 dY (λ_=>rfl) λx f cdv A outer s0 H Q E hr p q=>?_
 obtain⟨⟨g,dt,ds,t,s⟩,h⟩:=x
 obtain⟨⟨dx,h1⟩,ht,_⟩:=p
 dsimp only at h1 ht q⊢
 have hu:=cn hr
 refine⟨_,(aa (aP 2 dY (aq aL)) (aa (cB O1.never rfl (bM (bK nT J9 (aB (aj J0 J6 (pv 0))))) (aX 3 dY) (aa (aP 4 dY (x8 hu (aj Kj Kh (dJ hu (aj J0 J6 (pv 0)) (pv 3) (λ_ _=>rfl))) (pv 1) ab ⟨rfl,rfl,rfl,rfl⟩)) (ac (aJ (aM gH (pv 4) ab) bS aG)))) (ac (az (pv 2))))),?_⟩
 symm
 intro lf H1 n1 g1 e1
 have h1':=g1 _ _ h1
 clear h1
 symm
 apply cI
 simp only [cF]
 symm
 cases t with
 | none=>
  have ht':=g1 _ _ (ht)
  symm
  intro l H2 n2 g2 e2
  have e2:=e2
  refine⟨l,rfl,⟨_,SqL.of e2⟩,lu (over_list.stop 0 _ e2 (Nat.le_refl _)) ?_⟩
  symm
  exact q _ _ ⟨lf,rfl,n1,ah g1 g2,g2 _ _ e1⟩
 | some t=>
  obtain⟨q1,⟨dx2,q2⟩,q3,q4⟩:=ht
  have q1':=g1 _ _ q1
  have q2':=g1 _ _ q2
  have q3':=g1 _ _ q3
  symm
  intro l H2 n2 g2 e2
  have e2:H2 l=some (.lst [.str "jig"]):=e2
  have a1:=g2 _ _ h1'
  have a2:=g2 _ _ q1'
  have a3:=g2 _ _ q2'
  have a4:=g2 _ _ q3'
  clear q1 q2 q3 q4 q1' q2' q3' h1'
  have vb:bL [((Sum.inr "jig":Key),V.ref t.a)] (Sum.inr "jig")=some (.ref t.a):=gS rfl
  refine⟨l,rfl,⟨_,SqL.of e2⟩,HY (over_list.go 0 _ e2 (by decide)) (λv H' y=>by obtain⟨e,h⟩:=over_list.yld 0 _ v H' e2 (by decide) y;cases h;exact⟨rfl,e⟩) ?_⟩
  symm
  refine⟨⟨_,rfl⟩,?_⟩
  symm
  refine⟨0,rfl,?_⟩
  symm
  refine⟨over_list.stop 1 _ e2 (Nat.le_refl _),?_⟩
  symm
  exact q _ _ ⟨lf,rfl,n1,ah g1 g2,g2 _ _ e1⟩
end
end _K
namespace _K.Ag
open PySem _L
abbrev It:=Addr×List Int
def kf(ps:List It)(i:Nat):List Int:=(ps.getD i (0,[])).2
def le(a b:List Int):Prop:=_T.aR b a=false
theorem le_refl(a:List Int):le a a:=jK a
theorem sL(h:_T.aR a b=true):_T.aR b a=false:=by
 cases z:_T.aR b a with
 | false=>rfl
 | true=>have:=fX h z;rw [jK] at this;cases this
theorem le_of_lt(h:_T.aR a b=true):le a b:=sL h
theorem le_trans(h:le a b)(h':le b c):le a c:=by
 unfold le at *
 cases z:_T.aR c a with
 | false=>rfl
 | true=>
  by_cases e:a=b
  ·rw [e,h'] at z;cases z
  ·rcases iJ e with y | y
   ·rw [fX z y] at h';cases h'
   ·rw [h] at y;cases y
theorem AH(h:_T.aR a b=true)(h':le b c):_T.aR a c=true:=by
 by_cases e:b=c
 ·rw [<-e];exact h
 ·rcases iJ e with y | y
  ·exact fX h y
  ·unfold le at h';rw [h'] at y;cases y
def sw(ps:List It)(i j:Nat):List It:=(ps.set i (ps.getD j (0,[]))).set j (ps.getD i (0,[]))
theorem jt(ps:List It)(i j:Nat):(sw ps i j).length=ps.length:=by unfold sw;rw [N3,N3]
theorem FX(hi:i<ps.length)(hj:j<ps.length)(x:Nat):(sw ps i j).getD x (0,[])=if x=j then ps.getD i (0,[]) else if x=i then ps.getD j (0,[]) else ps.getD x (0,[]):=by
 unfold sw
 simp only [Ni]
 rw [List.getElem?_set,List.getElem?_set]
 by_cases c:j=x
 ·subst c
  rw [Th rfl,Th (by rw [N3];exact hj),Th rfl];rfl
 ·rw [Tf c,Tf (Ne.symm c)]
  by_cases c2:i=x
  ·subst c2
   rw [Th rfl,Th hi,Th rfl];rfl
  ·rw [Tf c2,Tf (Ne.symm c2)]
theorem BW(hi:i<ps.length)(hj:j<ps.length)(x:Nat):kf (sw ps i j) x=if x=j then kf ps i else if x=i then kf ps j else kf ps x:=by
 unfold kf
 rw [FX hi hj]
 split
 ·rfl
 ·split<;>rfl
theorem pE(hi:i<ps.length)(hj:j<ps.length):(sw ps i j).Perm ps:=by
 have:=List.set_set_perm hi hj
 unfold sw
 simpa [Ni,hi,hj] using this
def HP(ps:List It):Prop:=∀i,0<i->i<ps.length->le (kf ps ((i-1)/2)) (kf ps i)
def RI(ps:List It)(k:Nat):Prop:=(∀i,0<i->i<ps.length->i≠k->le (kf ps ((i-1)/2)) (kf ps i))/\(0<k->∀c,0<c->c<ps.length->(c-1)/2=k->le (kf ps ((k-1)/2)) (kf ps c))
theorem RI.step(h:RI ps k)(h0:0<k)(hk:k<ps.length)(hl:_T.aR (kf ps k) (kf ps ((k-1)/2))=true):RI (sw ps k ((k-1)/2)) ((k-1)/2):=by
 have hp:(k-1)/2<ps.length:=by lia
 have g:=BW hk hp
 rw [RI,jt]
 generalize hpp:(k-1)/2=p at *
 refine⟨λi i0 il ip=>?_,λp0 c c0 cl cp=>?_⟩
 ·rw [g,g]
  by_cases ik:i=k
  ·subst ik
   rw [hpp,Th rfl,Tf ip,Th rfl]
   exact le_of_lt hl
  ·rw [Tf ip,Tf ik]
   by_cases c1:(i-1)/2=p
   ·rw [Th c1]
    have:=h.1 i i0 il ik
    rw [c1] at this
    exact le_trans (le_of_lt hl) this
   ·rw [Tf c1]
    by_cases c2:(i-1)/2=k
    ·rw [Th c2]
     have:=h.2 h0 i i0 il c2
     rw [hpp] at this
     exact this
    ·rw [Tf c2]
     exact h.1 i i0 il ik
 ·rw [g,g]
  have n1:(p-1)/2≠p:=by lia
  have n2:(p-1)/2≠k:=by lia
  rw [Tf n1,Tf n2]
  have hg:=h.1 p p0 hp (by lia)
  by_cases ck:c=k
  ·rw [Tf (by lia),Th ck]
   exact hg
  ·rw [Tf (by lia),Tf ck]
   have:=h.1 c c0 cl ck
   rw [cp] at this
   exact le_trans hg this
theorem RI.done(h:RI ps k)(hk:k<ps.length)(hl:k=0\/le (kf ps ((k-1)/2)) (kf ps k)):HP ps:=λi i0 il=>by
 by_cases c:i=k
 ·subst c
  rcases hl with z | z
  ·lia
  ·exact z
 ·exact h.1 i i0 il c
theorem RI.snoc(h:HP ps):RI (ps++[q]) ps.length:=by
 have g:∀i,i<ps.length->kf (ps++[q]) i=kf ps i:=λi hi=>by
  unfold kf
  simp only [Ni]
  rw [Nl hi]
 refine⟨λi i0 il ik=>?_,λk0 c c0 cl cp=>?_⟩
 ·rw [MW,ND] at il
  rw [g _ (by lia),g _ (by lia)]
  exact h i i0 (by lia)
 ·rw [MW,ND] at cl
  lia
noncomputable def bQ(ps:List It)(k:Nat):Nat:=
 let a:=if 2*k+1<ps.length/\_T.aR (kf ps (2*k+1)) (kf ps k)=true then 2*k+1 else k
 if 2*k+2<ps.length/\_T.aR (kf ps (2*k+2)) (kf ps a)=true then 2*k+2 else a
theorem kM(hk:k<ps.length):bQ ps k<ps.length/\(bQ ps k=k\/((bQ ps k=2*k+1\/bQ ps k=2*k+2)/\_T.aR (kf ps (bQ ps k)) (kf ps k)=true))/\∀c,0<c->c<ps.length->(c-1)/2=k->le (kf ps (bQ ps k)) (kf ps c):=by
 have key:∀a,(a=k\/(a=2*k+1/\2*k+1<ps.length/\_T.aR (kf ps (2*k+1)) (kf ps k)=true))->(2*k+1<ps.length->le (kf ps a) (kf ps (2*k+1)))->
  let m:=if 2*k+2<ps.length/\_T.aR (kf ps (2*k+2)) (kf ps a)=true then 2*k+2 else a
  m<ps.length/\(m=k\/((m=2*k+1\/m=2*k+2)/\_T.aR (kf ps m) (kf ps k)=true))/\∀c,0<c->c<ps.length->(c-1)/2=k->le (kf ps m) (kf ps c):=by
  intro a ha h1
  have al:a<ps.length:=by rcases ha with z | z<;>lia
  have ak:le (kf ps a) (kf ps k):=by
   rcases ha with z | ⟨z,_,y⟩
   ·rw [z];exact le_refl _
   ·rw [z];exact le_of_lt y
  by_cases c:2*k+2<ps.length/\_T.aR (kf ps (2*k+2)) (kf ps a)=true
  ·simp only [Th c]
   refine⟨c.1,.inr ⟨by simp,AH c.2 ak⟩,λx x0 xl xk=>?_⟩
   by_cases e:x=2*k+2
   ·rw [e];exact le_refl _
   ·have e:x=2*k+1:=by lia
    rw [e]
    exact le_trans (le_of_lt c.2) (h1 (by lia))
  ·simp only [Tf c]
   refine⟨al,?_,λx x0 xl xk=>?_⟩
   ·rcases ha with z | ⟨z,_,y⟩
    ·exact .inl z
    ·exact .inr ⟨.inl z,by rw [z];exact y⟩
   ·by_cases e:x=2*k+2
    ·rw [e]
     unfold le
     cases z:_T.aR (kf ps (2*k+2)) (kf ps a) with
     | false=>rfl
     | true=>exact absurd ⟨by lia,z⟩ c
    ·have e:x=2*k+1:=by lia
     rw [e]
     exact h1 (by lia)
 unfold bQ
 by_cases c:2*k+1<ps.length/\_T.aR (kf ps (2*k+1)) (kf ps k)=true
 ·simp only [Th c]
  exact key (2*k+1) (.inr ⟨rfl,c⟩) λ_=>le_refl _
 ·simp only [Tf c]
  refine key k (.inl rfl) λhl=>?_
  unfold le
  cases z:_T.aR (kf ps (2*k+1)) (kf ps k) with
  | false=>rfl
  | true=>exact absurd ⟨hl,z⟩ c
def SI(ps:List It)(k:Nat):Prop:=(∀i,0<i->i<ps.length->(i-1)/2≠k->le (kf ps ((i-1)/2)) (kf ps i))/\(0<k->∀c,0<c->c<ps.length->(c-1)/2=k->le (kf ps ((k-1)/2)) (kf ps c))
theorem SI.step(h:SI ps k)(hk:k<ps.length)(hm:bQ ps k≠k):SI (sw ps k (bQ ps k)) (bQ ps k)/\k<bQ ps k:=by
 obtain⟨ml,mc,mm⟩:=kM hk
 have mc:=mc.resolve_left hm
 generalize bQ ps k=m at *
 have g:=BW hk ml
 have mp:(m-1)/2=k:=by lia
 refine⟨?_,by lia⟩
 rw [SI,jt]
 refine⟨λi i0 il ip=>?_,λm0 c c0 cl cp=>?_⟩
 ·rw [g,g,Tf ip]
  by_cases ik:(i-1)/2=k
  ·rw [Th ik]
   by_cases im:i=m
   ·rw [Th im];exact le_of_lt mc.2
   ·rw [Tf im,Tf (by lia)]
    exact mm i i0 il ik
  ·rw [Tf ik,Tf (by lia)]
   by_cases e:i=k
   ·rw [Th e,e]
    exact h.2 (by lia) m (by lia) ml mp
   ·rw [Tf e]
    exact h.1 i i0 il ik
 ·rw [g,g,mp,Tf (by lia),Th rfl,Tf (by lia),Tf (by lia)]
  have:=h.1 c c0 cl (by lia)
  rw [cp] at this
  exact this
theorem SI.done(h:SI ps k)(hk:k<ps.length)(hm:bQ ps k=k):HP ps:=λi i0 il=>by
 by_cases c:(i-1)/2=k
 ·rw [c]
  have:=(kM hk).2.2 i i0 il c
  rw [hm] at this
  exact this
 ·exact h.1 i i0 il c
theorem SI.root(h:HP ps):SI (ps.set 0 q) 0:=by
 refine⟨λi i0 il ip=>?_,λk0=>absurd k0 (by lia)⟩
 rw [N3] at il
 have g:∀x,x≠0->kf (ps.set 0 q) x=kf ps x:=λx hx=>by
  unfold kf
  simp only [Ni]
  rw [List.getElem?_set_ne (Ne.symm hx)]
 rw [g _ ip,g _ (by lia)]
 exact h i i0 il
theorem HP.min(h:HP ps):∀i,i<ps.length->le (kf ps 0) (kf ps i):=by
 intro i
 induction i using Nat.strongRecOn with
 | ind i ih=>
  intro il
  by_cases c:i=0
  ·rw [c];exact le_refl _
  ·exact le_trans (ih ((i-1)/2) (by lia) (by lia)) (h i (by lia) il)
theorem HP.init(h:HP ps):HP ps.dropLast:=by
 intro i i0 il
 rw [List.length_dropLast] at il
 have g:∀x,x<ps.length-1->kf ps.dropLast x=kf ps x:=λx hx=>by
  unfold kf
  simp only [Ni]
  rw [List.getElem?_dropLast,Th hx]
 rw [g _ (by lia),g _ il]
 exact h i i0 (by lia)
def HL(H:Hp)(l:Addr)(ps:List It):Prop:=H l=some (.lst (ps.map λq=>V.ref q.1))/\∀q∈ps,H q.1=some (.tup (q.2.map V.int))
def Onl(l:Addr)(H H':Hp):Prop:=∀c u,c≠l->H c=some u->H' c=some u
theorem Onl.trans(g:Onl l H H')(g':Onl l H' H''):Onl l H H'':=λc u n h=>g' c u n (g c u n h)
theorem Onl.refl:Onl l H H:=λ_ _ _ h=>h
theorem Onl.same(g:Same H H'):Onl l H H':=λc u _ h=>g c u h
theorem HL.same(h:HL H l ps)(g:Same H H'):HL H' l ps:=⟨g _ _ h.1,λq hq=>g _ _ (h.2 q hq)⟩
theorem cJ{ps:List It}(hi:i<ps.length):atI (ps.map λq=>V.ref q.1) (i:Int)=some (.ref (ps.getD i (0,[])).1):=by
 apply cH
 rw [M4]
 simp [hi]
theorem sM(h:i<n):ixN n (i:Int)=some i:=by
 unfold ixN
 simp
 lia
theorem mR{ps:List It}(hi:i<ps.length):ps.getD i (0,[])∈ps:=by
 rw [Ni,MR hi]
 exact List.getElem_mem hi
section
variable{P:OR}{w:OV}{K:N5}{mg:Str->Option OL}{base:Heap}
def AI:Sp:=λvs H Q _=>∃(l:Addr) (ps:List It) (i j:Nat),vs= [.ref l,.int i,.int j]/\HL H l ps/\i<ps.length/\j<ps.length/\∀H',Onl l H H'->HL H' l (sw ps i j)->Q .non H'
theorem ok_swap(D:DefAt K mg "swap" yC ["heap","one","other"]):OkD P w K mg base 1 "swap" ["heap","one","other"] AI:=by
 refine D.ok uZ (λvs H Q E h=>?_) (λf cdv A outer s H vs Q E hr h=>?_)
 ·obtain⟨_,_,_,_,rfl,_⟩:=h;rfl
 obtain⟨l,ps,i,j,rfl,⟨h1,h2⟩,hi,hj,q⟩:=h
 have a1:=cJ hi
 have a2:=cJ hj
 refine⟨_,(aa (aP 3 uZ (ar (pv 0) (pv 1))) (aa (cr (ar (pv 0) (pv 2)) (nG (pv 0) (pv 1) iG)) (ac (cr (pv 3) (nG (pv 0) (pv 2) iG))))),?_⟩
 walk_at "rz"
 refine⟨i,sM (by rw [MQ];exact hi),λH1 m1=>?_⟩
 have l1:=m1.at_
 walk_at "rz"
 refine⟨j,sM (by rw [N3,MQ];exact hj),λH2 m2=>?_⟩
 refine q H2 (λc u n hc=>m2.old (m1.old hc n) n) ⟨?_,λr hr=>?_⟩
 ·rw [m2.at_]
  unfold sw
  rw [OJ,OJ]
 ·have hr:=(pE hi hj).mem_iff.mp hr
  have n:r.1≠l:=λz=>by have:=h2 r hr;rw [z,h1] at this;cases this
  exact m2.old (m1.old (h2 r hr) n) n
def sp3:Sp:=λvs H Q _=>∃(l:Addr) (ps:List It) (k:Nat),vs= [.ref l,.int k]/\HL H l ps/\k<ps.length/\∀H',Same H H'->Q (.int (bQ ps k)) H'
theorem ok_three(D:DefAt K mg "least_of_three" ib ["heap","at"])(JZ:mg "len" =none):OkD P w K mg base 1 "least_of_three" ["heap","at"] sp3:=by
 refine D.ok cQ (λvs H Q E h=>?_) (λf cdv A outer s H vs Q E hr h=>?_)
 ·obtain⟨_,_,_,rfl,_⟩:=h;rfl
 obtain⟨l,ps,k,rfl,⟨h1,h2⟩,hk,q⟩:=h
 have hu64:=hr.units
 refine⟨_,(aa (aP 2 cQ (pv 1)) (aa (CG O1.never rfl (ad (aA (aw aY (aw eS ab (pv 1)) ab) (aw aY (aw eS ab (pv 1)) ab))) (aX 3 cQ) (ac (aJ (PW.pt (dG (aM jF (pv 3) (iF eU rfl JZ PM (aB (pv 0)))) (cR (aM (xA (Nu (Nn _ 64) hu64)) (ar (pv 0) (pv 3)) (ar (pv 0) (pv 2)))))) (ac (aP 2 cQ (pv 3))) aG))) (ac (az (pv 2))))),?_⟩
 walk_at "rz"
 intro p H1 hp g1 hp1
 have l1:=g1 _ _ h1
 walk_at "rz"
 refine⟨_,.inl (SqL.of l1),?_⟩
 walk_at "rz"
 have ky:∀i,i<ps.length->SqT K H1 (ps.getD i (0,[])).1 ((kf ps i).map V.int):=λi hi=>SqT.of (g1 _ _ (h2 _ (mR hi)))
 have lm:(ps.map λq=>V.ref q.1).length=ps.length:=MQ _
 have e1:(2*(k:Int)+1)=((2*k+1:Nat):Int):=by lia
 have e2:(2*(k:Int)+2)=((2*k+2:Nat):Int):=by lia
 rw [lm]
 refine dI (λc=>?_) λc=>?_
 ·have c1:2*k+1<ps.length:=by lia
  have a1:=cJ c1
  have a2:=cJ hk
  rw [e1]
  walk_at "rz"
  refine⟨_,ky _ c1,_,ky _ hk,?_⟩
  walk_at "rz"
  refine dI (λz0=>?_) λz0=>?_
  ·have LX:bQ ps k=if 2*k+2<ps.length/\_T.aR (kf ps (2*k+2)) (kf ps (2*k+1))=true then 2*k+2 else 2*k+1:=by
    unfold bQ
    simp only [Th (show 2*k+1<ps.length/\_T.aR (kf ps (2*k+1)) (kf ps k)=true from ⟨c1,z0⟩)]
   clear a1 a2
   have Ha:=c1
   walk_at "rz"
   refine⟨_,.inl (SqL.of l1),?_⟩
   walk_at "rz"
   refine dI (λd=>?_) λd=>?_
   ·have d1:2*k+2<ps.length:=by lia
    have b1:=cJ d1
    have b2:=cJ Ha
    try rw [e2]
    walk_at "rz"
    refine⟨_,ky _ d1,_,ky _ Ha,?_⟩
    walk_at "rz"
    refine dI (λz=>?_) λz=>?_
    ·walk_at "rz"
     have:=q H1 g1
     rw [LX,Th ⟨d1,z⟩] at this
     exact this
    ·walk_at "rz"
     have:=q H1 g1
     rw [LX,Tf (λy=>z y.2)] at this
     exact this
   ·walk_at "rz"
    have:=q H1 g1
    rw [LX,Tf (λy=>d (by have:=y.1;lia))] at this
    exact this
  ·have LX:bQ ps k=if 2*k+2<ps.length/\_T.aR (kf ps (2*k+2)) (kf ps k)=true then 2*k+2 else k:=by
    unfold bQ
    simp only [Tf (show ¬(2*k+1<ps.length/\_T.aR (kf ps (2*k+1)) (kf ps k)=true) from λy=>z0 y.2)]
   have Ha:=hk
   walk_at "rz"
   refine⟨_,.inl (SqL.of l1),?_⟩
   walk_at "rz"
   refine dI (λd=>?_) λd=>?_
   ·have d1:2*k+2<ps.length:=by lia
    have b1:=cJ d1
    have b2:=cJ Ha
    walk_at "rz"
    refine⟨_,ky _ d1,_,ky _ Ha,?_⟩
    walk_at "rz"
    refine dI (λz=>?_) λz=>?_
    ·walk_at "rz"
     have:=q H1 g1
     rw [LX,Th ⟨d1,z⟩] at this
     exact this
    ·walk_at "rz"
     have:=q H1 g1
     rw [LX,Tf (λy=>z y.2)] at this
     exact this
   ·walk_at "rz"
    have:=q H1 g1
    rw [LX,Tf (λy=>d (by have:=y.1;lia))] at this
    exact this
 ·have LX:bQ ps k=if 2*k+2<ps.length/\_T.aR (kf ps (2*k+2)) (kf ps k)=true then 2*k+2 else k:=by
   unfold bQ
   simp only [Tf (show ¬(2*k+1<ps.length/\_T.aR (kf ps (2*k+1)) (kf ps k)=true) from λy=>c (by have:=y.1;lia))]
  have Ha:=hk
  walk_at "rz"
  refine⟨_,.inl (SqL.of l1),?_⟩
  walk_at "rz"
  refine dI (λd=>?_) λd=>?_
  ·have d1:2*k+2<ps.length:=by lia
   have b1:=cJ d1
   have b2:=cJ Ha
   walk_at "rz"
   refine⟨_,ky _ d1,_,ky _ Ha,?_⟩
   walk_at "rz"
   refine dI (λz=>?_) λz=>?_
   ·walk_at "rz"
    have:=q H1 g1
    rw [LX,Th ⟨d1,z⟩] at this
    exact this
   ·walk_at "rz"
    have:=q H1 g1
    rw [LX,Tf (λy=>z y.2)] at this
    exact this
  ·walk_at "rz"
   have:=q H1 g1
   rw [LX,Tf (λy=>d (by have:=y.1;lia))] at this
   exact this
def RsI(l:Addr)(ps:List It)(H:Hp)(m:Nat)(σ:St)(H':Hp):Prop:=∃(k:Nat) (ps':List It),σ= [some (.ref l),some (.int k)]/\Onl l H H'/\HL H' l ps'/\ps'.Perm ps/\k<ps'.length/\RI ps' k/\m=k
def RsZ(l:Addr)(ps:List It)(H:Hp)(σ:St)(H':Hp):Prop:=∃(v:Option V) (ps':List It),σ= [some (.ref l),v]/\Onl l H H'/\HL H' l ps'/\ps'.Perm ps/\HP ps'
def yF:Sp:=λvs H Q _=>∃(l:Addr) (ps:List It),vs= [.ref l]/\HL H l ps/\0<ps.length/\RI ps (ps.length-1)/\∀H' ps',Onl l H H'->HL H' l ps'->ps'.Perm ps->HP ps'->Q .non H'
theorem ok_rise(D:DefAt K mg "rise" yA ["heap"])(LD:OkD P w K mg base 1 "swap" ["heap","one","other"] AI)(JZ:mg "len" =none):OkD P w K mg base 2 "rise" ["heap"] yF:=by
 refine D.ok pC (λvs H Q E h=>?_) (λf cdv A outer s H vs Q E hr h=>?_)
 ·obtain⟨_,_,rfl,_⟩:=h;rfl
 obtain⟨l,ps,rfl,hl,h0,ri,q⟩:=h
 have hu64:=hr.units
 have lm:(ps.map λq=>V.ref q.1).length=ps.length:=MQ _
 refine⟨_,(aa (aP 1 pC (aw cC (iF eU rfl JZ PM (aB (pv 0))) ab)) (ac (ls (cZ O1.never (PW.pt (dG (aM gH (pv 1) ab) (cR (aM (xA (Nu (Nn _ 64) hu64)) (ar (pv 0) (pv 1)) (ar (pv 0) (aw jc (aw cC (pv 1) ab) ab)))))) (aa (aO (aH LD hr rfl (bc (pv 0) (pv 1) (aw jc (aw cC (pv 1) ab) ab)))) (ac (aP 1 pC (aw jc (aw cC (pv 1) ab) ab)))))))),?_⟩
 walk_at "rz"
 refine⟨_,.inl (SqL.of hl.1),?_⟩
 walk_at "rz"
 refine⟨RsZ l ps H,?_,?_⟩
 ·refine⟨RsI l ps H,⟨ps.length-1,?_⟩,?_⟩
  ·unfold RsI
   exact⟨ps.length-1,ps,by rw [show((ps.length:Int)-1)=((ps.length-1:Nat):Int) by lia],Onl.refl,hl,List.Perm.refl _,by lia,ri,rfl⟩
  ·intro m σ H1 z
   obtain⟨k,ps',rfl,o1,hl1,pm,hk,ri1,rfl⟩:=z
   clear lm
   have l1:=hl1.1
   walk_at "rz"
   refine dI (λc=>?_) λc=>?_
   ·have p0:((m:Int)-1)/2=(((m-1)/2:Nat):Int):=by lia
    have hp:(m-1)/2<ps'.length:=by lia
    have a1:=cJ hk
    have a2:=cJ hp
    walk_at "rz"
    refine⟨_,SqT.of (hl1.2 _ (mR hk)),_,SqT.of (hl1.2 _ (mR hp)),?_⟩
    walk_at "rz"
    refine dI (λz=>?_) λz=>?_
    ·refine⟨λσ' H'=>∃m',m'<m/\RsI l ps H m' σ' H',λ_ _ y=>y,?_⟩
     walk_at "rz"
     refine⟨l,ps',m,(m-1)/2,rfl,hl1,hk,hp,λH2 o2 hl2=>?_⟩
     refine⟨(m-1)/2,by lia,?_⟩
     exact⟨(m-1)/2,sw ps' m ((m-1)/2),(by show [some (V.ref l),some (V.int (((m:Int)-1)/2))]=_;rw [p0]),o1.trans o2,hl2,(pE hk hp).trans pm,by rw [jt];exact hp,ri1.step (by lia) hk z,rfl⟩
    ·unfold RsZ
     exact⟨_,ps',rfl,o1,hl1,pm,ri1.done hk (.inr (by unfold le;exact Bool.eq_false_iff.mpr z))⟩
   ·unfold RsZ
    exact⟨_,ps',rfl,o1,hl1,pm,ri1.done hk (.inl (by lia))⟩
 ·intro σ H1 z
  obtain⟨v,ps',rfl,o1,hl1,pm,hp⟩:=z
  exact q H1 ps' o1 hl1 pm hp
def SkI(l:Addr)(ps:List It)(H:Hp)(m:Nat)(σ:St)(H':Hp):Prop:=∃(k:Nat) (ps':List It),σ= [some (.ref l),some (.int k),some (.int (bQ ps' k))]/\Onl l H H'/\HL H' l ps'/\ps'.Perm ps/\k<ps'.length/\SI ps' k/\m=ps'.length-k
def yG:Sp:=λvs H Q _=>∃(l:Addr) (ps:List It),vs= [.ref l]/\HL H l ps/\0<ps.length/\SI ps 0/\∀H' ps',Onl l H H'->HL H' l ps'->ps'.Perm ps->HP ps'->Q .non H'
theorem ok_sink(D:DefAt K mg "sink" yB ["heap"])(LD:OkD P w K mg base 1 "swap" ["heap","one","other"] AI)(KM:OkD P w K mg base 1 "least_of_three" ["heap","at"] sp3):OkD P w K mg base 2 "sink" ["heap"] yG:=by
 refine D.ok jo (λvs H Q E h=>?_) (λf cdv A outer s H vs Q E hr h=>?_)
 ·obtain⟨_,_,rfl,_⟩:=h;rfl
 obtain⟨l,ps,rfl,hl,h0,si,q⟩:=h
 refine⟨_,(aa (aP 1 jo ab) (aa (aP 2 jo (aH KM hr rfl (aA (pv 0) (pv 1)))) (ac (cZ O1.never (aM nK (pv 2) (pv 1)) (aa (aO (aH LD hr rfl (bc (pv 0) (pv 1) (pv 2)))) (aa (aP 1 jo (pv 2)) (ac (aP 2 jo (aH KM hr rfl (aA (pv 0) (pv 1))))))))))),?_⟩
 walk_at "rz"
 refine⟨l,ps,0,rfl,hl,h0,λH1 g1=>?_⟩
 refine⟨SkI l ps H,⟨ps.length-0,?_⟩,?_⟩
 ·unfold SkI
  exact⟨0,ps,rfl,Onl.same g1,hl.same g1,List.Perm.refl _,h0,si,rfl⟩
 ·intro m σ H2 z
  obtain⟨k,ps',rfl,o1,hl1,pm,hk,si1,rfl⟩:=z
  walk_at "rz"
  have hm:=kM hk
  refine dI (λc=>?_) λc=>?_
  ·have c:bQ ps' k≠k:=λz=>by rw [z] at c;simp at c
   have st:=si1.step hk c
   refine⟨λσ' H'=>∃m',m'<ps'.length-k/\SkI l ps H m' σ' H',λ_ _ y=>y,?_⟩
   walk_at "rz"
   refine⟨l,ps',k,bQ ps' k,rfl,hl1,hk,hm.1,λH3 o3 hl3=>?_⟩
   refine⟨l,_,bQ ps' k,rfl,hl3,by rw [jt];exact hm.1,λH4 g4=>?_⟩
   refine⟨ps'.length-bQ ps' k,by have:=st.2;lia,?_⟩
   exact⟨bQ ps' k,sw ps' k (bQ ps' k),rfl,(o1.trans o3).trans (Onl.same g4),hl3.same g4,(pE hk hm.1).trans pm,by rw [jt];exact hm.1,st.1,by rw [jt]⟩
  ·have c:bQ ps' k=k:=by
    have:((bQ ps' k:Int))=k:=by simpa using c
    lia
   exact q H2 ps' o1 hl1 pm (si1.done hk c)
end
structure Kt where
 m:Int
 t:Int
 x:Int
def ca(e:Kt):List Int:=[e.m,e.t,e.x]
def key2(e:Kt):List Int:=[e.m,e.x]
def bef(a b:Kt):Prop:=a.m<b.m\/(a.m=b.m/\a.t<b.t)
def Inc(kt:List Kt):Prop:=kt.Pairwise λa b=>a.t<b.t
def Srt(kt ok:List Kt):Prop:=ok.Perm kt/\ok.Pairwise bef
def IsMi(kt:List Kt)(i:Nat)(e:Kt):Prop:=kt[i]? =some e/\(∀(j:Nat) e',kt[j]? =some e'->e.m<=e'.m)/\(∀(j:Nat) e',j<i->kt[j]? =some e'->e.m<e'.m)
theorem yH(h:bef a b):¬bef b a:=λh'=>by
 rcases h with h | ⟨h,h2⟩<;>rcases h' with g | ⟨g,g2⟩<;>lia
theorem sN(h:bef a b):_T.aR (ca a) (ca b)=true:=by
 unfold ca
 rcases h with h | ⟨h,h2⟩
 ·rw [_T.bJ,Tf (by lia)];exact decide_eq_true h
 ·rw [_T.bJ,Th h,_T.bJ,Tf (by lia)];exact decide_eq_true h2
theorem sO(h:ca a=ca b):a=b:=by
 cases a
 unfold ca at h
 simp at h
 obtain⟨rfl,rfl,rfl⟩:=h
 rfl
theorem Inc.at(h:Inc kt){j:Nat}(hi:kt[i]? =some a)(hj:kt[j]? =some b)(hij:i<j):a.t<b.t:=by
 obtain⟨i1,e1⟩:=List.getElem?_eq_some_iff.mp hi
 obtain⟨j1,e2⟩:=List.getElem?_eq_some_iff.mp hj
 have:=List.pairwise_iff_getElem.mp h i j i1 j1 hij
 rw [e1,e2] at this
 exact this
theorem IsMi.min(h:IsMi kt i e)(ic:Inc kt)(he:e'∈kt):e=e'\/bef e e':=by
 obtain⟨j,hj⟩:=List.mem_iff_getElem?.mp he
 rcases Nat.lt_trichotomy j i with c | c | c
 ·exact .inr (.inl (h.2.2 j e' c hj))
 ·subst c
  rw [h.1] at hj
  exact .inl (Option.some.inj hj)
 ·have a:=h.2.1 j e' hj
  have b:=ic.at h.1 hj c
  right
  unfold bef
  lia
theorem vf:∀{l:List Kt} {i:Nat} (h:i<l.length),(l[i]::l.eraseIdx i).Perm l
 | a::l,0,_=>List.Perm.refl _
 | a::l,i+1,h=>by
  have:=vf (i:=i) (by simpa using h)
  exact(List.Perm.swap _ _ _).trans (this.cons a)
theorem IsMi.perm(h:IsMi kt i e):(e::kt.eraseIdx i).Perm kt:=by
 obtain⟨i1,e1⟩:=List.getElem?_eq_some_iff.mp h.1
 rw [<-e1]
 exact vf i1
theorem Srt.take(s:Srt kt ok)(ic:Inc kt)(h:IsMi kt i e):∃r,ok=e::r/\Srt (kt.eraseIdx i) r:=by
 have hm:=Nc h.1
 cases ok with
 | nil=>have:=s.1.mem_iff.mpr hm;cases this
 | cons o r=>
  have ho:=s.1.mem_iff.mp MU
  have pw:=List.pairwise_cons.mp s.2
  have eo:e=o:=by
   rcases h.min ic ho with z | z
   ·exact z
   ·rcases List.mem_cons.mp (s.1.mem_iff.mpr hm) with y | y
    ·exact y
    ·exact absurd (pw.1 e y) (yH z)
  subst eo
  exact⟨r,rfl,(s.1.trans h.perm.symm).cons_inv,pw.2⟩
theorem vg:∀{l m:List (List Int)},l.Perm m->l.Pairwise (λa b=>_T.aR a b=true)->m.Pairwise (λa b=>_T.aR a b=true)->l=m
 | [],m,p,_,_=>(List.nil_perm.mp p).symm
 | a::l,[],p,_,_=>by have:=p.length_eq;simp at this
 | a::l,b::m,p,h,h'=>by
  have h:=List.pairwise_cons.mp h
  have h':=List.pairwise_cons.mp h'
  have e:a=b:=by
   rcases List.mem_cons.mp (p.mem_iff.mp MU) with z | z
   ·exact z
   ·rcases List.mem_cons.mp (p.mem_iff.mpr (MU)) with y | y
    ·exact y.symm
    ·have g1:=h'.1 a z
     have g2:=h.1 b y
     have:=sL g1
     rw [g2] at this;cases this
  subst e
  rw [vg p.cons_inv h.2 h'.2]
theorem Srt.keys(s:Srt kt ok):(ok.map ca).Pairwise λa b=>_T.aR a b=true:=by
 rw [NZ]
 exact s.2.imp λh=>sN h
theorem vi:∀{l m:List Kt},l.map ca=m.map ca->l=m
 | [],[],_=>rfl
 | [],_::_,h=>by cases h
 | _::_,[],h=>by cases h
 | a::l,b::m,h=>by
  injection h with h1 h2
  rw [sO h1,vi h2]
theorem Srt.uniq(s:Srt kt ok)(s':Srt kt ok'):ok=ok':=
 vi (vg ((s.1.trans s'.1.symm).map ca) s.keys s'.keys)
theorem Srt.put(s:Srt kt ok)(ht:∀a∈kt,a.t<e.t)(hk:k<=ok.length)(h1:∀(j:Nat) a,j<k->ok[j]? =some a->a.m<=e.m)(h2:∀(j:Nat) a,k<=j->ok[j]? =some a->e.m<a.m):Srt (kt++[e]) (ok.take k++[e]++ok.drop k):=by
 refine⟨?_,?_⟩
 ·have:(ok.take k++[e]++ok.drop k).Perm (ok.take k++ok.drop k++[e]):=by
   rw [Nj,Nj]
   exact List.Perm.append_left _ List.perm_append_comm
  rw [List.take_append_drop] at this
  exact this.trans (s.1.append_right _)
 ·have b1:∀a∈ok.take k,bef a e:=λa ha=>by
   obtain⟨j,hj⟩:=List.mem_iff_getElem?.mp ha
   have jl:j<k:=by
    have:=(List.getElem?_eq_some_iff.mp hj).1
    rw [NT] at this;lia
   rw [List.getElem?_take_of_lt jl] at hj
   have a1:=h1 j a jl hj
   have a2:=ht a (s.1.mem_iff.mp (Nc hj))
   unfold bef;lia
  have b2:∀a∈ok.drop k,bef e a:=λa ha=>by
   obtain⟨j,hj⟩:=List.mem_iff_getElem?.mp ha
   rw [NS] at hj
   exact .inl (h2 _ a (by lia) hj)
  have b0:=s.2
  rw [<-List.take_append_drop k ok,List.pairwise_append] at b0
  rw [Nj,List.pairwise_append]
  refine⟨b0.1,List.pairwise_cons.mpr ⟨λa ha=>b2 a ha,b0.2.1⟩,λa ha b hb=>?_⟩
  rcases List.mem_cons.mp hb with z | z
  ·rw [z];exact b1 a ha
  ·exact b0.2.2 a ha b z
theorem Inc.snoc(h:Inc kt)(ht:∀a∈kt,a.t<e.t):Inc (kt++[e]):=by
 unfold Inc
 rw [List.pairwise_append]
 exact⟨h,List.pairwise_singleton _ _,λa ha b hb=>by rw [List.mem_singleton.mp hb];exact ht a ha⟩
theorem Srt.mono(s:Srt kt ok){j:Nat}(hi:ok[i]? =some a)(hj:ok[j]? =some b)(hij:i<=j):a.m<=b.m:=by
 by_cases c:i=j
 ·subst c;rw [hi] at hj;cases hj;exact Int.le_refl _
 ·obtain⟨i1,e1⟩:=List.getElem?_eq_some_iff.mp hi
  obtain⟨j1,e2⟩:=List.getElem?_eq_some_iff.mp hj
  have:=List.pairwise_iff_getElem.mp s.2 i j i1 j1 (by lia)
  rw [e1,e2] at this
  unfold bef at this;lia
theorem root(hp:HP ps)(pm:(ps.map (·.2)).Perm (kt.map ca))(ic:Inc kt)(h:IsMi kt i e):∃q r,ps=q::r/\q.2=ca e/\(r.map (·.2)).Perm ((kt.eraseIdx i).map ca):=by
 have hm:=Nc h.1
 cases ps with
 | nil=>have:=pm.length_eq;have:=List.length_pos_of_mem hm;simp at *;lia
 | cons q r=>
  obtain⟨e0,h0,k0⟩:=List.mem_map.mp (pm.mem_iff.mp (Nr MU))
  have e1:e=e0:=by
   rcases h.min ic h0 with z | z
   ·exact z
   ·obtain⟨q1,hq1,kq1⟩:=List.mem_map.mp (pm.mem_iff.mpr (Nr hm))
    obtain⟨j,hj⟩:=List.mem_iff_getElem?.mp hq1
    have:=hp.min j (List.getElem?_eq_some_iff.mp hj).1
    have kj:kf (q::r) j=ca e:=by unfold kf;rw [Ni,hj];exact kq1
    have k00:kf (q::r) 0=ca e0:=by rw [k0];rfl
    rw [kj,k00] at this
    unfold le at this
    rw [sN z] at this;cases this
  subst e1
  refine⟨q,r,rfl,k0.symm,?_⟩
  have:=pm.trans (h.perm.map ca).symm
  rw [Ng,<-k0] at this
  exact this.cons_inv
def LA(CL:Addr)(H:Hp)(a l:Addr)(kt:List Kt):Prop:=∃dx ps ok,H a=some (.ins CL dx [("things",.ref l)])/\HL H l ps/\Srt kt ok/\ps.map (·.2)=ok.map key2
def FrA(a l:Addr)(H H':Hp):Prop:=∀c u,c≠a->c≠l->H c=some u->H' c=some u
theorem pF:Srt [] []:=⟨List.Perm.refl _,.nil⟩
theorem LA.fr(h:LA CL H a l kt)(g:∀c u,(c=a\/c=l\/∃xs,u=HO.tup xs)->H c=some u->H' c=some u):LA CL H' a l kt:=by
 obtain⟨dx,ps,ok,h1,⟨h2,h3⟩,h4⟩:=h
 exact⟨dx,ps,ok,g _ _ (.inl rfl) h1,⟨g _ _ (.inr (.inl rfl)) h2,λq hq=>g _ _ (.inr (.inr ⟨_,rfl⟩)) (h3 q hq)⟩,h4⟩
theorem wO{α:Type}{f:α->List Int}{ok:List α}(hl:HL H l ps)(ek:ps.map (·.2)=ok.map f){i:Nat}{e:α}(he:ok[i]? =some e):∃p,atI (ps.map λq=>V.ref q.1) (i:Int)=some (.ref p)/\H p=some (.tup ((f e).map V.int))/\ps[i]? =some (p,f e):=by
 have h:=congrArg (λl=>l[i]?) ek
 simp only [M4,he,Om] at h
 cases z:ps[i]? with
 | none=>rw [z] at h;cases h
 | some q=>
  rw [z] at h
  obtain⟨p,k⟩:=q
  cases h
  refine⟨p,cH (by rw [M4,z];rfl),hl.2 _ (Nc z),rfl⟩
section
variable{P:OR}{w:OV}{K:N5}{mg:Str->Option OL}{base:Heap}
def spLI(CL:Addr):Sp:=λvs H Q _=>∃(a dx:Addr),vs= [.ref a]/\H a=some (.ins CL dx [])/\∀(l:Addr) (H':Hp),H l=none->(∀c u,c≠a->H c=some u->H' c=some u)->LA CL H' a l []->Q .non H'
theorem ok_LI(D:MakeAt K mg "ListAgenda" CL "ListAgenda.__init__" eG ["self"])(JN:Cls K CL)(JI:NoAttr K CL "things"):OkC P w K mg base 1 "ListAgenda" CL ["self"] (spLI CL):=by
 refine D.ok iY (λvs H Q E h=>?_) (λf cdv A outer s H vs Q E hr h=>?_)
 ·obtain⟨_,_,rfl,_⟩:=h;rfl
 obtain⟨a,dx,rfl,ha,q⟩:=h
 refine⟨_,(ac (aD JN JI (pv 0) (aq aL))),?_⟩
 walk_at "rz"
 intro l H1 hl g1 h1
 have a1:=g1 _ _ ha
 walk_at "rz"
 intro H2 m2
 have nl:=(av ha hl).symm
 exact q l H2 hl (λc u nc hc=>m2.old (g1 _ _ hc) nc) ⟨dx,[],[],m2.at_,⟨m2.old h1 nl,λq hq=>absurd hq MT⟩,pF,rfl⟩
def LpI(a l:Addr)(m x:Int)(ok:List Kt)(H:Hp)(n:Nat)(σ:St)(H':Hp):Prop:=∃k:Nat,σ= [some (.ref a),some (.int m),some (.int x),some (.int k)]/\H'=H/\k<=ok.length/\(∀(j:Nat) e,k<=j->ok[j]? =some e->m<e.m)/\n=k
def LpZ(a l:Addr)(m x:Int)(ok:List Kt)(H:Hp)(σ:St)(H':Hp):Prop:=∃k:Nat,σ= [some (.ref a),some (.int m),some (.int x),some (.int k)]/\H'=H/\k<=ok.length/\(∀(j:Nat) e,k<=j->ok[j]? =some e->m<e.m)/\(∀(j:Nat) e,j<k->ok[j]? =some e->e.m<=m)
def spLPut(CL:Addr):Sp:=λvs H Q _=>∃(a l:Addr) (m x t:Int) (kt:List Kt),vs= [.ref a,.int m,.int x]/\LA CL H a l kt/\(∀e∈kt,e.t<t)/\kt.length<=900/\∀H',FrA a l H H'->LA CL H' a l (kt++[⟨m,t,x⟩])->Q .non H'
theorem ok_LPut(D:MethAt K CL "put" "ListAgenda.put" hZ ["self","moment","thing"])(JN:Cls K CL)(JI:NoAttr K CL "things")(JZ:mg "len" =none):OkM P w K mg base 1 CL "put" ["self","moment","thing"] (spLPut CL):=by
 refine D.ok JN d7 (λvs H Q E h=>?_) (λf cdv A outer s H vs Q E hr h=>?_)
 ·obtain⟨_,_,_,_,_,_,rfl,_⟩:=h;rfl
 obtain⟨a,l,m,x,t,kt,rfl,⟨dx,ps,ok,h1,hl,so,ek⟩,ht,hn,q⟩:=h
 have big:100000<=ON:=by unfold ON;decide
 have lp:ps.length=ok.length:=by have:=congrArg List.length ek;rw [MQ,MQ] at this;exact this
 have lm:(ps.map λq=>V.ref q.1).length=ok.length:=by rw [MQ];exact lp
 have l1:=hl.1
 refine⟨_,(aa (aP 3 d7 (iF eU rfl JZ PM (aB (aj JN JI (pv 0))))) (aa (ls (cZ O1.never (PW.pt (dG (aM gH (pv 3) ab) (cR (aM gH (ar (ar (aj JN JI (pv 0)) (aw cC (pv 3) ab)) ab) (pv 1))))) (ac (aP 3 d7 (aw cC (pv 3) ab))))) (ac (aO (BE Pn PySem.F.slot_list_insert PySem.F.type_list_insert CM (aj JN JI (pv 0)) (aA (pv 3) (ad (aA (pv 1) (pv 2))))))))),?_⟩
 walk_at "rz"
 refine⟨_,.inl (SqL.of l1),?_⟩
 walk_at "rz"
 refine⟨LpZ a l m x ok H,?_,?_⟩
 ·refine⟨LpI a l m x ok H,⟨ok.length,?_⟩,?_⟩
  ·unfold LpI
   exact⟨ok.length,rfl,rfl,Nat.le_refl _,λj e hj he=>absurd (List.getElem?_eq_some_iff.mp he).1 (by lia),rfl⟩
  ·intro n σ H1 z
   obtain⟨k,rfl,rfl,hk,af,rfl⟩:=z
   walk_at "rz"
   refine dI (λc=>?_) λc=>?_
   ·have p0:((n:Int)-1)=((n-1:Nat):Int):=by lia
    obtain⟨e,he⟩:∃e,ok[n-1]? =some e:=⟨_,MR (by lia)⟩
    obtain⟨p,a1,a2',_⟩:=wO hl ek he
    have a2:H1 p=some (.tup [.int e.m,.int e.x]):=a2'
    clear ek a2'
    walk_at "rz"
    refine dI (λz=>?_) λz=>?_
    ·refine⟨λσ' H'=>∃m',m'<n/\LpI a l m x ok H1 m' σ' H',λ_ _ y=>y,?_⟩
     walk_at "rz"
     refine⟨n-1,by lia,?_⟩
     refine⟨n-1,(by show [some (V.ref a),some (V.int m),some (V.int x),some (V.int ((n:Int)-1))]=_;rw [p0]),rfl,by lia,λj e' hj he'=>?_,rfl⟩
     by_cases cj:j=n-1
     ·subst cj;rw [he] at he';cases he';exact z
     ·exact af j e' (by lia) he'
    ·unfold LpZ
     refine⟨n,rfl,rfl,hk,af,λj e' hj he'=>?_⟩
     have:=so.mono he' he (by lia)
     lia
   ·unfold LpZ
    exact⟨n,rfl,rfl,hk,af,λj e' hj he'=>absurd hj (by lia)⟩
 ·intro σ H1 z
  obtain⟨k,rfl,rfl,hk,af,be⟩:=z
  walk_at "rz"
  refine⟨⟨_,SqL.of l1⟩,?_⟩
  walk_at "rz"
  intro p H2 hp g2 h2
  have l2:=g2 _ _ l1
  walk_at "rz"
  have lo:=so.1.length_eq
  refine⟨by lia,by rw [lm];lia,by rw [lm];lia,λH3 m3=>?_⟩
  have nal:a≠l:=λz=>by rw [z,l1] at h1;cases h1
  have npl:=(av l1 hp).symm
  have tk:∀c xs,H1 c=some (.tup xs)->H3 c=some (.tup xs):=λc xs hc=>m3.old (g2 _ _ hc) (λz=>by rw [z,l1] at hc;cases hc)
  refine q H3 (λc u n1 n2 hc=>m3.old (g2 _ _ hc) n2) ⟨dx,ps.take k++[(p,[m,x])]++ps.drop k,ok.take k++[⟨m,t,x⟩]++ok.drop k,m3.old (g2 _ _ h1) nal,⟨?_,λr hr=>?_⟩,so.put ht hk be af,?_⟩
  ·rw [m3.at_]
   unfold Ad
   simp [Ou,Ov]
  ·rcases List.mem_append.mp hr with hr | hr
   ·rcases List.mem_append.mp hr with hr | hr
    ·exact tk _ _ (hl.2 r (List.mem_of_mem_take hr))
    ·rw [List.mem_singleton.mp hr]
     exact m3.old h2 npl
   ·exact tk _ _ (hl.2 r (List.mem_of_mem_drop hr))
  ·rw [MX,MX,MX,MX,Ou,Ov,ek,<-Ou,<-Ov]
   rfl
end
theorem eL{α:Type}{xs:List α}{x:α}(h:xs[i]? =some x):xs.take (i+1)=xs.take i++[x]:=by
 obtain⟨h1,h2⟩:=List.getElem?_eq_some_iff.mp h
 rw [<-List.take_append_getElem h1,h2]
section
variable{P:OR}{w:OV}{K:N5}{mg:Str->Option OL}{base:Heap}
def fst1(ok:List Kt):V:=match ok with | []=>.non | e::_=>.int e.m
def spLFst(CL:Addr):Sp:=λvs H Q _=>∃(a l:Addr) (kt:List Kt),vs= [.ref a]/\LA CL H a l kt/\∀ok,Srt kt ok->Q (fst1 ok) H
theorem ok_LFst(D:MethAt K CL "first" "ListAgenda.first" fZ ["self"])(JN:Cls K CL)(JI:NoAttr K CL "things"):OkM P w K mg base 1 CL "first" ["self"] (spLFst CL):=by
 refine D.ok JN j2 (λvs H Q E h=>?_) (λf cdv A outer s H vs Q E hr h=>?_)
 ·obtain⟨_,_,_,rfl,_⟩:=h;rfl
 obtain⟨a,l,kt,rfl,⟨dx,ps,ok,h1,hl,so,ek⟩,q⟩:=h
 have q:=q ok so
 have l1:=hl.1
 refine⟨_,(aa (aJ (dv (dH (aj JN JI (pv 0)) (λ_=>rfl))) (ac (az bp)) aG) (ac (az (ar (ar (aj JN JI (pv 0)) ab) ab)))),?_⟩
 walk_at "rz"
 refine⟨_,.inl ⟨_,SqL.of l1,rfl⟩,?_⟩
 cases ok with
 | nil=>
  cases ps with
  | cons _ _=>cases ek
  | nil=>
   exact q
 | cons e r=>
  obtain⟨p,a1,a2',_⟩:=wO hl ek (i:=0) rfl
  have a2:H p=some (.tup [.int e.m,.int e.x]):=a2'
  have a1:atI (ps.map λq=>V.ref q.1) 0=some (.ref p):=a1
  have ne:(!(!(ps.map λq=>V.ref q.1).isEmpty))=false:=by
   cases ps with
   | nil=>cases ek
   | cons _ _=>rfl
  clear ek a2'
  walk_at "rz"
  exact q
def spLTake(CL:Addr):Sp:=λvs H Q _=>∃(a l:Addr) (kt:List Kt) (i:Nat) (e:Kt),vs= [.ref a]/\LA CL H a l kt/\Inc kt/\IsMi kt i e/\kt.length<=900/\∀H' p,FrA a l H H'->LA CL H' a l (kt.eraseIdx i)->H' p=some (.tup [.int e.m,.int e.x])->Q (.ref p) H'
theorem ok_LTake(D:MethAt K CL "take" "ListAgenda.take" gC ["self"])(JN:Cls K CL)(JI:NoAttr K CL "things"):OkM P w K mg base 1 CL "take" ["self"] (spLTake CL):=by
 refine D.ok JN kL (λvs H Q E h=>?_) (λf cdv A outer s H vs Q E hr h=>?_)
 ·obtain⟨_,_,_,_,_,rfl,_⟩:=h;rfl
 obtain⟨a,l,kt,i,e,rfl,⟨dx,ps,ok,h1,hl,so,ek⟩,ic,im,hn,q⟩:=h
 have lo:=so.1.length_eq
 have lp:ps.length=ok.length:=by have:=congrArg List.length ek;rw [MQ,MQ] at this;exact this
 obtain⟨r,rfl,sr⟩:=so.take ic im
 have l1:=hl.1
 refine⟨_,(ac (az (BE Pn Qd Qe xX (aj JN JI (pv 0)) (aB ab)))),?_⟩
 cases ps with
 | nil=>cases ek
 | cons q0 qs=>
  have ek:q0.2::qs.map (·.2)=key2 e::r.map key2:=ek
  injection ek with e1 e2
  simp only [M8] at lp lo
  walk_at "rz"
  refine⟨⟨_,SqL.of l1⟩,?_⟩
  walk_at "rz"
  have nal:a≠l:=λz=>by rw [z,l1] at h1;cases h1
  have tk:∀{H1:Hp} {xs:List V} {o:HO},Mu H l o H1->∀c,H c=some (.tup xs)->H1 c=some (.tup xs):=λm1 c hc=>m1.old hc (λz=>by rw [z,l1] at hc;cases hc)
  refine⟨by lia,_,by rw [M8,MQ];lia,rfl,λH1 m1=>?_⟩
  exact q H1 q0.1 (λc u n1 n2 hc=>m1.old hc n2) ⟨dx,qs,r,m1.old h1 nal,⟨m1.at_,λp hp=>tk m1 _ (hl.2 p (MV _ hp))⟩,sr,e2⟩ (tk m1 _ (by have:=hl.2 q0 MU;rw [e1] at this;exact this))
def spLOrd(CL:Addr):Sp:=λvs H Q _=>∃(a l:Addr) (kt:List Kt),vs= [.ref a]/\LA CL H a l kt/\∀r H' ps' ok,Srt kt ok->H r=none->Same H H'->HL H' r ps'->ps'.map (·.2)=ok.map key2->Q (.ref r) H'
theorem ok_LOrd(D:MethAt K CL "in_order" "ListAgenda.in_order" eI ["self"])(JN:Cls K CL)(JI:NoAttr K CL "things")(J9:mg "list" =none):OkM P w K mg base 1 CL "in_order" ["self"] (spLOrd CL):=by
 refine D.ok JN iZ (λvs H Q E h=>?_) (λf cdv A outer s H vs Q E hr h=>?_)
 ·obtain⟨_,_,_,rfl,_⟩:=h;rfl
 obtain⟨a,l,kt,rfl,⟨dx,ps,ok,h1,hl,so,ek⟩,q⟩:=h
 have l1:=hl.1
 refine⟨_,(ac (az (bK cb J9 (aB (aj JN JI (pv 0)))))),?_⟩
 walk_at "rz"
 intro r H1 hr1 g1 h2
 exact q r H1 ps ok so hr1 g1 ⟨h2,λp hp=>g1 _ _ (hl.2 p hp)⟩ ek
end
def HA(CH:Addr)(H:Hp)(b l:Addr)(tn:Int)(kt:List Kt):Prop:=∃dx ps,H b=some (.ins CH dx [("heap",.ref l),("turn",.int tn)])/\HL H l ps/\(ps.map (·.2)).Perm (kt.map ca)/\HP ps/\∀e∈kt,e.t<=tn
theorem HA.fr(h:HA CH H b l tn kt)(g:∀c u,(c=b\/c=l\/∃xs,u=HO.tup xs)->H c=some u->H' c=some u):HA CH H' b l tn kt:=by
 obtain⟨dx,ps,h1,⟨h2,h3⟩,h4⟩:=h
 exact⟨dx,ps,g _ _ (.inl rfl) h1,⟨g _ _ (.inr (.inl rfl)) h2,λq hq=>g _ _ (.inr (.inr ⟨_,rfl⟩)) (h3 q hq)⟩,h4⟩
theorem HP.nil:HP []:=λi _ h=>absurd h (by simp)
theorem Ib(hp:HP ps)(pm:(ps.map (·.2)).Perm (kt.map ca))(so:Srt kt ok)(h:ok=e::r):∃q r,ps=q::r/\q.2=ca e:=by
 subst h
 have hm:=so.1.mem_iff.mp MU
 cases ps with
 | nil=>have:=pm.length_eq;have:=List.length_pos_of_mem hm;simp at *;lia
 | cons q r'=>
  obtain⟨e0,h0,k0⟩:=List.mem_map.mp (pm.mem_iff.mp (Nr MU))
  refine⟨q,r',rfl,?_⟩
  rcases List.mem_cons.mp (so.1.mem_iff.mpr h0) with z | z
  ·rw [<-z];exact k0.symm
  ·have bf:=(List.pairwise_cons.mp so.2).1 e0 z
   obtain⟨q1,hq1,kq1⟩:=List.mem_map.mp (pm.mem_iff.mpr (Nr hm))
   obtain⟨j,hj⟩:=List.mem_iff_getElem?.mp hq1
   have:=hp.min j (List.getElem?_eq_some_iff.mp hj).1
   have kj:kf (q::r') j=ca e:=by unfold kf;rw [Ni,hj];exact kq1
   have k00:kf (q::r') 0=ca e0:=by rw [k0];rfl
   rw [kj,k00] at this
   unfold le at this
   rw [sN bf] at this;cases this
section
variable{P:OR}{w:OV}{K:N5}{mg:Str->Option OL}{base:Heap}
def spHI(CH:Addr):Sp:=λvs H Q _=>∃(b dx:Addr),vs= [.ref b]/\H b=some (.ins CH dx [])/\∀(l:Addr) (H':Hp),H l=none->(∀c u,c≠b->H c=some u->H' c=some u)->HA CH H' b l 0 []->Q .non H'
theorem ok_HI(D:MakeAt K mg "HeapAgenda" CH "HeapAgenda.__init__" eJ ["self"])(JG:Cls K CH)(JH:NoAttr K CH "heap")(Ke:NoAttr K CH "turn"):OkC P w K mg base 1 "HeapAgenda" CH ["self"] (spHI CH):=by
 refine D.ok i3 (λvs H Q E h=>?_) (λf cdv A outer s H vs Q E hr h=>?_)
 ·obtain⟨_,_,rfl,_⟩:=h;rfl
 obtain⟨a,dx,rfl,ha,q⟩:=h
 refine⟨_,(aa (aD JG JH (pv 0) (aq aL)) (ac (aD JG Ke (pv 0) ab))),?_⟩
 walk_at "rz"
 intro l H1 hl g1 h1
 have a1:=g1 _ _ ha
 walk_at "rz"
 intro H2 m2
 have nl:=(av ha hl).symm
 have a2:=m2.at_
 walk_at "rz"
 intro H3 m3
 exact q l H3 hl (λc u nc hc=>m3.old (m2.old (g1 _ _ hc) nc) nc) ⟨dx,[],m3.at_,⟨m3.old (m2.old h1 nl) nl,λq hq=>absurd hq MT⟩,List.Perm.refl _,HP.nil,λe he=>absurd he MT⟩
def spHPut(CH:Addr):Sp:=λvs H Q _=>∃(b l:Addr) (m x tn:Int) (kt:List Kt),vs= [.ref b,.int m,.int x]/\HA CH H b l tn kt/\kt.length<=900/\∀H',FrA b l H H'->HA CH H' b l (tn+1) (kt++[⟨m,tn+1,x⟩])->Q .non H'
theorem ok_HPut(D:MethAt K CH "put" "HeapAgenda.put" ia ["self","moment","thing"])(JG:Cls K CH)(JH:NoAttr K CH "heap")(Ke:NoAttr K CH "turn")(L4:OkD P w K mg base 2 "rise" ["heap"] yF):OkM P w K mg base 3 CH "put" ["self","moment","thing"] (spHPut CH):=by
 refine D.ok JG lL (λvs H Q E h=>?_) (λf cdv A outer s H vs Q E hr h=>?_)
 ·obtain⟨_,_,_,_,_,_,rfl,_⟩:=h;rfl
 obtain⟨b,l,m,x,tn,kt,rfl,⟨dx,ps,h1,hl,pm,hp,ht⟩,hn,q⟩:=h
 have big:100000<=ON:=by unfold ON;decide
 have lp:ps.length=kt.length:=by have:=pm.length_eq;rw [MQ,MQ] at this;exact this
 have l1:=hl.1
 have nlb:l≠b:=λz=>by rw [z,h1] at l1;cases l1
 have tb:∀c xs,H c=some (.tup xs)->c≠b/\c≠l:=λc xs hc=>⟨λz=>(by rw [z,h1] at hc;cases hc),λz=>(by rw [z,l1] at hc;cases hc)⟩
 refine⟨_,(aa (aD JG Ke (pv 0) (aw aY (aj JG Ke (pv 0)) ab)) (aa (aO (cy (aj JG JH (pv 0)) (ad (bc (pv 1) (aj JG Ke (pv 0)) (pv 2))))) (ac (aO (aH L4 hr rfl (aB (aj JG JH (pv 0)))))))),?_⟩
 walk_at "rz"
 intro H1 m1
 have b1:=m1.at_
 have l2:=m1.old l1 nlb
 walk_at "rz"
 intro p H2 hp2 g2 h2
 have l3:=g2 _ _ l2
 have b2:=g2 _ _ b1
 walk_at "rz"
 refine⟨by rw [MQ];lia,λH3 m3=>?_⟩
 have npl:p≠l:=λz=>by rw [z,m1.old hl.1 nlb] at hp2;cases hp2
 have b3:=m3.old b2 (Ne.symm nlb)
 walk_at "rz"
 have tk:=λc xs hc=>m3.old (g2 _ _ (m1.old hc (tb c xs hc).1)) (tb c xs hc).2
 have hl3:HL H3 l (ps++[(p,[m,tn+1,x])]):=by
  refine⟨by rw [m3.at_,MX];rfl,λr hr=>?_⟩
  rcases List.mem_append.mp hr with hr | hr
  ·exact tk _ _ (hl.2 r hr)
  ·rw [List.mem_singleton.mp hr]
   exact m3.old h2 npl
 refine⟨l,ps++[(p,[m,tn+1,x])],rfl,hl3,by simp,?_,λH4 ps' o4 hl4 pm4 hp4=>?_⟩
 ·have:=RI.snoc (q:=(p,[m,tn+1,x])) hp
  rw [show(ps++[(p,[m,tn+1,x])]).length-1=ps.length by simp]
  exact this
 ·walk_at "rz"
  refine q H4 (λc u n1 n2 hc=>o4 c u n2 (m3.old (g2 _ _ (m1.old hc n1)) n2)) ⟨dx,ps',o4 _ _ (Ne.symm nlb) b3,hl4,?_,hp4,λe he=>?_⟩
  ·have:=pm4.map (λx:It=>x.2)
   rw [MX] at this
   apply this.trans
   rw [MX]
   exact pm.append_right _
  ·rcases List.mem_append.mp he with he | he
   ·have:=ht e he;lia
   ·rw [List.mem_singleton.mp he];exact Int.le_refl _
def spHFst(CH:Addr):Sp:=λvs H Q _=>∃(b l:Addr) (tn:Int) (kt ok:List Kt),vs= [.ref b]/\HA CH H b l tn kt/\Srt kt ok/\Q (fst1 ok) H
theorem ok_HFst(D:MethAt K CH "first" "HeapAgenda.first" gf ["self"])(JG:Cls K CH)(JH:NoAttr K CH "heap"):OkM P w K mg base 1 CH "first" ["self"] (spHFst CH):=by
 refine D.ok JG j3 (λvs H Q E h=>?_) (λf cdv A outer s H vs Q E hr h=>?_)
 ·obtain⟨_,_,_,_,_,rfl,_⟩:=h;rfl
 obtain⟨b,l,tn,kt,ok,rfl,⟨dx,ps,h1,hl,pm,hp,ht⟩,so,q⟩:=h
 have l1:=hl.1
 refine⟨_,(aa (aJ (dv (dH (aj JG JH (pv 0)) (λ_=>rfl))) (ac (az bp)) aG) (ac (az (ar (ar (aj JG JH (pv 0)) ab) ab)))),?_⟩
 walk_at "rz"
 refine⟨_,.inl ⟨_,SqL.of l1,rfl⟩,?_⟩
 cases ok with
 | nil=>
  have e0:=List.nil_perm.mp so.1
  subst e0
  cases ps with
  | cons _ _=>have:=pm.length_eq;cases this
  | nil=>
   exact q
 | cons e r=>
  obtain⟨q0,r0,rfl,hq0⟩:=Ib hp pm so rfl
  have a2:H q0.1=some (.tup [.int e.m,.int e.t,.int e.x]):=by have:=hl.2 q0 MU;rw [hq0] at this;exact this
  rw [Tf (by simp)]
  walk_at "rz"
  exact q
def spHTake(CH:Addr):Sp:=λvs H Q _=>∃(b l:Addr) (tn:Int) (kt:List Kt) (i:Nat) (e:Kt),vs= [.ref b]/\HA CH H b l tn kt/\Inc kt/\IsMi kt i e/\kt.length<=900/\∀H' p,FrA b l H H'->HA CH H' b l tn (kt.eraseIdx i)->H' p=some (.tup [.int e.m,.int e.x])->Q (.ref p) H'
theorem ok_HTake(D:MethAt K CH "take" "HeapAgenda.take" gE ["self"])(JG:Cls K CH)(JH:NoAttr K CH "heap")(L5:OkD P w K mg base 2 "sink" ["heap"] yG):OkM P w K mg base 3 CH "take" ["self"] (spHTake CH):=by
 refine D.ok JG cf (λvs H Q E h=>?_) (λf cdv A outer s H vs Q E hr h=>?_)
 ·obtain⟨_,_,_,_,_,_,rfl,_⟩:=h;rfl
 obtain⟨b,l,tn,kt,i,e,rfl,⟨dx,ps,h1,hl,pm,hp,ht⟩,ic,im,hn,q⟩:=h
 have big:100000<=ON:=by unfold ON;decide
 have lp:ps.length=kt.length:=by have:=pm.length_eq;rw [MQ,MQ] at this;exact this
 obtain⟨q0,r0,e0,hq0,pr⟩:=root hp pm ic im
 have a2:H q0.1=some (.tup [.int e.m,.int e.t,.int e.x]):=by have:=hl.2 q0 (by rw [e0];exact MU);rw [hq0] at this;exact this
 have nb:b≠l:=λz=>by have:=hl.1;rw [<-z,h1] at this;cases this
 have tl:∀c xs,H c=some (.tup xs)->c≠l:=λc xs hc z=>by have:=hl.1;rw [<-z,hc] at this;cases this
 obtain⟨ini,z,ez⟩:∃ini z,ps=ini++[z]:=by
  refine⟨ps.dropLast,ps.getLast (by rw [e0];simp),(List.dropLast_concat_getLast _).symm⟩
 have l1:H l=some (.lst ((ini.map λq=>V.ref q.1)++[.ref z.1])):=by rw [hl.1,ez,MX];rfl
 have at0:atI ((ini.map λq=>V.ref q.1)++[V.ref z.1]) 0=some (.ref q0.1):=by
  have:(ini.map λq=>V.ref q.1)++[V.ref z.1]=(q0::r0).map λq=>V.ref q.1:=by rw [<-e0,ez,MX];rfl
  rw [this];exact BG
 have era:∀e'∈kt.eraseIdx i,e'.t<=tn:=λe' he'=>ht e' (List.mem_of_mem_eraseIdx he')
 refine⟨_,(aa (cr (ar (aj JG JH (pv 0)) ab) (bF 3 rfl (aE (aX 1 cf) (aE (aX 2 cf) (aE (aX 3 cf) bq))))) (aa (aP 4 cf (xD Pn Qd Qe uJ (aj JG JH (pv 0)))) (aa (aJ (dH (aj JG JH (pv 0)) (λ_=>rfl)) (aa (cr (pv 4) (nG (aj JG JH (pv 0)) ab iG)) (ac (aO (aH L5 hr rfl (aB (aj JG JH (pv 0))))))) aG) (ac (az (ad (aA (pv 1) (pv 3)))))))),?_⟩
 walk_at "rz"
 refine⟨⟨_,SqL.of l1⟩,?_⟩
 walk_at "rz"
 refine⟨_,_,rfl,λH1 m1=>?_⟩
 have b1:=m1.old h1 nb
 have l2:=m1.at_
 have tk1:=λc xs hc=>m1.old hc (tl c xs hc)
 clear l1 at0 a2
 walk_at "rz"
 refine⟨_,.inl ⟨_,SqL.of l2,rfl⟩,?_⟩
 cases ini with
 | nil=>
  rw [Tf (by simp)]
  walk_at "rz"
  intro p H2 hp2 g2 h2
  have er:r0= []:=by
   rw [ez] at e0
   injection e0 with x1 x2
   exact x2.symm
  subst er
  exact q H2 p (λc u n1 n2 hc=>g2 _ _ (m1.old hc n2)) ⟨dx,[],g2 _ _ b1,⟨g2 _ _ l2,λq hq=>absurd hq MT⟩,pr,HP.nil,era⟩ h2
 | cons y ini'=>
  have ey:q0=y/\r0=ini'++[z]:=by
   rw [ez] at e0
   injection e0 with x1 x2
   exact⟨x1.symm,x2.symm⟩
  obtain⟨rfl,rfl⟩:=ey
  rw [Th (by simp)]
  walk_at "rz"
  refine⟨0,sM (i:=0) (Oz _),λH2 m2=>?_⟩
  have b2:=m2.old b1 nb
  have l3:=m2.at_
  have tk2:=λc xs hc=>m2.old (tk1 c xs hc) (tl c xs hc)
  walk_at "rz"
  have hpi:HP (q0::ini'):=by
   have:=hp.init
   rw [ez,List.dropLast_concat] at this
   exact this
  have hm:∀r∈z::ini',r∈ps:=λr hr=>by
   rw [ez]
   rcases List.mem_cons.mp hr with y | y
   ·rw [y];simp
   ·simp [y]
  refine⟨l,z::ini',rfl,⟨l3,λr hr=>tk2 _ _ (hl.2 r (hm r hr))⟩,by simp,SI.root hpi,λH3 ps' o3 hl3 pm3 hp3=>?_⟩
  intro p H4 hp4 g4 h4
  refine q H4 p (λc u n1 n2 hc=>g4 _ _ (o3 c u n2 (m2.old (m1.old hc n2) n2))) ⟨dx,ps',g4 _ _ (o3 _ _ nb b2),hl3.same g4,?_,hp3,era⟩ h4
  refine((pm3.map (λx:It=>x.2)).trans ?_).trans pr
  rw [Ng,MX]
  exact List.perm_append_comm (l₁:=[z.2])
theorem yI{α β:Type}{f:α->β}:∀{m:List β} {l:List α},m.Perm (l.map f)->∃l':List α,l'.Perm l/\l'.map f=m:=by
 intro m l p
 generalize hx:l.map f=x at p
 induction p generalizing l with
 | nil=>exact⟨[],by rw [List.map_eq_nil_iff.mp hx],rfl⟩
 | cons a _ ih=>
  cases l with
  | nil=>cases hx
  | cons b l=>
   rw [Ng] at hx
   injection hx with h1 h2
   obtain⟨l',p',e⟩:=ih h2
   exact⟨b::l',p'.cons b,by rw [Ng,e,h1]⟩
 | swap a b r=>
  cases l with
  | nil=>cases hx
  | cons c l=>
   cases l with
   | nil=>simp at hx
   | cons d l=>
    simp only [Ng] at hx
    injection hx with h1 h2
    injection h2 with h2 h3
    exact⟨d::c::l,List.Perm.swap _ _ _,by simp only [Ng];rw [h1,h2,h3]⟩
 | trans _ _ ih1 ih2=>
  obtain⟨l2,p2,e2⟩:=ih2 hx
  obtain⟨l1,p1,e1⟩:=ih1 e2
  exact⟨l1,p1.trans p2,e1⟩
theorem FY{a b:Kt}(h:_T.aR (ca a) (ca b)=true)(n:a.t≠b.t):bef a b:=by
 unfold ca at h
 rw [_T.bJ] at h
 by_cases c:a.m=b.m
 ·rw [Th c,_T.bJ,Tf n] at h
  exact .inr ⟨c,of_decide_eq_true h⟩
 ·rw [Tf c] at h
  exact .inl (of_decide_eq_true h)
theorem FZ{kt:List Kt}{ks:List (List Int)}(ic:Inc kt)(p:ks.Perm (kt.map ca))(h:ks.Pairwise λa b=>_T.aR a b=true):∃ok,Srt kt ok/\ok.map ca=ks:=by
 obtain⟨ok,po,e⟩:=yI p
 refine⟨ok,⟨po,?_⟩,e⟩
 subst e
 rw [NZ] at h
 have d:ok.Pairwise λa b=>a.t≠b.t:=(po.pairwise_iff (λ{a b} h=>Ne.symm h)).mpr (ic.imp λh=>Int.ne_of_lt h)
 exact(h.and d).imp λx=>FY x.1 x.2
end
theorem Id:SN<=900:=by decide
section
variable{P:OR}{w:OV}{K:N5}{mg:Str->Option OL}{base:Heap}
def OdP(ks:List (List Int))(n:Nat)(i:Nat)(ys:List V)(σ1:St)(H':Hp):Prop:=∃ps':List It,ys=ps'.map (λq=>V.ref q.1)/\(∀q∈ps',H' q.1=some (.tup (q.2.map V.int)))/\ps'.map (·.2)=ks.take i/\σ1.length=n
theorem OdP.put{ks:List (List Int)}{n i:Nat}{ys:List V}{σ1 σ2:St}{H1 H4 H5:Hp}{D p:Addr}{k:List Int}(h:OdP ks n i ys σ1 H1)(hD:H1 D=some (.lst ys))(g:Same H1 H4)(mu:Mu H4 D (.lst (ys++[.ref p])) H5)(hp:H4 p=some (.tup (k.map V.int)))(ek:ks[i]? =some k)(hs:σ2.length=n):OdP ks n (i+1) (ys++[.ref p]) σ2 H5:=by
 obtain⟨ps',rfl,h2,h3,_⟩:=h
 have np:p≠D:=λz=>by rw [z,g _ _ hD] at hp;cases hp
 refine⟨ps'++[(p,k)],by rw [MX];rfl,λq hq=>?_,by rw [MX,h3,eL ek];rfl,hs⟩
 rcases List.mem_append.mp hq with hq | hq
 ·exact mu.old (g _ _ (h2 q hq)) (λz=>by have:=h2 q hq;rw [z,hD] at this;cases this)
 ·rw [List.mem_singleton.mp hq];exact mu.old hp np
def spHOrd(CH:Addr):Sp:=λvs H Q _=>∃(b l:Addr) (tn:Int) (kt:List Kt),vs= [.ref b]/\HA CH H b l tn kt/\Inc kt/\kt.length<SN/\∀r H' ps' ok,Srt kt ok->H r=none->Same H H'->HL H' r ps'->ps'.map (·.2)=ok.map key2->Q (.ref r) H'
theorem ok_HOrd{CH:Addr}(D:MethAt K CH "in_order" "HeapAgenda.in_order" eK ["self"])(JG:Cls K CH)(JH:NoAttr K CH "heap")(KQ:mg "sorted" =none):OkM P w K mg base 1 CH "in_order" ["self"] (spHOrd CH):=by
 refine D.ok JG i7 (λvs H Q E h=>?_) (λf cdv A outer s H vs Q E hr h=>?_)
 ·obtain⟨_,_,_,_,rfl,_⟩:=h;rfl
 obtain⟨b,l,tn,kt,rfl,⟨dx,ps,h1,hl,pm,hp,ht⟩,ic,h64,q⟩:=h
 have big:100000<=ON:=by unfold ON;decide
 have snh:=Id
 have lp:ps.length=kt.length:=by have:=pm.length_eq;rw [MQ,MQ] at this;exact this
 have l1:=hl.1
 have l3:∀r∈ps,r.2.length=3:=λr hr=>by
  obtain⟨e,_,he⟩:=List.mem_map.mp (pm.mem_iff.mp (Nr (f:=λx:It=>x.2) hr))
  rw [<-he];rfl
 have nd:ps.Pairwise λa b=>a.2≠b.2:=by
  have d:(kt.map ca).Pairwise λa b=>a≠b:=by
   rw [NZ]
   exact ic.imp λ{a b} h z=>by rw [sO z] at h;lia
  have:=(pm.pairwise_iff (λ{a b} h=>Ne.symm h)).mpr d
  rwa [NZ] at this
 refine⟨_,(ac (az (cE 3 ["moment","turn","thing"] [] (bM (fM (kB rfl) KQ (aB (aj JG JH (pv 0))))) (λn _ _ _ _=>(bF 3 rfl (aE (cO 0 n) (aE (cO 1 n) (aE (cO 2 n) bq))))) (λ_ _ _ _=>bv) (λ_ _ _ _=>(ad (aA (pv 0) (pv 2))))))),?_⟩
 walk_at "rz"
 refine bA ?_
 simp only [cF]
 walk_at "rz"
 refine⟨ps,rfl,3,hl.2,by decide,l3,nd,by lia,λS H1 qs hS g1 hS1 pq po=>?_⟩
 obtain⟨ok,so,eo⟩:=FZ ic ((pq.map (λx:It=>x.2)).trans pm) (by rw [NZ];exact po)
 have lo:ok.length=kt.length:=so.1.length_eq
 have hlS:HL H1 S qs:=⟨hS1,λr hr=>g1 _ _ (hl.2 r (pq.mem_iff.mp hr))⟩
 have lq:=pq.length_eq
 clear l1
 walk_at "rz"
 refine⟨⟨_,SqL.of hS1⟩,jJ hS1 (by rw [MQ,lq];lia) (OdP (ok.map key2) 3) (λH' _=>⟨[],rfl,λq hq=>absurd hq MT,rfl,rfl⟩) ?_ ?_⟩
 ·rintro D i x ys σ1 H' hx at1 pv
  have il:i<ok.length:=by have:=(List.getElem?_eq_some_iff.mp hx).1;rw [MQ,lq] at this;lia
  obtain⟨e,he⟩:∃e,ok[i]? =some e:=⟨_,MR il⟩
  obtain⟨p,p1,p2',p3⟩:=wO hlS eo.symm he
  rw [M4,p3] at hx
  cases hx
  have p2:H' p=some (.tup [.int e.m,.int e.t,.int e.x]):=at1.same _ _ p2'
  obtain⟨v0,v1,v2,rfl⟩:∃v0 v1 v2,σ1= [v0,v1,v2]:=by
   obtain⟨_,_,_,_,h⟩:=pv
   match σ1,h with
   | [v0,v1,v2],_=>exact⟨v0,v1,v2,rfl⟩
  clear p2' p1 p3 hS1 eo
  walk_at "rz"
  intro p5 H4 hp5 g4 h4
  exact at1.put g4 λH5 mu=>pv.put (k:=key2 e) at1.lst g4 mu h4 (by rw [M4,he];rfl) rfl
 ·rintro D ys σ1 H' hD g2 hy hle ⟨ps',rfl,h2,h3,_⟩
  rw [MQ,lq,lp,<-lo,Nm (by rw [MQ];exact Nat.le_refl _)] at h3
  exact q D H' ps' ok so (g1.free hD) (g1.trans g2) ⟨hy,h2⟩ h3
end
end _K.Ag
namespace _K
open PySem _L
end _K
namespace _K.Ag
open PySem _L
theorem FrA.g{a l:Addr}{H H':Hp}(f:FrA a l H H'):FrG [a,l] H H':=λc u n hc=>f c u (λz=>n (by rw [z];simp)) (λz=>n (by rw [z];simp)) hc
def prO(e:Kt):Int×Int:=(e.m,e.x)
def AO(CL CH:Addr)(H:Hp)(c:Bool)(a l:Addr)(O:List (Int×Int)):Prop:=∃kt ok,((c=true/\LA CL H a l kt)\/(c=false/\∃tn,HA CH H a l tn kt))/\Inc kt/\Srt kt ok/\ok.map prO=O
def insO(O:List (Int×Int))(m x:Int):List (Int×Int):=O.takeWhile (λp=>decide (p.1<=m))++(m,x)::O.dropWhile (λp=>decide (p.1<=m))
theorem AO.ins(h:AO CL CH H c a l O):(∃dx fs,H a=some (.ins (if c then CL else CH) dx fs))/\∃xs,H l=some (.lst xs):=by
 obtain⟨kt,ok,⟨rfl,dx,ps,ok2,h1,h3,_⟩ | ⟨rfl,tn,dx,ps,h1,h3,_⟩,h2⟩:=h
 ·exact⟨⟨dx,_,h1⟩,_,h3.1⟩
 ·exact⟨⟨dx,_,h1⟩,_,h3.1⟩
theorem AO.put(h:(c=true/\LA CL H a l (kt++[⟨m,t,x⟩]))\/(c=false/\∃tn,HA CH H a l tn (kt++[⟨m,t,x⟩])))(ic:Inc kt)(so:Srt kt ok)(ht:∀e∈kt,e.t<t):AO CL CH H c a l (insO (ok.map prO) m x):=by
 have e0:=List.takeWhile_append_dropWhile (p:=λe:Kt=>decide (e.m<=m)) (l:=ok)
 have e1:ok.take (ok.takeWhile λe=>decide (e.m<=m)).length=ok.takeWhile λe=>decide (e.m<=m):=by
  conv=>lhs;rw [<-e0]
  rw [e0]
  have:=List.take_left (l₁:=ok.takeWhile λe=>decide (e.m<=m)) (l₂:=ok.dropWhile λe=>decide (e.m<=m))
  rwa [e0] at this
 have e2:ok.drop (ok.takeWhile λe=>decide (e.m<=m)).length=ok.dropWhile λe=>decide (e.m<=m):=by
  have:=List.drop_left (l₁:=ok.takeWhile λe=>decide (e.m<=m)) (l₂:=ok.dropWhile λe=>decide (e.m<=m))
  rwa [e0] at this
 have kl:(ok.takeWhile λe=>decide (e.m<=m)).length<=ok.length:=by
  have:=congrArg List.length e0
  rw [MW] at this;lia
 have so':=so.put (e:=⟨m,t,x⟩) (k:=(ok.takeWhile λe=>decide (e.m<=m)).length) ht kl (λj e hj he=>?_) (λj e hj he=>?_)
 ·refine⟨_,_,h,ic.snoc ht,so',?_⟩
  rw [e1,e2]
  unfold insO
  rw [List.takeWhile_map,List.dropWhile_map,MX,MX,Nj]
  rfl
 ·have hm:e∈ok.takeWhile λe=>decide (e.m<=m):=by
   rw [<-e1]
   exact Nc (i:=j) (by rw [List.getElem?_take_of_lt hj];exact he)
  have:=List.all_takeWhile (p:=λe:Kt=>decide (e.m<=m)) (l:=ok)
  rw [Oj] at this
  exact of_decide_eq_true (this e hm)
 ·have hlt:=(List.getElem?_eq_some_iff.mp he).1
  have k1:(ok.takeWhile λe=>decide (e.m<=m)).length<ok.length:=by lia
  obtain⟨e',he'⟩:∃e',ok[(ok.takeWhile λe=>decide (e.m<=m)).length]? =some e':=⟨_,MR k1⟩
  have h1:=so.mono he' he hj
  have h2:¬e'.m<=m:=λz=>by
   have hd:(ok.dropWhile λe=>decide (e.m<=m))[0]? =some e':=by rw [<-e2,NS];exact he'
   cases w:ok.dropWhile λe=>decide (e.m<=m) with
   | nil=>rw [w] at hd;cases hd
   | cons f r=>
    rw [w] at hd
    cases hd
    have:=List.head?_dropWhile_not (λe:Kt=>decide (e.m<=m)) ok
    rw [w] at this
    simp at this
    lia
  show m<e.m
  lia
theorem LA.ao(h:LA CL H a l []):AO CL CH H true a l []:=⟨[],[],.inl ⟨rfl,h⟩,.nil,pF,rfl⟩
theorem HA.ao(h:HA CH H a l tn []):AO CL CH H false a l []:=⟨[],[],.inr ⟨rfl,tn,h⟩,.nil,pF,rfl⟩
theorem srt_mi(ic:Inc kt)(s:Srt kt (e::r)):∃i,IsMi kt i e:=by
 have hm:=s.1.mem_iff.mp MU
 obtain⟨i,hi⟩:=List.mem_iff_getElem?.mp hm
 have pw:=List.pairwise_cons.mp s.2
 have all:∀e'∈kt,e'=e\/bef e e':=λe' he'=>by
  rcases List.mem_cons.mp (s.1.mem_iff.mpr he') with z | z
  ·exact .inl z
  ·exact .inr (pw.1 e' z)
 refine⟨i,hi,λj e' hj=>?_,λj e' hji hj=>?_⟩
 ·rcases all e' (Nc hj) with z | z
  ·rw [z];exact Int.le_refl _
  ·unfold bef at z;lia
 ·have t:=ic.at hj hi hji
  rcases all e' (Nc hj) with z | z
  ·rw [z] at t;lia
  ·unfold bef at z;lia
end _K.Ag
namespace _K.Wo
open PySem _L
inductive Op | add | sub | mul
def Op.sg:Op->Str | .add=>"+" | .sub=>"-" | .mul=>"*"
def Op.ap:Op->Int->Int->Int | .add,a,b=>a+b | .sub,a,b=>a-b | .mul,a,b=>a*b
inductive Tr | name (x:Str) | num (n:Int) | now | own | bin (o:Op) (l r:Tr)
noncomputable def Tr.toD:Tr->OQ
 | .name x=>.tuple [.str "name",.str x]
 | .num n=>.tuple [.str "number",.int n]
 | .now=>.tuple [.str "now"]
 | .own=>.tuple [.str "own"]
 | .bin o l r=>.tuple [.str o.sg,l.toD,r.toD]
def Tr.depth:Tr->Nat
 | .bin _ l r=>max l.depth r.depth+1
 | _=>0
def Bd(n:Int):Prop:= -(2^64)<n/\n<2^64
def Tr.good:Tr->Prop
 | .name x=>(OQ.str x).canLay0=true
 | .num n=>Bd n
 | .bin _ l r=>l.good/\r.good
 | _=>True
inductive Res | val (n:Int) | unk (x:Str) | big
noncomputable def Res.toD:Res->OQ
 | .val n=>.tuple [.int n,.none]
 | .unk x=>.tuple [.none,.tuple [.str "unknown",.str x]]
 | .big=>.tuple [.none,.tuple [.str "big"]]
def bnd(n:Int):Res:=if 1000000<(if n<0 then -n else n) then .big else .val n
def look(kvs:List (Key×V))(x:Str):Res:=match bL kvs (.inr x) with
 | some (.int n)=>.val n
 | _=>.unk x
def ev(kvs:List (Key×V))(now own:Int):Tr->Res
 | .name x=>look kvs x
 | .num n=>.val n
 | .now=>.val now
 | .own=>.val own
 | .bin o l r=>match ev kvs now own l with
  | .val a=>match ev kvs now own r with
   | .val b=>bnd (o.ap a b)
   | .unk y=>.unk y
   | .big=>.big
  | .unk y=>.unk y
  | .big=>.big
def sP(kvs:List (Key×V)):Prop:=∀kv∈kvs,∃n,kv.2= .int n/\Bd n
theorem Dc{kvs:List (Key×V)}{x:Str}{n:Int}(h:sP kvs)(e:look kvs x= .val n):Bd n:=by
 unfold look at e
 split at e
 ·rename_i m q
  cases e
  obtain⟨kv,hm,e2⟩:=rG q
  obtain⟨m',e3,b⟩:=h kv hm
  rw [e3] at e2
  cases e2
  exact b
 ·cases e
theorem F0{m n:Int}(e:bnd m= .val n):Bd n:=by
 unfold bnd at e
 by_cases h:1000000<(if m<0 then -m else m)
 ·rw [Th h] at e;cases e
 ·rw [Tf h] at e;cases e
  unfold Bd
  split at h<;>lia
theorem Ie{kvs:List (Key×V)}{now own:Int}(h:sP kvs)(h1:Bd now)(h2:Bd own):∀{t:Tr} {n:Int},t.good->ev kvs now own t= .val n->Bd n
 | .name x,n,_,e=>Dc h e
 | .num m,n,g,e=>by cases e;exact g
 | .now,n,_,e=>by cases e;exact h1
 | .own,n,_,e=>by cases e;exact h2
 | .bin o l r,n,g,e=>by
  unfold ev at e
  split at e
  ·split at e
   ·exact F0 e
   ·cases e
   ·cases e
  ·cases e
  ·cases e
section
variable{P:OR}{w:OV}{K:N5}{mg:Str->Option OL}{base:Heap}
def yJ:Sp:=λvs H Q _=>∃(o:Op) (a b:Int),vs= [.str o.sg,.int a,.int b]/\Bd a/\Q (.int (o.ap a b)) H
theorem ok_reck(D:DefAt K mg "reckoned" oB ["sign","left","right"]):OkD P w K mg base 1 "reckoned" ["sign","left","right"] yJ:=by
 refine D.ok um (λvs H Q E h=>?_) (λf cdv A outer s H vs Q E hr h=>?_)
 ·obtain⟨o,a,b,rfl,_⟩:=h;rfl
 obtain⟨o,a,b,rfl,hb,q⟩:=h
 refine⟨_,(aa (aJ (aM bi (pv 0) ae) (ac (az (aw aY (pv 1) (pv 2)))) aG) (aa (aJ (aM bi (pv 0) ae) (ac (az (aw cC (pv 1) (pv 2)))) aG) (ac (az (aw eS (pv 1) (pv 2)))))),?_⟩
 cases o<;>simp only [Op.sg,Op.ap] at q⊢<;>walk_at "rd"
 unfold Bd at hb;lia
def BX(K:N5):Sp:=λvs H Q _=>∃n:Int,vs= [.int n]/\∀r H',Same H H'->Rp K H' r (bnd n).toD->Q r H'
theorem kN{K:N5}{H:Hp}{p:Addr}{n:Int}(h:H p=some (.tup [.int n,.non])):Rp K H (.ref p) (Res.val n).toD:=.tup h (.cons (.int n) (.cons .non .nil))
theorem F1{K:N5}{H:Hp}{p r:Addr}(h:H p=some (.tup [.non,.ref r]))(hr:H r=some (.tup [.str "big"])):Rp K H (.ref p) Res.big.toD:=.tup h (.cons .non (.cons (.tup hr (.cons (.str _) .nil)) .nil))
theorem F3{K:N5}{H:Hp}{p r:Addr}{x:Str}(h:H p=some (.tup [.non,.ref r]))(hr:H r=some (.tup [.str "unknown",.str x])):Rp K H (.ref p) (Res.unk x).toD:=.tup h (.cons .non (.cons (.tup hr (.cons (.str _) (.cons (.str _) .nil))) .nil))
theorem ok_bounded(D:DefAt K mg "bounded" qk ["n"]){tk:Tok}(ML:mg "MOST_WORTH" =some (.int 1000000 tk))(Mi:mg "abs" =none):OkD P w K mg base 1 "bounded" ["n"] (BX K):=by
 refine D.ok wL (λvs H Q E h=>?_) (λf cdv A outer s H vs Q E hr h=>?_)
 ·obtain⟨n,rfl,_⟩:=h;rfl
 obtain⟨n,rfl,q⟩:=h
 refine⟨_,(aa (aJ (aM gH (fM zI Mi (aB (pv 0))) (fC (v:=.int 1000000) rfl ML ⟨_,rfl⟩)) (ac (az (ad (aA bp (ad (aB ae)))))) aG) (ac (az (ad (aA (pv 0) bp))))),?_⟩
 walk_at "rd"
 refine dI (λc=>?_) (λc=>?_)
 ·intro p H1 hp g1 h1 r H2 hr g2 h2
  exact q _ _ (g1.trans g2) (by rw [bnd,Th c];exact F1 h2 (g2 _ _ h1))
 ·intro p H1 hp g1 h1
  exact q _ _ g1 (by rw [bnd,Tf c];exact kN h1)
def yK(K:N5):Sp:=λvs H Q _=>∃(x:Str) (d:Addr) (kvs:List (Key×V)),vs= [.str x,.ref d]/\H d=some (.dK kvs)/\sP kvs/\∀r H',Same H H'->Rp K H' r (look kvs x).toD->Q r H'
theorem yL{kvs:List (Key×V)}{x:Str}{v:V}(hk:sP kvs)(e:bL kvs (.inr x)=some v):∃n,v= .int n/\look kvs x= .val n:=by
 obtain⟨kv,hm,e2⟩:=rG e
 obtain⟨n,e3,_⟩:=hk kv hm
 rw [e3] at e2
 subst e2
 exact⟨n,rfl,by unfold look;rw [e]⟩
theorem ok_name(D:DefAt K mg "worth_of_name" iR ["name","values"]):OkD P w K mg base 1 "worth_of_name" ["name","values"] (yK K):=by
 refine D.ok mP (λvs H Q E h=>?_) (λf cdv A outer s H vs Q E hr h=>?_)
 ·obtain⟨x,d,kvs,rfl,_⟩:=h;rfl
 obtain⟨x,d,kvs,rfl,hd,hk,q⟩:=h
 have hu:=cn hr
 refine⟨_,(aa (aJ (xo (Cr hu (pv 0) (pv 1)) (by with_unfolding_all rfl)) (ac (az (ad (aA (dJ hu (pv 1) (pv 0) (λ_ _=>rfl)) bp)))) aG) (ac (az (ad (aA bp (ad (aA ae (pv 0)))))))),?_⟩
 walk_at "rd"
 cases e:bL kvs (Sum.inr x) with
 | some v=>
  obtain⟨n,rfl,el⟩:=yL hk e
  exact Ji ⟨_,rfl,λp H1 hp g1 h1=>q _ _ g1 (by rw [el];exact kN h1)⟩
 | none=>
  refine Jh λp H1 hp g1 h1 r H2 hr g2 h2=>?_
  exact q _ _ (g1.trans g2) (by unfold look;rw [e];exact F3 h2 (g2 _ _ h1))
def spW(K:N5)(n:Nat):Sp:=λvs H Q _=>∃(v:V) (d:Addr) (kvs:List (Key×V)) (now own:Int) (t:Tr),vs= [v,.ref d,.int now,.int own]/\Rp K H v t.toD/\t.depth<n/\t.good/\H d=some (.dK kvs)/\sP kvs/\Bd now/\Bd own/\
 ∀r H',Same H H'->Rp K H' r (ev kvs now own t).toD->Q r H'
theorem qr{K:N5}{H:Hp}{v:V}{r:Res}(h:Rp K H v r.toD):(∃n a,r= .val n/\v= .ref a/\H a=some (.tup [.int n,.non]))\/((∀n,r≠.val n)/\∃a b,v= .ref a/\H a=some (.tup [.non,.ref b])/\Rp K H (.ref b) (match r.toD with | .tuple [_,e]=>e | _=>.none)):=by
 cases r with
 | val n=>
  obtain⟨a,x,y,rfl,ha,hx,hy⟩:=Rp.tup2 h
  cases hx.int_inv
  cases hy.non_inv
  exact .inl ⟨n,a,rfl,rfl,ha⟩
 | unk z=>
  obtain⟨a,x,y,rfl,ha,hx,hy⟩:=Rp.tup2 h
  cases hx.non_inv
  obtain⟨b,xs,rfl,hb,r⟩:=hy.tup_inv
  exact .inr ⟨λn=>by simp,a,b,rfl,ha,.tup hb r⟩
 | big=>
  obtain⟨a,x,y,rfl,ha,hx,hy⟩:=Rp.tup2 h
  cases hx.non_inv
  obtain⟨b,xs,rfl,hb,r⟩:=hy.tup_inv
  exact .inr ⟨λn=>by simp,a,b,rfl,ha,.tup hb r⟩
theorem ok_worth(D:DefAt K mg "worth" u0 ["e","values","now","own"])(KU:OkD P w K mg base 1 "worth_of_name" ["name","values"] (yK K))(Lo:OkD P w K mg base 1 "reckoned" ["sign","left","right"] yJ)
 (Lu:OkD P w K mg base 1 "bounded" ["n"] (BX K)):∀n:Nat,OkD P w K mg base (n+1) "worth" ["e","values","now","own"] (spW K n)
 | 0=>D.never _ λvs H Q E h=>by obtain⟨_,_,_,_,_,_,_,_,h,_⟩:=h;lia
 | n+1=>by
  have Lq:=ok_worth D KU Lo Lu n
  refine D.ok jM (λvs H Q E h=>?_) (λf cdv A outer s H vs Q E hr h=>?_)
  ·obtain⟨_,_,_,_,_,_,rfl,_⟩:=h;rfl
  obtain⟨v,d,kvs,now,own,t,rfl,hv,hn,hg,hd,hk,b1,b2,q⟩:=h
  refine⟨_,(aa (aP 4 jM (ar (pv 0) ab)) (aa (aJ (aM bi (pv 4) ae) (ac (az (ad (aA (ar (pv 0) ab) bp)))) aG) (aa (aJ (aM bi (pv 4) ae) (ac (az (aH KU hr rfl (aA (ar (pv 0) ab) (pv 1))))) aG) (aa (aJ (aM bi (pv 4) ae) (ac (az (ad (aA (pv 2) bp)))) aG) (aa (aJ (aM bi (pv 4) ae) (ac (az (ad (aA (pv 3) bp)))) aG) (aa (aP 5 jM (aH Lq hr rfl (aU (ar (pv 0) ab) (pv 1) (pv 2) (pv 3)))) (aa (aJ (aM fD (ar (pv 5) ab) bp) (ac (az (pv 5))) aG) (aa (aP 6 jM (aH Lq hr rfl (aU (ar (pv 0) ab) (pv 1) (pv 2) (pv 3)))) (aa (aJ (aM fD (ar (pv 6) ab) bp) (ac (az (pv 6))) aG) (ac (az (aH Lu hr rfl (aB (aH Lo hr rfl (bc (pv 4) (ar (pv 5) ab) (ar (pv 6) ab)))))))))))))))),?_⟩
  cases t with
  | num m=>
   obtain⟨a,x,y,rfl,ha,hx,hy⟩:=Rp.tup2 hv
   cases hx.str_inv
   cases hy.int_inv
   walk_at "rd"
   exact λp H1 hp g1 h1=>q _ _ g1 (kN h1)
  | name z=>
   obtain⟨a,x,y,rfl,ha,hx,hy⟩:=Rp.tup2 hv
   cases hx.str_inv
   cases hy.str_inv
   walk_at "rd"
   exact⟨z,d,kvs,rfl,hd,hk,q⟩
  | now=>
   obtain⟨a,x,rfl,ha,hx⟩:=Rp.tup1 hv
   cases hx.str_inv
   walk_at "rd"
   exact λp H1 hp g1 h1=>q _ _ g1 (kN h1)
  | own=>
   obtain⟨a,x,rfl,ha,hx⟩:=Rp.tup1 hv
   cases hx.str_inv
   walk_at "rd"
   exact λp H1 hp g1 h1=>q _ _ g1 (kN h1)
  | bin o l r=>
   obtain⟨a,x,y,z,rfl,ha,hx,hy,hz⟩:=Rp.tup3 hv
   cases hx.str_inv
   have so:∀c:String,(c= "number"\/c= "name"\/c= "now"\/c= "own")->(o.sg=Str.ofString c)=False:=by
    intro c hc
    cases o<;>rcases hc with rfl | rfl | rfl | rfl<;>simp only [Op.sg,km,String.reduceEq]
   have s1:=so "number" (by simp)
   have s2:=so "name" (by simp)
   have s3:=so "now" (by simp)
   have s4:=so "own" (by simp)
   clear so
   walk_at "rd"
   have hn':max l.depth r.depth+1<n+1:=hn
   refine⟨y,d,kvs,now,own,l,rfl,hy,by lia,hg.1,hd,hk,b1,b2,λr1 H1 g1 e1=>?_⟩
   have ha1:=g1 _ _ ha
   have hd1:=g1 _ _ hd
   rcases qr e1 with ⟨n1,p1,el,rfl,h1⟩ | ⟨el,p1,p2,rfl,h1,_⟩
   ·walk_at "rd"
    refine⟨z,d,kvs,now,own,r,rfl,hz.mono g1,by lia,hg.2,hd1,hk,b1,b2,λr2 H2 g2 e2=>?_⟩
    have h12:=g2 _ _ h1
    rcases qr e2 with ⟨n2,p2,er,rfl,h2⟩ | ⟨er,p2,p3,rfl,h2,_⟩
    ·walk_at "rd"
     refine⟨o,n1,n2,rfl,Ie hk b1 b2 hg.1 el,_,rfl,λr3 H3 g3 e3=>q _ _ ((g1.trans g2).trans g3) ?_⟩
     rw [show ev kvs now own (.bin o l r)=bnd (o.ap n1 n2) by
      show(match ev kvs now own l with | .val a=>_ | .unk y=>_ | .big=>_)=_
      rw [el]
      show(match ev kvs now own r with | .val a=>_ | .unk y=>_ | .big=>_)=_
      rw [er]]
     exact e3
    ·walk_at "rd"
     refine q _ _ (g1.trans g2) ?_
     rw [show ev kvs now own (.bin o l r)=ev kvs now own r by
      show(match ev kvs now own l with | .val a=>_ | .unk y=>_ | .big=>_)=_
      rw [el]
      cases e3:ev kvs now own r with
      | val m=>exact absurd e3 (er m)
      | unk y=>rfl
      | big=>rfl]
     exact e2
   ·walk_at "rd"
    refine q _ _ g1 ?_
    rw [show ev kvs now own (.bin o l r)=ev kvs now own l by
     show(match ev kvs now own l with | .val a=>_ | .unk y=>_ | .big=>_)=_
     cases e3:ev kvs now own l with
     | val m=>exact absurd e3 (el m)
     | unk y=>rfl
     | big=>rfl]
    exact e1
end
end _K.Wo
namespace _K
open PySem _L
abbrev Tr:=Wo.Tr
inductive Sm where
 | pl (w:Str) (k:Int) (ns:List Str) (es:List Tr)
 | fi (k:Int) (sg:Str) (a b:Tr) (x y:List Sm)
 | wh (k:Int) (sg:Str) (a b:Tr) (x:List Sm)
def trD(t:Tr):OQ:=Wo.Tr.toD t
def plD(w:Str)(ns:List Str)(es:List Tr):List OQ:=if w= "start" then ns.map .str++[.tuple (es.map trD)] else ns.map .str++es.map trD
mutual
def smD:Sm->OQ
 | .pl w k ns es=>.tuple (.str w::.int k::plD w ns es)
 | .fi k sg a b x y=>.tuple [.str "if",.int k,.str sg,trD a,trD b,.tuple (bdD x),.tuple (bdD y)]
 | .wh k sg a b x=>.tuple [.str "while",.int k,.str sg,trD a,trD b,.tuple (bdD x)]
def bdD:List Sm->List OQ
 | []=>[]
 | s::r=>smD s::bdD r
end
def Sm.k:Sm->Int
 | .pl _ k _ _=>k
 | .fi k _ _ _ _ _=>k
 | .wh k _ _ _ _=>k
noncomputable def Sm.w:Sm->Str
 | .pl w _ _ _=>w
 | .fi _ _ _ _ _ _=>"if"
 | .wh _ _ _ _ _=>"while"
noncomputable def Sm.es:Sm->List Tr
 | .pl _ _ _ es=>es
 | .fi _ _ a b _ _=>[a,b]
 | .wh _ _ a b _=>[a,b]
def Sm.ns:Sm->List Str
 | .pl _ _ ns _=>ns
 | _=>[]
noncomputable def Sm.bs:Sm->List (List Sm)
 | .pl _ _ _ _=>[]
 | .fi _ _ _ _ x y=>[x,y]
 | .wh _ _ _ _ x=>[x]
inductive Ot where
 | start (m:Int) (nm:Str)
 | bring (m:Int) (n:Int)
def Ot.m:Ot->Int
 | .start m _=>m
 | .bring m _=>m
noncomputable def Ot.D:Ot->OQ
 | .start m nm=>.tuple [.int m,.str "start",.str nm,.tuple []]
 | .bring m n=>.tuple [.int m,.str "bring",.str "bin",.int n]
structure Pr where
 nms:List (Str×List Str)
 bds:List (Str×List Sm)
 out:List Ot
 tl:Option Int
structure Hd where
 nm:Str
 row:Int
structure YS where
 done:Nat
 beg:Nat
 now:Int
 hap:Int
 stm:Int
 ag:List (Int×Int)
 sl:Option (Int×Int)
 hd:List (Int×Hd)
 lg:List OQ
 st:Option (List OQ)
def YS.sDone(s:YS)(n:Nat):YS:={s with done:=n}
def YS.sBeg(s:YS)(n:Nat):YS:={s with beg:=n}
def YS.sNow(s:YS)(n:Int):YS:={s with now:=n}
def YS.sHap(s:YS)(n:Int):YS:={s with hap:=n}
def YS.sStm(s:YS)(n:Int):YS:={s with stm:=n}
def YS.sAg(s:YS)(l:List (Int×Int)):YS:={s with ag:=l}
def YS.sSl(s:YS)(o:Option (Int×Int)):YS:={s with sl:=o}
def YS.sHd(s:YS)(l:List (Int×Hd)):YS:={s with hd:=l}
def YS.sLg(s:YS)(l:List OQ):YS:={s with lg:=l}
def YS.sSt(s:YS)(o:Option (List OQ)):YS:={s with st:=o}
def Hd.sRow(d:Hd)(r:Int):Hd:={d with row:=r}
noncomputable def eC{α:Type}(nm:Str):List (Str×α)->Option α
 | []=>none
 | p::r=>if p.1=nm then some p.2 else eC nm r
noncomputable def setH(n:Int)(x:Hd):List (Int×Hd)->List (Int×Hd)
 | []=>[]
 | p::r=>if p.1=n then (p.1,x)::r else p::setH n x r
def bI(n:Int):List (Int×Hd)->Option Hd
 | []=>none
 | p::r=>if p.1=n then some p.2 else bI n r
noncomputable def YS.lay(s:YS)(n:Int)(ws:List OQ):YS:=s.sLg (s.lg++[.tuple (.int s.now::.int n::ws)])
def YS.put(s:YS)(m x:Int):YS:=s.sAg (Ag.insO s.ag m x)
noncomputable def YS.begin(s:YS)(nm:Str):YS:=
 if s.beg=60 then s.sSt (some [.str "many"])
 else (((s.sBeg (s.beg+1)).sHd (s.hd++[((s.beg:Int)+1,Hd.mk nm 0)])).lay ((s.beg:Int)+1) [.str "begins",.str nm]).put s.now ((s.beg:Int)+1)
noncomputable def YS.endH(s:YS)(h:Int):YS:=(s.sHd (s.hd.filter λp=>decide (p.1≠h))).lay h [.str "ends"]
def wP(l m n:Int):Int:=if (if m-l<n then m-l else n)>0 then (if m-l<n then m-l else n) else 0
noncomputable def YS.bring(s:YS)(n:Int):YS:=match s.sl with
 | none=>s
 | some (l,m)=>(s.sSl (some (l+wP l m n,m))).lay 0 [.str "brings",.str "bin",.int (wP l m n)]
noncomputable def YS.wait(s:YS)(h n:Int):YS:=(s.lay h [.str "waits",.int n]).put (s.now+n) h
noncomputable def YS.deed(s:YS)(h:Int)(w:Str)(ns:List Str)(xs:List Int):Bool×YS:=
 let n:=xs.getD 0 0
 let a:=ns.getD 0 ""
 if w= "wait" then (false,s.wait h (if 0<n then n else 0))
 else
  let s':=if w= "say" then s.lay h [.str "says",.str a,.int n] else s.begin a
  (s'.st.isNone,s')
abbrev bB:=List (List Sm×Nat)
mutual
def bO(bd:List Sm)(row:Int):Nat->List Sm->bB
 | _,[]=>[]
 | i,s::r=>if s.k=row then [(bd,i+1)] else
  match fU row s with
  | []=>bO bd row (i+1) r
  | p::q=>(bd,if s.w= "while" then i else i+1)::p::q
def fU(row:Int):Sm->bB
 | .pl _ _ _ _=>[]
 | .fi _ _ _ _ x y=>match bO x row 0 x with
  | []=>bO y row 0 y
  | p::q=>p::q
 | .wh _ _ _ _ x=>bO x row 0 x
end
def bE(bd:List Sm)(row:Int):bB:=if row=0 then [(bd,0)] else bO bd row 0 bd
def bR(p:bB):bB:=(p.reverse.dropWhile λx=>decide (x.2=x.1.length)).reverse
def cN(p:bB):Option Sm:=match (bR p).getLast? with
 | none=>none
 | some (b,i)=>b[i]?
noncomputable def oF(p:bB):bB:=match p.getLast? with
 | none=>p
 | some (b,i)=>p.dropLast++[(b,i+1)]
noncomputable def fO(p:bB)(held:Bool):Sm->bB
 | .pl _ _ _ _=>p
 | .fi _ _ _ _ x y=>oF p++[(if held=true then x else y,0)]
 | .wh _ _ _ _ x=>if held=true then p++[(x,0)] else oF p
def fq(sg:Str)(a b:Int):Bool:=if sg= "<" then decide (a<b) else decide (a=b)
def bP(now own:Int):List Tr->List Int->Except (List OQ) (List Int)
 | [],a=>.ok a
 | e::r,a=>match Wo.ev [] now own e with
  | .val n=>bP now own r (a++[n])
  | .unk x=>.error [.str "unknown",.int own,.str x]
  | .big=>.error [.str "big",.int own]
noncomputable def YS.doS(s:YS)(h:Int)(p:bB)(m:Sm):Bool×YS×bB:=
 match bP s.now h m.es [] with
 | .error e=>(false,s.sSt (some e),p)
 | .ok xs=>match m with
  | .pl w _ ns _=>let r:=s.deed h w ns xs;(r.1,r.2,oF p)
  | .fi _ sg _ _ _ _=>(true,s,fO p (fq sg (xs.getD 0 0) (xs.getD 1 0)) m)
  | .wh _ sg _ _ _=>(true,s,fO p (fq sg (xs.getD 0 0) (xs.getD 1 0)) m)
noncomputable def YS.goOn(h:Int):Nat->YS->bB->YS
 | 0,s,_=>s
 | f+1,s,p=>match cN p,bI h s.hd with
  | none,_=>s.endH h
  | _,none=>s
  | some m,some d=>if s.stm=100 then s.sSt (some [.str "endless",.int h]) else
   let s1:=(s.sStm (s.stm+1)).sHd (setH h (d.sRow m.k) s.hd)
   let r:=s1.doS h (bR p) m
   if r.1=true then YS.goOn h f r.2.1 r.2.2 else r.2.1
def YS.first(s:YS):Option Int:=s.ag.head?.map (·.1)
noncomputable def YS.outNext(P:Pr)(s:YS):Bool:=match P.out[s.done]? with
 | none=>false
 | some o=>match s.first with
  | none=>true
  | some m=>decide (o.m<=m)
noncomputable def YS.next(P:Pr)(s:YS):Option Int:=if s.st.isSome=true then none else if s.outNext P=true then (P.out[s.done]?).map Ot.m else s.first
def YS.doOut(P:Pr)(s:YS):YS:=match P.out[s.done]? with
 | none=>s
 | some (.start _ nm)=>(s.sDone (s.done+1)).begin nm
 | some (.bring _ n)=>(s.sDone (s.done+1)).bring n
def YS.goF(P:Pr)(s:YS)(h:Int):YS:=match bI h s.hd with
 | none=>s
 | some d=>s.goOn h 102 (bE ((eC d.nm P.bds).getD []) d.row)
noncomputable def YS.step(P:Pr)(s:YS):YS:=match s.next P with
 | none=>s
 | some m=>
  let s:=if s.now<m then (s.sNow m).sHap 0 else s
  if s.hap=500 then s.sSt (some [.str "long"]) else
  let s:=s.sHap (s.hap+1)
  if s.outNext P=true then s.doOut P else
  match s.ag with
  | []=>s
  | (_,h)::r=>((s.sAg r).sStm 0).goF P h
def tp(H:Hp):Hp:=λa=>match H a with
 | some (.tup xs)=>some (.tup xs)
 | _=>none
theorem dj(h:H a=some (.tup xs)):tp H a=some (.tup xs):=by unfold tp;rw [h]
theorem kO(h:tp H a=some o):∃xs,o= .tup xs/\H a=some (.tup xs):=by
 unfold tp at h
 split at h
 ·rename_i xs e;cases h;exact⟨xs,rfl,e⟩
 ·cases h
def Kt(H H':Hp):Prop:=∀c xs,H c=some (.tup xs)->H' c=some (.tup xs)
theorem Kt.tp(k:Kt H H'):Same (tp H) (tp H'):=λa o h=>by
 obtain⟨xs,rfl,e⟩:=kO h
 exact dj (k _ _ e)
theorem gM:Same (tp H) H:=λa o h=>by
 obtain⟨xs,rfl,e⟩:=kO h
 exact e
theorem Kt.trans(k:Kt H H')(k':Kt H' H''):Kt H H'':=λc xs h=>k' c xs (k c xs h)
theorem Kt.of(g:Same H H'):Kt H H':=λ_ _ h=>g _ _ h
section
variable{K:N5}
abbrev Fz(K:N5)(H:Hp)(v:V)(d:OQ):Prop:=Rp K (tp H) v d
abbrev FzL(K:N5)(H:Hp)(vs:List V)(ds:List OQ):Prop:=RpL K (tp H) vs ds
theorem a8(k:Kt H H')(h:Fz K H v d):Fz K H' v d:=Rp.mono k.tp h
theorem a0(k:Kt H H')(h:FzL K H vs ds):FzL K H' vs ds:=RpL.mono k.tp h
theorem fP:∀{vs ws:List V} {ds es:List OQ},RpL K H vs ds->RpL K H ws es->RpL K H (vs++ws) (ds++es):=by
 intro vs
 induction vs with
 | nil=>intro ws ds es h1 h2;cases h1;exact h2
 | cons v vs ih=>intro ws ds es h1 h2;cases h1 with | cons a b=>exact .cons a (ih b h2)
structure Ce where
 y:Addr
 dx:Addr
 dn:Addr
 dd:Addr
 dp:Addr
 db:Addr
 to:Addr
 kd:Bool
 ag:Addr
 al:Addr
 gc:GC
 dh:Addr
 ll:Addr
 hs:List (Int×Addr×Addr)
 sv:V
noncomputable def Ce.sSv(c:Ce)(v:V):Ce:={c with sv:=v}
noncomputable def Ce.sHs(c:Ce)(l:List (Int×Addr×Addr)):Ce:={c with hs:=l}
noncomputable def Ce.sG(c:Ce)(g:GC):Ce:={c with gc:=g}
noncomputable def aS(c:Ce)(s:YS):List (Str×V):=[("names",.ref c.dn),("drawn",.ref c.dd),("places",.ref c.dp),("outer",.ref c.to),("outer_done",.int s.done),("agenda",.ref c.ag),("goods",.ref c.gc.g),("hands",.ref c.dh),("begun",.int s.beg),("now",.int s.now),("happenings",.int s.hap),("statements",.int s.stm),("laid",.ref c.ll),("stopped",c.sv),("bodies",.ref c.db)]
def stD:Option (List OQ)->OQ
 | none=>.none
 | some ds=>.tuple ds
noncomputable def hdF(n:Int)(d:Hd)(kd:Addr):List (Str×V):=[("number",.int n),("name",.str d.nm),("row",.int d.row),("known",.ref kd)]
def HdO(C:CA)(H:Hp)(n:Int)(ho kd:Addr)(d:Hd):Prop:=(∃dx,H ho=some (.ins C.d dx (hdF n d kd)))/\H kd=some (.dK [])
inductive HdL (C:CA) (H:Hp):List (Int×Addr×Addr)->List (Int×Hd)->Prop
 | nil:HdL C H [] []
 | cons {n:Int} {ho kd:Addr} {d:Hd} {hs:List (Int×Addr×Addr)} {ds:List (Int×Hd)}:HdO C H n ho kd d->HdL C H hs ds->HdL C H ((n,ho,kd)::hs) ((n,d)::ds)
inductive TbL {α:Type} (K:N5) (H:Hp) (F:α->List OQ):List (Key×V)->List (Str×α)->Prop
 | nil:TbL K H F [] []
 | cons {x:Str} {a:α} {v:V} {kv:List (Key×V)} {l:List (Str×α)}:Fz K H v (.tuple (F a))->TbL K H F kv l->TbL K H F ((Sum.inr x,v)::kv) ((x,a)::l)
theorem TbL.kt{F:α->List OQ}{l:List (Str×α)}(k:Kt H H')(h:TbL K H F kv l):TbL K H' F kv l:=by
 induction h with
 | nil=>exact .nil
 | cons a _ ih=>exact .cons (a8 k a) ih
noncomputable def hoT(n:Int):Nat:=8+2*n.toNat
def kdT(n:Int):Nat:=9+2*n.toNat
def nt:HO->Prop
 | .tup _=>False
 | _=>True
structure Tg(H:Hp)(c:Ce)(tg:Addr->Nat):Prop where
 y:tg c.y=1
 st:tg c.dn=2/\tg c.dd=2/\tg c.db=2
 p:tg c.dp=3
 l:tg c.ll=4
 a:tg c.ag=5/\tg c.al=5
 g:∀a∈c.gc.cs,tg a=6
 dh:tg c.dh=7
 hd:∀h∈c.hs,tg h.2.1=hoT h.1/\tg h.2.2=kdT h.1
 own:∀a,tg a≠0->∃o,H a=some o/\nt o
structure Yd(C:CA)(K:N5)(P:Pr)(H:Hp)(c:Ce)(s:YS)(tg:Addr->Nat):Prop where
 obj:H c.y=some (.ins C.y c.dx (aS c s))
 nm:∃kv,H c.dn=some (.dK kv)/\TbL K H (λl:List Str=>l.map .str) kv P.nms
 dr:H c.dd=some (.dK [])
 bd:∃kv,H c.db=some (.dK kv)/\TbL K H bdD kv P.bds
 to:∃vs,H c.to=some (.tup vs)/\FzL K H vs (P.out.map Ot.D)
 pl:H c.dp=some (.dK [])
 ag:Ag.AO C.l C.h H c.kd c.ag c.al s.ag
 go:GoZ C H c.gc
 ts:c.gc.t.map (·.n)=P.tl
 se:c.gc.s.map (λe=>(e.l,e.m))=s.sl
 dh:H c.dh=some (.dK (c.hs.map λh=>(Sum.inl h.1,.ref h.2.1)))
 hd:HdL C H c.hs s.hd
 lg:∃vs,H c.ll=some (.lst vs)/\FzL K H vs s.lg
 sv:Fz K H c.sv (stD s.st)
 tg:Tg H c tg
def Gr(H:Hp)(tg:Addr->Nat)(H':Hp)(tg':Addr->Nat):Prop:=(∀a o,tg a=0->H a=some o->H' a=some o)/\∀a,tg' a≠0->tg a≠0\/H a=none
theorem Gr.refl:Gr H tg H tg:=⟨λ_ _ _ h=>h,λ_ h=>.inl h⟩
theorem Gr.trans(g:Gr H tg H' tg')(g':Gr H' tg' H'' tg''):Gr H tg H'' tg'':=by
 refine⟨λa o h e=>g'.1 a o ?_ (g.1 a o h e),λa h=>?_⟩
 ·rcases Np (tg' a) with z | z
  ·exact z
  ·rcases g.2 a (Nw z) with q | q
   ·exact absurd h q
   ·rw [e] at q;cases q
 ·rcases g'.2 a h with q | q
  ·exact g.2 a q
  ·rcases Np (tg a) with z | z
   ·cases e:H a with
    | none=>exact .inr rfl
    | some o=>rw [g.1 a o z e] at q;cases q
   ·exact .inl (Nw z)
theorem Gr.same(g:Gr H tg H' tg')(k:Same H' H''):Gr H tg H'' tg':=⟨λa o h e=>k _ _ (g.1 a o h e),g.2⟩
def FrT(T:Nat->Prop)(tg:Addr->Nat)(H H':Hp):Prop:=∀a o,¬T (tg a)->H a=some o->H' a=some o
variable{C:CA}{P:Pr}{H H':Hp}{c:Ce}{s:YS}{tg:Addr->Nat}{T:Nat->Prop}
theorem Tg.tup(g:Tg H c tg){a:Addr}(h:H a=some (.tup xs)):tg a=0:=by
 rcases Np (tg a) with z | z
 ·exact z
 ·obtain⟨o,e,n⟩:=g.own a (Nw z)
  rw [h] at e;cases e;exact n.elim
theorem Tg.off(g:Tg H c tg){a:Addr}(h:H a=none):tg a=0:=by
 rcases Np (tg a) with z | z
 ·exact z
 ·obtain⟨o,e,n⟩:=g.own a (Nw z)
  rw [h] at e;cases e
theorem FrT.kt(f:FrT T tg H H')(g:Tg H c tg)(z:¬T 0):Kt H H':=λa xs h=>f a _ (by rw [g.tup h];exact z) h
theorem FrT.gr(f:FrT T tg H H')(z:¬T 0):Gr H tg H' tg:=⟨λa o h e=>f a o (by rw [h];exact z) e,λa h=>.inl h⟩
theorem FrT.same(k:Same H H'):FrT T tg H H':=λ_ _ _ e=>k _ _ e
theorem HdO.fr(h:HdO C H n ho kd d)(k:∀o,H ho=some o->H' ho=some o)(k':∀o,H kd=some o->H' kd=some o):HdO C H' n ho kd d:=by
 obtain⟨⟨dx,h1⟩,h2⟩:=h
 exact⟨⟨dx,k _ h1⟩,k' _ h2⟩
theorem HdL.fr{hs:List (Int×Addr×Addr)}(h:HdL C H hs ds)(k:∀x∈hs,∀a,a=x.2.1\/a=x.2.2->∀o,H a=some o->H' a=some o):HdL C H' hs ds:=by
 induction h with
 | nil=>exact .nil
 | cons a _ ih=>exact .cons (a.fr (k _ (MU ..) _ (.inl rfl)) (k _ (MU ..) _ (.inr rfl))) (ih λx hx=>k x (MV _ hx))
theorem lx(h:Ag.AO CL CH H b a l O)(g:∀c u,(c=a\/c=l\/∃xs,u=HO.tup xs)->H c=some u->H' c=some u):Ag.AO CL CH H' b a l O:=by
 obtain⟨kt,ok,h1,h2⟩:=h
 exact⟨kt,ok,h1.imp (λh=>⟨h.1,h.2.fr g⟩) (λz=>by obtain⟨e,tn,h⟩:=z;exact⟨e,tn,h.fr g⟩),h2⟩
theorem Yd.objF(Y:Yd C K P H c s tg)(f:FrT T tg H H')(z:¬T 1):H' c.y=some (.ins C.y c.dx (aS c s)):=f _ _ (by rw [Y.tg.y];exact z) Y.obj
theorem Yd.plF(Y:Yd C K P H c s tg)(f:FrT T tg H H')(z:¬T 3):H' c.dp=some (.dK []):=f _ _ (by rw [Y.tg.p];exact z) Y.pl
theorem Yd.lgF(Y:Yd C K P H c s tg)(f:FrT T tg H H')(z0:¬T 0)(z:¬T 4):∃vs,H' c.ll=some (.lst vs)/\FzL K H' vs s.lg:=by
 obtain⟨vs,h,r⟩:=Y.lg
 exact⟨vs,f _ _ (by rw [Y.tg.l];exact z) h,a0 (f.kt Y.tg z0) r⟩
theorem Yd.agF(Y:Yd C K P H c s tg)(f:FrT T tg H H')(z0:¬T 0)(z:¬T 5):Ag.AO C.l C.h H' c.kd c.ag c.al s.ag:=lx Y.ag λa u h e=>by
 rcases h with rfl | rfl | ⟨xs,rfl⟩
 ·exact f _ _ (by rw [Y.tg.a.1];exact z) e
 ·exact f _ _ (by rw [Y.tg.a.2];exact z) e
 ·exact f.kt Y.tg z0 _ _ e
theorem Yd.goF(Y:Yd C K P H c s tg)(f:FrT T tg H H')(z:¬T 6):GoZ C H' c.gc:=Y.go.grow λa h u e=>f _ _ (by rw [Y.tg.g a h];exact z) e
theorem Yd.dhF(Y:Yd C K P H c s tg)(f:FrT T tg H H')(z:¬T 7):H' c.dh=some (.dK (c.hs.map λh=>(Sum.inl h.1,.ref h.2.1))):=f _ _ (by rw [Y.tg.dh];exact z) Y.dh
theorem Yd.hdF(Y:Yd C K P H c s tg)(f:FrT T tg H H')(z:∀n,8<=n->¬T n):HdL C H' c.hs s.hd:=Y.hd.fr λx hx a ha o e=>by
 obtain⟨h1,h2⟩:=Y.tg.hd x hx
 rcases ha with rfl | rfl
 ·exact f _ _ (by rw [h1];exact z _ (by unfold hoT;lia)) e
 ·exact f _ _ (by rw [h2];exact z _ (by unfold kdT;lia)) e
structure Sta(K:N5)(P:Pr)(H:Hp)(c:Ce):Prop where
 nm:∃kv,H c.dn=some (.dK kv)/\TbL K H (λl:List Str=>l.map .str) kv P.nms
 dr:H c.dd=some (.dK [])
 bd:∃kv,H c.db=some (.dK kv)/\TbL K H bdD kv P.bds
 to:∃vs,H c.to=some (.tup vs)/\FzL K H vs (P.out.map Ot.D)
theorem Yd.staF(Y:Yd C K P H c s tg)(f:FrT T tg H H')(z0:¬T 0)(z:¬T 2):Sta K P H' c:=by
 have k:=f.kt Y.tg z0
 obtain⟨t1,t2,t3⟩:=Y.tg.st
 obtain⟨k1,h1,r1⟩:=Y.nm
 obtain⟨k3,h3,r3⟩:=Y.bd
 obtain⟨vs,h4,r4⟩:=Y.to
 exact⟨⟨k1,f _ _ (by rw [t1];exact z) h1,r1.kt k⟩,f _ _ (by rw [t2];exact z) Y.dr,⟨k3,f _ _ (by rw [t3];exact z) h3,r3.kt k⟩,⟨vs,k _ _ h4,a0 k r4⟩⟩
theorem Tg.fr(g:Tg H c tg)(f:FrT T tg H H')(o:∀a,T (tg a)->tg a≠0->∃o,H' a=some o/\nt o):Tg H' c tg:=⟨g.y,g.st,g.p,g.l,g.a,g.g,g.dh,g.hd,λa h=>by
 by_cases z:T (tg a)
 ·exact o a z h
 ·obtain⟨u,e,n⟩:=g.own a h
  exact⟨u,f _ _ z e,n⟩⟩
end
section
variable{K:N5}{C:CA}{P:Pr}{H H':Hp}{c:Ce}{s:YS}{tg:Addr->Nat}{T:Nat->Prop}
theorem AJ:List.lookup (α:=Str) (β:=V) "names" (aS c s)=some (.ref c.dn):=rfl
theorem AK:List.lookup (α:=Str) (β:=V) "drawn" (aS c s)=some (.ref c.dd):=rfl
theorem yM:List.lookup (α:=Str) (β:=V) "places" (aS c s)=some (.ref c.dp):=rfl
theorem AL:List.lookup (α:=Str) (β:=V) "outer" (aS c s)=some (.ref c.to):=rfl
theorem qH:List.lookup (α:=Str) (β:=V) "outer_done" (aS c s)=some (.int s.done):=rfl
theorem yN:List.lookup (α:=Str) (β:=V) "agenda" (aS c s)=some (.ref c.ag):=rfl
theorem AM:List.lookup (α:=Str) (β:=V) "goods" (aS c s)=some (.ref c.gc.g):=rfl
theorem AN:List.lookup (α:=Str) (β:=V) "hands" (aS c s)=some (.ref c.dh):=rfl
theorem AQ:List.lookup (α:=Str) (β:=V) "begun" (aS c s)=some (.int s.beg):=rfl
theorem F5:List.lookup (α:=Str) (β:=V) "now" (aS c s)=some (.int s.now):=rfl
theorem qI:List.lookup (α:=Str) (β:=V) "happenings" (aS c s)=some (.int s.hap):=rfl
theorem qJ:List.lookup (α:=Str) (β:=V) "statements" (aS c s)=some (.int s.stm):=rfl
theorem Dd:List.lookup (α:=Str) (β:=V) "laid" (aS c s)=some (.ref c.ll):=rfl
theorem wQ:List.lookup (α:=Str) (β:=V) "stopped" (aS c s)=some (c.sv):=rfl
theorem yO:List.lookup (α:=Str) (β:=V) "bodies" (aS c s)=some (.ref c.db):=rfl
theorem qK{n:Nat}:bV "outer_done" (.int ((n:Nat):Int)) (aS c s)=aS c (s.sDone n):=rfl
theorem AR{n:Nat}:bV "begun" (.int ((n:Nat):Int)) (aS c s)=aS c (s.sBeg n):=rfl
theorem F6{n:Int}:bV "now" (.int n) (aS c s)=aS c (s.sNow n):=rfl
theorem qL{n:Int}:bV "happenings" (.int n) (aS c s)=aS c (s.sHap n):=rfl
theorem qM{n:Int}:bV "statements" (.int n) (aS c s)=aS c (s.sStm n):=rfl
theorem wR{n:V}:bV "stopped" (n) (aS c s)=aS (c.sSv n) s:=rfl
theorem F7:(aS c s).length<1000:=by show 15<1000;decide
theorem pG:List.lookup (α:=Str) (β:=V) "next_moment" (aS c s)=none:=rfl
theorem mS:List.lookup (α:=Str) (β:=V) "outer_is_next" (aS c s)=none:=rfl
theorem De:List.lookup (α:=Str) (β:=V) "step" (aS c s)=none:=rfl
theorem uq:List.lookup (α:=Str) (β:=V) "do_outer" (aS c s)=none:=rfl
theorem AS:List.lookup (α:=Str) (β:=V) "go_on" (aS c s)=none:=rfl
theorem yP:List.lookup (α:=Str) (β:=V) "moment" (aS c s)=none:=rfl
theorem F8:List.lookup (α:=Str) (β:=V) "log" (aS c s)=none:=rfl
theorem yQ:List.lookup (α:=Str) (β:=V) "logged" (aS c s)=none:=rfl
theorem F9:List.lookup (α:=Str) (β:=V) "end" (aS c s)=none:=rfl
theorem Df:List.lookup (α:=Str) (β:=V) "view" (aS c s)=none:=rfl
theorem Dg:List.lookup (α:=Str) (β:=V) "kept" (aS c s)=none:=rfl
theorem AT:List.lookup (α:=Str) (β:=V) "stand" (aS c s)=none:=rfl
theorem Ga:List.lookup (α:=Str) (β:=V) "lay" (aS c s)=none:=rfl
theorem Dh:List.lookup (α:=Str) (β:=V) "wake" (aS c s)=none:=rfl
theorem AU:List.lookup (α:=Str) (β:=V) "begin" (aS c s)=none:=rfl
theorem ur:List.lookup (α:=Str) (β:=V) "end_hand" (aS c s)=none:=rfl
theorem sQ:List.lookup (α:=Str) (β:=V) "lay_given" (aS c s)=none:=rfl
theorem kP:List.lookup (α:=Str) (β:=V) "enter_statement" (aS c s)=none:=rfl
theorem wS:List.lookup (α:=Str) (β:=V) "stop_by" (aS c s)=none:=rfl
theorem Di:List.lookup (α:=Str) (β:=V) "deed" (aS c s)=none:=rfl
theorem Dj:List.lookup (α:=Str) (β:=V) "wait" (aS c s)=none:=rfl
theorem Gb:List.lookup (α:=Str) (β:=V) "ask" (aS c s)=none:=rfl
theorem Dk:List.lookup (α:=Str) (β:=V) "give" (aS c s)=none:=rfl
theorem Dl:List.lookup (α:=Str) (β:=V) "draw" (aS c s)=none:=rfl
theorem Ig:List.lookup (α:=Str) (β:=V) "do" (aS c s)=none:=rfl
theorem yR:List.lookup (α:=Str) (β:=V) "reckon" (aS c s)=none:=rfl
theorem AV:bV "outer_done" (.int ((s.done:Int)+1)) (aS c s)=aS c (s.sDone (s.done+1)):=rfl
theorem Dm:bV "begun" (.int ((s.beg:Int)+1)) (aS c s)=aS c (s.sBeg (s.beg+1)):=rfl
theorem Gc:(hdF n d kd).length<1000:=by show 4<1000;decide
theorem yS{n:Int}{d:Hd}{kd:Addr}:List.lookup (α:=Str) (β:=V) "number" (hdF n d kd)=some (.int n):=rfl
theorem Dn{n:Int}{d:Hd}{kd:Addr}:List.lookup (α:=Str) (β:=V) "name" (hdF n d kd)=some (.str d.nm):=rfl
theorem Gd{n:Int}{d:Hd}{kd:Addr}:List.lookup (α:=Str) (β:=V) "row" (hdF n d kd)=some (.int d.row):=rfl
theorem AW{n:Int}{d:Hd}{kd:Addr}:List.lookup (α:=Str) (β:=V) "known" (hdF n d kd)=some (.ref kd):=rfl
theorem Ge{n r:Int}{d:Hd}{kd:Addr}:bV "row" (.int r) (hdF n d kd)=hdF n (d.sRow r) kd:=rfl
theorem Tg.frG(g:Tg H c tg)(f:FrG cs H H')(n:∀a∈cs,∃o,H' a=some o/\nt o):Tg H' c tg:=⟨g.y,g.st,g.p,g.l,g.a,g.g,g.dh,g.hd,λa h=>by
 by_cases z:a∈cs
 ·exact n a z
 ·obtain⟨u,e,q⟩:=g.own a h
  exact⟨u,f _ _ z e,q⟩⟩
theorem FrG.t(f:FrG cs H H')(h:∀a∈cs,T (tg a)):FrT T tg H H':=λa o n e=>f a o (λz=>n (h a z)) e
theorem pH(m:Mu H a o H'):FrG [a] H H':=λb u n e=>m.old e λz=>n (by rw [z];exact Nb _)
theorem oG(m:Mu H a o H')(h:nt o):∀b∈[a],∃o,H' b=some o/\nt o:=λb hb=>by rw [List.mem_singleton.mp hb];exact⟨o,m.at_,h⟩
theorem sR(m:Mu H a o H')(h:tg a=t):FrT (· =t) tg H H':=(pH m).t λb hb=>by rw [List.mem_singleton.mp hb];exact h
theorem Yd.same(Y:Yd C K P H c s tg)(k:Same H H'):Yd C K P H' c s tg:=by
 have f:FrT (λ_=>False) tg H H':=.same k
 have z:∀n,¬(λ_:Nat=>False) n:=λ_ h=>h
 have S:=Y.staF f (z 0) (z 2)
 exact⟨Y.objF f (z 1),S.nm,S.dr,S.bd,S.to,Y.plF f (z 3),Y.agF f (z 0) (z 5),Y.goF f (z 6),Y.ts,Y.se,Y.dhF f (z 7),Y.hdF f (λn _=>z n),Y.lgF f (z 0) (z 4),a8 (Kt.of k) Y.sv,Y.tg.fr f λ_ h=>h.elim⟩
theorem cY(k:Same H H'):Gr H tg H' tg:=Gr.refl.same k
theorem Yd.setY{s':YS}(Y:Yd C K P H c s tg)(m:Mu H c.y (.ins C.y c.dx (aS c s')) H')(e:s'.ag=s.ag/\s'.sl=s.sl/\s'.hd=s.hd/\s'.lg=s.lg/\s'.st=s.st):Yd C K P H' c s' tg/\Gr H tg H' tg:=by
 have f:=sR m Y.tg.y
 have z:¬(0=1):=by decide
 have S:=Y.staF f z (by decide)
 obtain⟨e2,e4,e5,e6,e7⟩:=e
 refine⟨⟨m.at_,S.nm,S.dr,S.bd,S.to,Y.plF f (by decide),?_,Y.goF f (by decide),Y.ts,Y.se.trans e4.symm,Y.dhF f (by decide),?_,?_,?_,Y.tg.frG (pH m) (oG m trivial)⟩,f.gr z⟩
 ·rw [e2];exact Y.agF f z (by decide)
 ·rw [e5];exact Y.hdF f λn h=>by lia
 ·rw [e6];exact Y.lgF f z (by decide)
 ·rw [e7];exact a8 (f.kt Y.tg z) Y.sv
theorem Yd.setS{v:V}{o:Option (List OQ)}(Y:Yd C K P H c s tg)(m:Mu H c.y (.ins C.y c.dx (aS (c.sSv v) s)) H')(fz:Fz K H v (stD o)):Yd C K P H' (c.sSv v) (s.sSt o) tg/\Gr H tg H' tg:=by
 have f:=sR m Y.tg.y
 have z:¬(0=1):=by decide
 have S:=Y.staF f z (by decide)
 have g:=Y.tg.frG (pH m) (oG m trivial)
 exact⟨⟨m.at_,S.nm,S.dr,S.bd,S.to,Y.plF f (by decide),Y.agF f z (by decide),Y.goF f (by decide),Y.ts,Y.se,Y.dhF f (by decide),Y.hdF f (λn h=>by lia),Y.lgF f z (by decide),a8 (f.kt Y.tg z) fz,⟨g.y,g.st,g.p,g.l,g.a,g.g,g.dh,g.hd,g.own⟩⟩,f.gr z⟩
theorem Yd.setL{vs:List V}{l:List OQ}(Y:Yd C K P H c s tg)(m:Mu H c.ll (.lst vs) H')(r:FzL K H vs l):Yd C K P H' c (s.sLg l) tg/\Gr H tg H' tg:=by
 have f:=sR m Y.tg.l
 have z:¬(0=4):=by decide
 have S:=Y.staF f z (by decide)
 exact⟨⟨Y.objF f (by decide),S.nm,S.dr,S.bd,S.to,Y.plF f (by decide),Y.agF f z (by decide),Y.goF f (by decide),Y.ts,Y.se,Y.dhF f (by decide),Y.hdF f (λn h=>by lia),⟨vs,m.at_,a0 (f.kt Y.tg z) r⟩,a8 (f.kt Y.tg z) Y.sv,Y.tg.frG (pH m) (oG m trivial)⟩,f.gr z⟩
theorem wT(h:Ag.AO CL CH H b a l O):∀x∈[a,l],∃o,H x=some o/\nt o:=λx hx=>by
 obtain⟨⟨dx,fs,h1⟩,xs,h2⟩:=h.ins
 simp only [Na,MT,or_false] at hx
 rcases hx with rfl | rfl
 ·exact⟨_,h1,trivial⟩
 ·exact⟨_,h2,trivial⟩
theorem Yd.setA{O:List (Int×Int)}(Y:Yd C K P H c s tg)(f0:FrG [c.ag,c.al] H H')(a:Ag.AO C.l C.h H' c.kd c.ag c.al O):Yd C K P H' c (s.sAg O) tg/\Gr H tg H' tg:=by
 have f:FrT (· =5) tg H H':=f0.t λb hb=>by
  simp only [Na,MT,or_false] at hb
  rcases hb with rfl | rfl
  ·exact Y.tg.a.1
  ·exact Y.tg.a.2
 have z:¬(0=5):=by decide
 have S:=Y.staF f z (by decide)
 exact⟨⟨Y.objF f (by decide),S.nm,S.dr,S.bd,S.to,Y.plF f (by decide),a,Y.goF f (by decide),Y.ts,Y.se,Y.dhF f (by decide),Y.hdF f (λn h=>by lia),Y.lgF f z (by decide),a8 (f.kt Y.tg z) Y.sv,Y.tg.frG f0 (wT a)⟩,f.gr z⟩
theorem Ih{g:GC}(G:GoZ C H g):∀x∈g.cs,∃o,H x=some o/\nt o:=λx hx=>by
 obtain⟨⟨dx,h1⟩,h2,h3⟩:=G
 obtain⟨ga,dt,ds,t,s⟩:=g
 unfold GC.cs at hx
 dsimp only at h1 h2 h3 hx
 rcases List.mem_append.mp hx with hx | hx
 ·rcases List.mem_cons.mp hx with rfl | hx
  ·exact⟨_,h1,trivial⟩
  ·cases t with
   | none=>rw [List.mem_singleton.mp hx];exact⟨_,h2,trivial⟩
   | some t=>
    obtain⟨q1,⟨dx2,q2⟩,q3,q4⟩:=h2
    simp only [tcs,TC.cs,Na,MT,or_false] at hx
    rcases hx with rfl | rfl | rfl | rfl
    ·exact⟨_,q1,trivial⟩
    ·exact⟨_,q2,trivial⟩
    ·exact⟨_,q3,trivial⟩
    ·exact⟨_,q4,trivial⟩
 ·cases s with
  | none=>rw [List.mem_singleton.mp hx];exact⟨_,h3,trivial⟩
  | some t=>
   obtain⟨q1,⟨dx2,q2⟩,q3,q4⟩:=h3
   simp only [scs,SC.cs,Na,MT,or_false] at hx
   rcases hx with rfl | rfl | rfl | rfl
   ·exact⟨_,q1,trivial⟩
   ·exact⟨_,q2,trivial⟩
   ·exact⟨_,q3,trivial⟩
   ·exact⟨_,q4,trivial⟩
theorem Yd.setG{g:GC}{cs:List Addr}(Y:Yd C K P H c s tg)(hc:∀a∈cs,a∈c.gc.cs)(f0:FrG cs H H')(G:GoZ C H' g)(h1:g.cs=c.gc.cs)(h0:g.g=c.gc.g)(h2:g.t.map (·.n)=P.tl):Yd C K P H' (c.sG g) (s.sSl (g.s.map λe=>(e.l,e.m))) tg/\Gr H tg H' tg:=by
 have f:FrT (· =6) tg H H':=f0.t λb hb=>Y.tg.g b (hc b hb)
 have z:¬(0=6):=by decide
 have S:=Y.staF f z (by decide)
 have gt:=Y.tg.frG f0 λx hx=>Ih G x (by rw [h1];exact hc x hx)
 have o:=Y.objF f (by decide)
 unfold aS at o
 rw [<-h0] at o
 exact⟨⟨o,S.nm,S.dr,S.bd,S.to,Y.plF f (by decide),Y.agF f z (by decide),G,h2,rfl,Y.dhF f (by decide),Y.hdF f (λn h=>by lia),Y.lgF f z (by decide),a8 (f.kt Y.tg z) Y.sv,⟨gt.y,gt.st,gt.p,gt.l,gt.a,λa ha=>gt.g a (h1▸ha),gt.dh,gt.hd,gt.own⟩⟩,f.gr z⟩
theorem HdL.nums{hs:List (Int×Addr×Addr)}(h:HdL C H hs ds):hs.map (·.1)=ds.map (·.1):=by
 induction h with
 | nil=>rfl
 | cons _ _ ih=>rw [Ng,Ng,ih]
theorem HdL.get{hs:List (Int×Addr×Addr)}(h:HdL C H hs ds)(e:bI n ds=some d):∃ho kd,(n,ho,kd)∈hs/\HdO C H n ho kd d:=by
 induction h with
 | nil=>cases e
 | @cons m ho kd d' hs ds a r ih=>
  unfold bI at e
  by_cases z:m=n
  ·rw [Th z] at e;cases e;subst z
   exact⟨ho,kd,MU ..,a⟩
  ·rw [Tf z] at e
   obtain⟨o,k,h1,h2⟩:=ih e
   exact⟨o,k,MV _ h1,h2⟩
theorem mT:∀{ds:List (Int×Hd)},bI n ds=some d->(n,d)∈ds:=by
 intro ds
 induction ds with
 | nil=>intro e;cases e
 | cons p r ih=>
  intro e
  unfold bI at e
  by_cases z:p.1=n
  ·rw [Th z] at e;cases e;rw [<-z];exact MU ..
  ·rw [Tf z] at e;exact MV _ (ih e)
theorem pI:∀{hs:List (Int×Addr×Addr)},(hs.map (·.1)).Nodup->(n,ho,kd)∈hs->bL (hs.map λh=>((Sum.inl h.1:Key),V.ref h.2.1)) (Sum.inl n)=some (.ref ho):=by
 intro hs
 induction hs with
 | nil=>intro _ h;cases h
 | cons p r ih=>
  intro nd h
  rw [Ng] at nd
  obtain⟨n1,n2⟩:=List.nodup_cons.mp nd
  unfold bL
  rw [Ng]
  by_cases z:p.1=n
  ·rw [List.find?_cons_of_pos (by simpa using z)]
   rcases List.mem_cons.mp h with e | e
   ·rw [<-e];rfl
   ·exact absurd (List.mem_map.mpr ⟨_,e,rfl⟩) (z▸n1)
  ·rw [List.find?_cons_of_neg (by simpa using z)]
   rcases List.mem_cons.mp h with e | e
   ·rw [<-e] at z;exact absurd rfl z
   ·exact ih n2 e
structure HN(ds:List (Int×Hd)):Prop where
 nd:(ds.map (·.1)).Nodup
 ps:∀p∈ds,1<=p.1/\p.1<=60
theorem yT(h1:1<=m)(h2:1<=n)(ne:m≠n):hoT m≠hoT n/\kdT m≠kdT n:=by unfold hoT kdT;lia
theorem qV:hoT m≠kdT n/\kdT m≠hoT n:=by unfold hoT kdT;lia
theorem HdL.set{hs:List (Int×Addr×Addr)}(h:HdL C H hs ds)(nd:(hs.map (·.1)).Nodup)(hm:(n,ho,kd)∈hs)(k:∀x∈hs,x.1≠n->∀a,a=x.2.1\/a=x.2.2->∀o,H a=some o->H' a=some o)(q:HdO C H' n ho kd d'):HdL C H' hs (setH n d' ds):=by
 induction h with
 | nil=>cases hm
 | @cons m o' k' d hs ds a r ih=>
  obtain⟨n1,n2⟩:=List.nodup_cons.mp nd
  unfold setH
  by_cases z:m=n
  ·rw [Th z]
   subst z
   rcases List.mem_cons.mp hm with e | e
   ·cases e
    exact .cons q (r.fr λx hx=>k x (MV _ hx) λz=>n1 (z▸List.mem_map.mpr ⟨x,hx,rfl⟩))
   ·exact absurd (List.mem_map.mpr ⟨_,e,rfl⟩) n1
  ·rw [Tf z]
   rcases List.mem_cons.mp hm with e | e
   ·cases e;exact absurd rfl z
   ·exact .cons (a.fr (k _ (MU ..) z _ (.inl rfl)) (k _ (MU ..) z _ (.inr rfl))) (ih n2 e λx hx=>k x (MV _ hx))
theorem HdL.drop{hs:List (Int×Addr×Addr)}(n:Int)(h:HdL C H hs ds)(k:∀x∈hs,∀a,a=x.2.1\/a=x.2.2->∀o,H a=some o->H' a=some o):HdL C H' (hs.filter λx=>decide (x.1≠n)) (ds.filter λp=>decide (p.1≠n)):=by
 induction h with
 | nil=>exact .nil
 | @cons m o' k' d hs ds a r ih=>
  have ih:=ih λx hx=>k x (MV _ hx)
  by_cases z:m=n
  ·rw [List.filter_cons_of_neg (by simpa using z),List.filter_cons_of_neg (by simpa using z)];exact ih
  ·rw [List.filter_cons_of_pos (by simpa using z),List.filter_cons_of_pos (by simpa using z)]
   exact .cons (a.fr (k _ (MU ..) _ (.inl rfl)) (k _ (MU ..) _ (.inr rfl))) ih
theorem HdL.snoc{hs:List (Int×Addr×Addr)}(h:HdL C H hs ds)(q:HdO C H n ho kd d):HdL C H (hs++[(n,ho,kd)]) (ds++[(n,d)]):=by
 induction h with
 | nil=>exact .cons q .nil
 | cons a _ ih=>exact .cons a ih
theorem Yd.num(Y:Yd C K P H c s tg)(N:HN s.hd)(h:x∈c.hs):1<=x.1/\x.1<=60:=by
 have:x.1∈c.hs.map (·.1):=List.mem_map.mpr ⟨x,h,rfl⟩
 rw [Y.hd.nums] at this
 obtain⟨p,hp,e⟩:=List.mem_map.mp this
 rw [<-e];exact N.ps p hp
theorem Yd.nd(Y:Yd C K P H c s tg)(N:HN s.hd):(c.hs.map (·.1)).Nodup:=by rw [Y.hd.nums];exact N.nd
theorem Yd.setH{n:Int}{ho kd:Addr}{d':Hd}(Y:Yd C K P H c s tg)(N:HN s.hd)(hm:(n,ho,kd)∈c.hs)(f0:FrG [ho,kd] H H')(q:HdO C H' n ho kd d'):Yd C K P H' c (s.sHd (_K.setH n d' s.hd)) tg/\Gr H tg H' tg:=by
 have t:=Y.tg.hd _ hm
 have f:FrT (λt=>t=hoT n\/t=kdT n) tg H H':=f0.t λb hb=>by
  simp only [Na,MT,or_false] at hb
  rcases hb with rfl | rfl
  ·exact .inl t.1
  ·exact .inr t.2
 have z:∀m,m<8->¬(m=hoT n\/m=kdT n):=λm h=>by unfold hoT kdT;lia
 have S:=Y.staF f (z 0 (by decide)) (z 2 (by decide))
 obtain⟨⟨dx,q1⟩,q2⟩:=id q
 refine⟨⟨Y.objF f (z 1 (by decide)),S.nm,S.dr,S.bd,S.to,Y.plF f (z 3 (by decide)),Y.agF f (z 0 (by decide)) (z 5 (by decide)),Y.goF f (z 6 (by decide)),Y.ts,Y.se,Y.dhF f (z 7 (by decide)),Y.hd.set (Y.nd N) hm (λx hx ne a ha o e=>?_) q,Y.lgF f (z 0 (by decide)) (z 4 (by decide)),a8 (f.kt Y.tg (z 0 (by decide))) Y.sv,Y.tg.frG f0 λa ha=>?_⟩,f.gr (z 0 (by decide))⟩
 ·have t':=Y.tg.hd x hx
  have h1:=yT (Y.num N hx).1 (Y.num N hm).1 ne
  refine f a o ?_ e
  rcases ha with rfl | rfl
  ·rw [t'.1];exact λh=>h.elim h1.1 qV.1
  ·rw [t'.2];exact λh=>h.elim qV.2 h1.2
 ·simp only [Na,MT,or_false] at ha
  rcases ha with rfl | rfl
  ·exact⟨_,q1,trivial⟩
  ·exact⟨_,q2,trivial⟩
theorem Yd.addH{H1:Hp}{n:Int}{ho kd:Addr}{d:Hd}(Y:Yd C K P H c s tg)(k:Same H H1)(q:HdO C H1 n ho kd d)(n1:H ho=none)(n2:H kd=none)(m:Mu H1 c.dh (.dK (c.hs.map (λh=>(Sum.inl h.1,V.ref h.2.1))++[(Sum.inl n,.ref ho)])) H'):
 Yd C K P H' (c.sHs (c.hs++[(n,ho,kd)])) (s.sHd (s.hd++[(n,d)])) (λa=>if a=ho then hoT n else if a=kd then kdT n else tg a)/\Gr H tg H' (λa=>if a=ho then hoT n else if a=kd then kdT n else tg a):=by
 have Y1:=Y.same k
 obtain⟨⟨dx,q1⟩,q2⟩:=id q
 have ne:ho≠kd:=λz=>by rw [z,q2] at q1;cases q1
 have f:=sR m Y1.tg.dh
 have z:¬(0=7):=by decide
 have S:=Y1.staF f z (by decide)
 have g:=Y1.tg.frG (pH m) (oG m trivial)
 have o:∀a,tg a≠0->a≠ho/\a≠kd:=λa h=>by
  obtain⟨u,e,_⟩:=Y.tg.own a h
  exact⟨λz=>(by rw [z,n1] at e;cases e),λz=>(by rw [z,n2] at e;cases e)⟩
 have t:∀a v,tg a=v->v≠0->(if a=ho then hoT n else if a=kd then kdT n else tg a)=v:=λa v h hv=>by
  have:=o a (by rw [h];exact hv)
  rw [Tf this.1,Tf this.2];exact h
 have dho:ho≠c.dh:=λz=>by rw [z,Y.dh] at n1;cases n1
 have dkd:kd≠c.dh:=λz=>by rw [z,Y.dh] at n2;cases n2
 have q':HdO C H' n ho kd d:=⟨⟨dx,m.old q1 dho⟩,m.old q2 dkd⟩
 refine⟨⟨Y1.objF f (by decide),S.nm,S.dr,S.bd,S.to,Y1.plF f (by decide),Y1.agF f z (by decide),Y1.goF f (by decide),Y1.ts,Y1.se,?_,(Y1.hdF f (λn h=>by lia)).snoc q',Y1.lgF f z (by decide),a8 (f.kt Y1.tg z) Y1.sv,⟨t _ _ g.y (by decide),⟨t _ _ g.st.1 (by decide),t _ _ g.st.2.1 (by decide),t _ _ g.st.2.2 (by decide)⟩,t _ _ g.p (by decide),t _ _ g.l (by decide),⟨t _ _ g.a.1 (by decide),t _ _ g.a.2 (by decide)⟩,λa ha=>t _ _ (g.g a ha) (by decide),t _ _ g.dh (by decide),λx hx=>?_,λa ha=>?_⟩⟩,⟨λa u h e=>m.old (k _ _ e) λz=>(by rw [z,Y.tg.dh] at h;cases h),λa ha=>?_⟩⟩
 ·show H' c.dh=some (.dK ((c.hs++[(n,ho,kd)]).map λh=>(Sum.inl h.1,V.ref h.2.1)))
  rw [MX];exact m.at_
 ·rcases List.mem_append.mp hx with hx | hx
  ·obtain⟨h1,h2⟩:=g.hd x hx
   exact⟨t _ _ h1 (by unfold hoT;lia),t _ _ h2 (by unfold kdT;lia)⟩
  ·rw [List.mem_singleton.mp hx]
   exact⟨Th rfl,by rw [Tf ne.symm,Th rfl]⟩
 ·by_cases z1:a=ho
  ·rw [z1];exact⟨_,m.old q1 dho,trivial⟩
  ·by_cases z2:a=kd
   ·rw [z2];exact⟨_,m.old q2 dkd,trivial⟩
   ·rw [Tf z1,Tf z2] at ha;exact g.own a ha
 ·by_cases z1:a=ho
  ·exact .inr (z1▸n1)
  ·by_cases z2:a=kd
   ·exact .inr (z2▸n2)
   ·have ha:(if a=ho then hoT n else if a=kd then kdT n else tg a)≠0:=ha
    rw [Tf z1,Tf z2] at ha;exact .inl ha
theorem Yd.delH{n:Int}(Y:Yd C K P H c s tg)(N:HN s.hd)(hn:1<=n)(m:Mu H c.dh (.dK ((c.hs.filter λx=>decide (x.1≠n)).map λh=>(Sum.inl h.1,V.ref h.2.1))) H'):
 Yd C K P H' (c.sHs (c.hs.filter λx=>decide (x.1≠n))) (s.sHd (s.hd.filter λp=>decide (p.1≠n))) (λa=>if tg a=hoT n\/tg a=kdT n then 0 else tg a)/\Gr H tg H' (λa=>if tg a=hoT n\/tg a=kdT n then 0 else tg a):=by
 have f:=sR m Y.tg.dh
 have z:¬(0=7):=by decide
 have S:=Y.staF f z (by decide)
 have g:=Y.tg.frG (pH m) (oG m trivial)
 have t:∀a v,tg a=v->v≠hoT n->v≠kdT n->(if tg a=hoT n\/tg a=kdT n then 0 else tg a)=v:=λa v h h1 h2=>by
  rw [Tf (λq=>q.elim (λe=>h1 (h.symm.trans e)) λe=>h2 (h.symm.trans e))];exact h
 have lo:∀v,v<8->v≠hoT n/\v≠kdT n:=λv h=>by unfold hoT kdT;lia
 have t':∀a v,tg a=v->v<8->(if tg a=hoT n\/tg a=kdT n then 0 else tg a)=v:=λa v h h1=>t a v h (lo v h1).1 (lo v h1).2
 refine⟨⟨Y.objF f (by decide),S.nm,S.dr,S.bd,S.to,Y.plF f (by decide),Y.agF f z (by decide),Y.goF f (by decide),Y.ts,Y.se,m.at_,Y.hd.drop n λx hx a ha o e=>?_,Y.lgF f z (by decide),a8 (f.kt Y.tg z) Y.sv,⟨t' _ _ g.y (by decide),⟨t' _ _ g.st.1 (by decide),t' _ _ g.st.2.1 (by decide),t' _ _ g.st.2.2 (by decide)⟩,t' _ _ g.p (by decide),t' _ _ g.l (by decide),⟨t' _ _ g.a.1 (by decide),t' _ _ g.a.2 (by decide)⟩,λa ha=>t' _ _ (g.g a ha) (by decide),t' _ _ g.dh (by decide),λx hx=>?_,λa ha=>g.own a λe=>ha ?_⟩⟩,⟨λa u h e=>f a u (by rw [h];decide) e,λa ha=>.inl λe=>ha ?_⟩⟩
 ·obtain⟨h1,h2⟩:=Y.tg.hd x hx
  rcases ha with rfl | rfl
  ·exact f _ _ (by rw [h1];unfold hoT;lia) e
  ·exact f _ _ (by rw [h2];unfold kdT;lia) e
 ·obtain⟨hx,ne⟩:=List.mem_filter.mp hx
  have ne:x.1≠n:=by simpa using ne
  obtain⟨h1,h2⟩:=g.hd x hx
  have q:=yT (Y.num N hx).1 hn ne
  exact⟨t _ _ h1 q.1 qV.1,t _ _ h2 qV.2 q.2⟩
 ·show(if tg a=hoT n\/tg a=kdT n then 0 else tg a)=0
  rw [e];split<;>rfl
 ·show(if tg a=hoT n\/tg a=kdT n then 0 else tg a)=0
  rw [e];split<;>rfl
end
end _K
def _L.rdX : String := "_L.uW _L.uV _L.BV _L.BR _L.BS _L.HO.dT.injEq _L.qf _L.yp _L.nV _L.yq _K.AJ _K.AK _K.yM _K.AL _K.qH _K.yN _K.AM _K.AN _K.AQ _K.F5 _K.qI _K.qJ _K.Dd _K.wQ _K.yO _K.qK _K.AR _K.F6 _K.qL _K.qM _K.wR _K.F7 _K.pG _K.mS _K.De _K.uq _K.AS _K.yP _K.F8 _K.yQ _K.F9 _K.Df _K.Dg _K.AT _K.Ga _K.Dh _K.AU _K.ur _K.sQ _K.kP _K.wS _K.Di _K.Dj _K.Gb _K.Dk _K.Dl _K.Ig _K.yR _K.AV _K.Dm _K.Gc _K.yS _K.Dn _K.Gd _K.AW _K.Ge"
def _L.rdB : Lean.MacroM (Lean.TSyntaxArray ``Lean.Parser.Tactic.simpLemma) := (_L.rdX.splitOn " ").toArray.mapM fun n => `(Lean.Parser.Tactic.simpLemma| $(Lean.mkIdent n.toName):ident)
def _L.wc (s : String) : Lean.MacroM (Lean.TSyntax `tactic) := do
  let a ← _L.rdArgs s
  let b ← _L.rdB
  `(tactic| simp (config := { maxSteps := 3000000 }) only [$a,*, $b,*, *])
def _L.wd (s : String) : Lean.MacroM (Lean.TSyntax `tactic) := do
  let a ← _L.rdArgs s
  let b ← _L.rdB
  `(tactic| simp (config := { maxSteps := 3000000, zeta := false, zetaDelta := false }) only [$a,*, $b,*, *])
local macro_rules
  | `(tactic| walk_at "rz") => _L.wc (_L.lzPre ++ " lazyAll")
  | `(tactic| walk_at "ry") => _L.wd (_L.lzPre2 ++ " lazyAll")
namespace _K
open PySem _L
structure Gy where
 P:Pr
 c:Ce
 s:YS
 tg:Addr->Nat
def Yp(C:CA)(K:N5)(g:Gy)(H H':Hp)(s':YS):Prop:=∃c' tg',c'.y=g.c.y/\Yd C K g.P H' c' s' tg'/\Gr H g.tg H' tg'/\∀x∈g.c.hs,(∃d,(x.1,d)∈s'.hd)->x∈c'.hs
def spY(C:CA)(K:N5){B:Type}(args:B->List V)(pre:B->Gy->Hp->Prop)(r:B->Gy->V)(f:B->Gy->YS):Sp:=spG (A:=B×Gy) (λa=>.ref a.2.c.y::args a.1) (λa H=>Yd C K a.2.P H a.2.c a.2.s a.2.tg/\pre a.1 a.2 H) (λa H v H'=>v=r a.1 a.2/\Yp C K a.2 H H' (f a.1 a.2))
section
variable{C:CA}{K:N5}{P:OR}{w:OV}{mg:Str->Option OL}{base:Heap}
theorem Yp.one(k:Same H H1)(h:Yd C K g.P H' c' s' g.tg/\Gr H1 g.tg H' g.tg)(e:c'.y=g.c.y)(e2:c'.hs=g.c.hs):Yp C K g H H' s':=⟨c',g.tg,e,h.1,(cY k).trans h.2,λx hx _=>by rw [e2];exact hx⟩
theorem BY:16000020<=ON:=by unfold ON;decide
theorem bG(h:RpL K H vs ds):vs.length=ds.length:=by
 induction vs generalizing ds with
 | nil=>cases h;rfl
 | cons v vs ih=>cases h with | cons a b=>rw [M8,M8,ih b]
def lA(C:CA)(K:N5):Sp:=spY C K (B:=Int×Addr×List V×List OQ) (λb=>[.int b.1,.ref b.2.1]) (λb g H=>H b.2.1=some (.tup b.2.2.1)/\FzL K H b.2.2.1 b.2.2.2/\(b.2.2.1≠[]/\b.2.2.1.length<=20)/\g.s.lg.length<16000000) (λ_ _=>.non) (λb g=>g.s.lay b.1 b.2.2.2)
theorem Gf(D:MethAt K C.y "lay" "Yard.lay" oy ["self","number","words"])(eq:Cls K C.y)(JF:NoAttr K C.y "now")(J8:NoAttr K C.y "laid"):OkM P w K mg base 1 C.y "lay" ["self","number","words"] (lA C K):=by
 refine D.okG eq ul (λ_=>rfl) λa f cdv A outer s0 H Q E hr p q=>?_
 obtain⟨⟨n,wa,ws,ds⟩,g⟩:=a
 dsimp only at p q⊢
 obtain⟨Y,h1,h2,⟨hne,h3⟩,h4⟩:=p
 obtain⟨vs,l1,l2⟩:=Y.lg
 have lv:=bG l2
 have h0:=Y.obj
 refine⟨_,(ac (aO (cy (aj eq J8 (pvM 0)) (aw fG (ad (aA (aj eq JF (pvM 0)) (pvM 1))) (pvM 2))))),?_⟩
 symm
 intro p1 H1 n1 k1 e1
 have h1':=k1 _ _ h1
 have l1':=k1 _ _ l1
 symm
 refine⟨p1,wa,_,_,rfl,rfl,SqT.of e1,SqT.of h1',by simp,Nat.le_trans (Nat.add_le_add_left h3 2) (by unfold ON;decide),λz=>absurd z hne,λ_ p2 n2=>?_⟩
 have k2:=aZ n2 (.tup ([.int g.s.now,.int n]++ws))
 have b:=BY
 refine⟨vs,k2 _ _ l1',by lia,λH3 m=>q _ _ ⟨rfl,Yp.one (ah k1 k2) ((Y.same (ah k1 k2)).setL m (fP (a0 (Kt.of (ah k1 k2)) l2) (.cons (.tup (dj aC) (.cons (.int _) (.cons (.int _) (a0 (Kt.of (ah k1 k2)) h2)))) .nil))) rfl rfl⟩⟩
inductive Prs (H:Hp):List V->List (Int×Int)->Prop
 | nil:Prs H [] []
 | cons {p:Addr} {h n:Int} {vs:List V} {ps:List (Int×Int)}:H p=some (.tup [.int h,.int n])->Prs H vs ps->Prs H (.ref p::vs) ((h,n)::ps)
theorem qW(A:Ag.AO CL CH H b a l O)(h1:∀v:V,List.lookup (α:=Str) m [("things",v)]=none)(h2:∀v u:V,List.lookup m [("heap",v),("turn",u)]=none)(x:b=true->X)(y:b=false->Y):(∃dx fs,H a=some (.ins CL dx fs)/\fs.lookup m=none/\X)\/∃dx fs,H a=some (.ins CH dx fs)/\fs.lookup m=none/\Y:=by
 obtain⟨kt,ok,⟨e,dx,ps,ok2,g1,_⟩ | ⟨e,tn,dx,ps,g1,_⟩,_⟩:=A
 ·exact .inl ⟨dx,_,g1,h1 _,x e⟩
 ·exact .inr ⟨dx,_,g1,h2 _ _,y e⟩
section
variable{CL CH:Addr}{H:Hp}{b:Bool}{a l:Addr}{O:List (Int×Int)}{Q:VK}{E:XK}{m x:Int}
theorem Gg(kt:List Ag.Kt):∃t,∀e∈kt,e.t<t:=by
 induction kt with
 | nil=>exact⟨0,λe h=>by cases h⟩
 | cons k r ih=>
  obtain⟨t,h⟩:=ih
  refine⟨if t<k.t+1 then k.t+1 else t,λe he=>?_⟩
  rcases List.mem_cons.mp he with z | z
  ·subst z;split<;>lia
  ·have:=h e z;split<;>lia
theorem gk(A:Ag.AO CL CH H b a l O):∃kt ok,((b=true/\Ag.LA CL H a l kt)\/(b=false/\∃tn,Ag.HA CH H a l tn kt))/\Ag.Inc kt/\Ag.Srt kt ok/\ok.map Ag.prO=O/\kt.length=O.length:=by
 obtain⟨kt,ok,h1,h2,h3,h4⟩:=A
 exact⟨kt,ok,h1,h2,h3,h4,by rw [<-h4,MQ];exact h3.1.length_eq.symm⟩
theorem Do(A:Ag.AO CL CH H b a l O)(hb:b=true)(hl:O.length<=900)(k:∀H',FrG [a,l] H H'->Ag.AO CL CH H' b a l (Ag.insO O m x)->Q .non H'):Ag.spLPut CL [.ref a,.int m,.int x] H Q E:=by
 obtain⟨kt,ok,h1,ic,so,rfl,e⟩:=gk A
 subst hb
 rcases h1 with ⟨_,h1⟩ | ⟨z,_⟩
 ·obtain⟨t,ht⟩:=Gg kt
  exact⟨a,l,m,x,t,kt,rfl,h1,ht,by lia,λH' f h=>k H' f.g (Ag.AO.put (.inl ⟨rfl,h⟩) ic so ht)⟩
 ·cases z
theorem Dp(A:Ag.AO CL CH H b a l O)(hb:b=false)(hl:O.length<=900)(k:∀H',FrG [a,l] H H'->Ag.AO CL CH H' b a l (Ag.insO O m x)->Q .non H'):Ag.spHPut CH [.ref a,.int m,.int x] H Q E:=by
 obtain⟨kt,ok,h1,ic,so,rfl,e⟩:=gk A
 subst hb
 rcases h1 with ⟨z,_⟩ | ⟨_,tn,h1⟩
 ·cases z
 ·obtain⟨dx,ps,_,_,_,_,ht⟩:=id h1
  exact⟨a,l,m,x,tn,kt,rfl,h1,by lia,λH' f h=>k H' f.g (Ag.AO.put (.inr ⟨rfl,_,h⟩) ic so λe he=>by have:=ht e he;lia)⟩
def kQ(O:List (Int×Int)):V:=match O with
 | []=>.non
 | p::_=>.int p.1
theorem yU(ok:List Ag.Kt):Ag.fst1 ok=kQ (ok.map Ag.prO):=by cases ok<;>rfl
theorem Dq(A:Ag.AO CL CH H b a l O)(hb:b=true)(k:Q (kQ O) H):Ag.spLFst CL [.ref a] H Q E:=by
 obtain⟨kt,ok,h1,ic,so,rfl,e⟩:=gk A
 subst hb
 rcases h1 with ⟨_,h1⟩ | ⟨z,_⟩
 ·exact⟨a,l,kt,rfl,h1,λok' s'=>by rw [s'.uniq so,yU];exact k⟩
 ·cases z
theorem Dr(A:Ag.AO CL CH H b a l O)(hb:b=false)(k:Q (kQ O) H):Ag.spHFst CH [.ref a] H Q E:=by
 obtain⟨kt,ok,h1,ic,so,rfl,e⟩:=gk A
 subst hb
 rcases h1 with ⟨z,_⟩ | ⟨_,tn,h1⟩
 ·cases z
 ·exact⟨a,l,tn,kt,ok,rfl,h1,so,by rw [yU];exact k⟩
theorem AX(A:Ag.AO CL CH H b a l O)(hb:b=true)(hO:O=(m,x)::r)(hl:O.length<=900)(k:∀H' p,FrG [a,l] H H'->Ag.AO CL CH H' b a l r->H' p=some (.tup [.int m,.int x])->Q (.ref p) H'):Ag.spLTake CL [.ref a] H Q E:=by
 obtain⟨kt,ok,h1,ic,so,e0,e⟩:=gk A
 subst hb
 cases ok with
 | nil=>rw [hO] at e0;cases e0
 | cons o ok=>
  obtain⟨i,mi⟩:=Ag.srt_mi ic so
  rw [hO] at e0
  injection e0 with e1 e2
  obtain⟨r',e3,s3⟩:=so.take ic mi
  injection e3 with _ e3
  subst e3
  have em:o.m=m:=congrArg Prod.fst e1
  have ex:o.x=x:=congrArg Prod.snd e1
  rcases h1 with ⟨_,h1⟩ | ⟨z,_⟩
  ·exact⟨a,l,kt,i,o,rfl,h1,ic,mi,by lia,λH' p f h hp=>k H' p f.g ⟨_,_,.inl ⟨rfl,h⟩,(List.Pairwise.sublist (List.eraseIdx_sublist ..) ic),s3,e2⟩ (by rw [<-em,<-ex];exact hp)⟩
  ·cases z
theorem AY(A:Ag.AO CL CH H b a l O)(hb:b=false)(hO:O=(m,x)::r)(hl:O.length<=900)(k:∀H' p,FrG [a,l] H H'->Ag.AO CL CH H' b a l r->H' p=some (.tup [.int m,.int x])->Q (.ref p) H'):Ag.spHTake CH [.ref a] H Q E:=by
 obtain⟨kt,ok,h1,ic,so,e0,e⟩:=gk A
 subst hb
 cases ok with
 | nil=>rw [hO] at e0;cases e0
 | cons o ok=>
  obtain⟨i,mi⟩:=Ag.srt_mi ic so
  rw [hO] at e0
  injection e0 with e1 e2
  obtain⟨r',e3,s3⟩:=so.take ic mi
  injection e3 with _ e3
  subst e3
  have em:o.m=m:=congrArg Prod.fst e1
  have ex:o.x=x:=congrArg Prod.snd e1
  rcases h1 with ⟨z,_⟩ | ⟨_,tn,h1⟩
  ·cases z
  ·exact⟨a,l,tn,kt,i,o,rfl,h1,ic,mi,by lia,λH' p f h hp=>k H' p f.g ⟨_,_,.inr ⟨rfl,_,h⟩,(List.Pairwise.sublist (List.eraseIdx_sublist ..) ic),s3,e2⟩ (by rw [<-em,<-ex];exact hp)⟩
theorem BZ{ok:List Ag.Kt}(h:Ag.HL H' r ps)(e:ps.map (·.2)=ok.map Ag.key2):∃vs,H' r=some (.lst vs)/\Prs H' vs (ok.map Ag.prO):=by
 refine⟨_,h.1,?_⟩
 have h2:=h.2
 clear h
 induction ps generalizing ok with
 | nil=>cases ok with
  | nil=>exact .nil
  | cons o ok=>cases e
 | cons q ps ih=>cases ok with
  | nil=>cases e
  | cons o ok=>
   rw [Ng] at e
   injection e with e1 e2
   have:=h2 q (MU ..)
   rw [e1] at this
   exact .cons this (ih e2 λq hq=>h2 q (MV _ hq))
theorem Ds(A:Ag.AO CL CH H b a l O)(hb:b=true)(k:∀r H' vs,H r=none->Same H H'->H' r=some (.lst vs)->Prs H' vs O->Q (.ref r) H'):Ag.spLOrd CL [.ref a] H Q E:=by
 obtain⟨kt,ok,h1,ic,so,rfl,e⟩:=gk A
 subst hb
 rcases h1 with ⟨_,h1⟩ | ⟨z,_⟩
 ·refine⟨a,l,kt,rfl,h1,λr H' ps' ok' s' hr g hL e'=>?_⟩
  rw [s'.uniq so] at e'
  obtain⟨vs,v1,v2⟩:=BZ hL e'
  exact k r H' vs hr g v1 v2
 ·cases z
theorem Dt(A:Ag.AO CL CH H b a l O)(hb:b=false)(hl:O.length<64)(k:∀r H' vs,H r=none->Same H H'->H' r=some (.lst vs)->Prs H' vs O->Q (.ref r) H'):Ag.spHOrd CH [.ref a] H Q E:=by
 obtain⟨kt,ok,h1,ic,so,rfl,e⟩:=gk A
 subst hb
 rcases h1 with ⟨z,_⟩ | ⟨_,tn,h1⟩
 ·cases z
 ·refine⟨a,l,tn,kt,rfl,h1,ic,M7 (by lia:kt.length<64) (by unfold SN;decide),λr H' ps' ok' s' hr g hL e'=>?_⟩
  rw [s'.uniq so] at e'
  obtain⟨vs,v1,v2⟩:=BZ hL e'
  exact k r H' vs hr g v1 v2
variable{E':XK}
theorem sT(A:Ag.AO CL CH H b a l O)(k:Q (kQ O) H):(∃dx fs,H a=some (.ins CL dx fs)/\List.lookup (α:=Str) "first" fs=none/\Ag.spLFst CL [.ref a] H Q E)\/∃dx fs,H a=some (.ins CH dx fs)/\List.lookup (α:=Str) "first" fs=none/\Ag.spHFst CH [.ref a] H Q E':=qW A (λ_=>rfl) (λ_ _=>rfl) (λe=>Dq A e k) λe=>Dr A e k
theorem yV{t:TA}(A:Ag.AO CL CH H b a l O)(ht:∀R:List V->Hp->Prop,R [.int m,.int x] H->t σ H R)(hl:O.length<=900)(k:∀H',FrG [a,l] H H'->Ag.AO CL CH H' b a l (Ag.insO O m x)->Q .non H'):(∃dx fs,H a=some (.ins CL dx fs)/\List.lookup (α:=Str) "put" fs=none/\t σ H λvs H2=>Ag.spLPut CL (.ref a::vs) H2 Q E)\/∃dx fs,H a=some (.ins CH dx fs)/\List.lookup (α:=Str) "put" fs=none/\t σ H λvs H2=>Ag.spHPut CH (.ref a::vs) H2 Q E':=qW A (λ_=>rfl) (λ_ _=>rfl) (λe=>ht _ (Do A e hl k)) λe=>ht _ (Dp A e hl k)
theorem Du(A:Ag.AO CL CH H b a l O)(hO:O=(m,x)::r)(hl:O.length<=900)(k:∀H' p,FrG [a,l] H H'->Ag.AO CL CH H' b a l r->H' p=some (.tup [.int m,.int x])->Q (.ref p) H'):(∃dx fs,H a=some (.ins CL dx fs)/\List.lookup (α:=Str) "take" fs=none/\Ag.spLTake CL [.ref a] H Q E)\/∃dx fs,H a=some (.ins CH dx fs)/\List.lookup (α:=Str) "take" fs=none/\Ag.spHTake CH [.ref a] H Q E':=qW A (λ_=>rfl) (λ_ _=>rfl) (λe=>AX A e hO hl k) λe=>AY A e hO hl k
theorem Gh(A:Ag.AO CL CH H b a l O)(hl:O.length<64)(k:∀r H' vs,H r=none->Same H H'->H' r=some (.lst vs)->Prs H' vs O->Q (.ref r) H'):(∃dx fs,H a=some (.ins CL dx fs)/\List.lookup (α:=Str) "in_order" fs=none/\Ag.spLOrd CL [.ref a] H Q E)\/∃dx fs,H a=some (.ins CH dx fs)/\List.lookup (α:=Str) "in_order" fs=none/\Ag.spHOrd CH [.ref a] H Q E':=qW A (λ_=>rfl) (λ_ _=>rfl) (λe=>Ds A e k) λe=>Dt A e hl k
end
def spR(C:CA)(K:N5)(pre:Gy->Prop)(r:Gy->V):Sp:=spG (A:=Gy) (λg=>[.ref g.c.y]) (λg H=>Yd C K g.P H g.c g.s g.tg/\pre g) (λg H v H'=>v=r g/\H'=H)
def eE:Option Int->V
 | none=>.non
 | some i=>.int i
theorem ju(h:RpL K H vs ds){i:Nat}(e:ds[i]? =some d):∃v,vs[i]? =some v/\Rp K H v d:=by
 induction vs generalizing ds i with
 | nil=>cases h;cases e
 | cons v vs ih=>cases h with
  | cons a b=>cases i with
   | zero=>cases e;exact⟨v,rfl,a⟩
   | succ i=>rw [List.getElem?_cons_succ] at e⊢;exact ih b e
theorem atN{xs:List α}{i:Nat}{v:α}(h:xs[i]? =some v):atI xs (i:Int)=some v:=by
 unfold atI ixN
 have:=(List.getElem?_eq_some_iff.mp h).1
 rw [Th (by lia),Th (by lia)]
 simpa using h
theorem Yd.outAt{g:Gy}{H:Hp}{o:Ot}(Y:Yd C K g.P H g.c g.s g.tg)(h:g.P.out[g.s.done]? =some o):∃vs a xs,H g.c.to=some (.tup vs)/\vs[g.s.done]? =some (.ref a)/\H a=some (.tup (.int o.m::xs))/\Rp K (tp H) (.ref a) o.D:=by
 obtain⟨vs,h1,r⟩:=Y.to
 obtain⟨v,h2,r2⟩:=ju r (i:=g.s.done) (d:=o.D) (by rw [M4,h];rfl)
 have r0:=r2
 cases o with
 | start m nm=>
  cases r2 with
  | tup e q=>
   cases q with
   | cons a b=>cases a;obtain⟨ys,e1,e2⟩:=kO e;cases e1;exact⟨vs,_,_,h1,h2,e2,r0⟩
 | bring m n=>
  cases r2 with
  | tup e q=>
   cases q with
   | cons a b=>cases a;obtain⟨ys,e1,e2⟩:=kO e;cases e1;exact⟨vs,_,_,h1,h2,e2,r0⟩
theorem wU(D:MethAt K C.y "outer_is_next" "Yard.outer_is_next" fg ["self"])(eq:Cls K C.y)(JE:NoAttr K C.y "outer_done")(JO:NoAttr K C.y "outer")(JD:NoAttr K C.y "agenda")(Kn:OkM P w K mg base 1 C.l "first" ["self"] (Ag.spLFst C.l))(Ko:OkM P w K mg base 1 C.h "first" ["self"] (Ag.spHFst C.h))(JZ:mg "len" =none):OkM P w K mg base 2 C.y "outer_is_next" ["self"] (spR C K (λg=>g.s.done<=g.P.out.length) λg=>.bl (g.s.outNext g.P)):=by
 refine D.okG eq eF (λ_=>rfl) λg f cdv A outer s0 H Q E hr p q=>?_
 obtain⟨Y,hd⟩:=p
 have h0:=Y.obj
 obtain⟨vs,h1,r1⟩:=Y.to
 have lv:=bG r1
 rw [MQ] at lv
 refine⟨_,(aa (aJ (aM bi (aj eq JE (pvM 0)) (iF iK rfl JZ PM (aB (aj eq JO (pvM 0))))) (ac (az ci)) aG) (aa (aP 1 eF (eY Kn Ko hr (aj eq JD (pvM 0)))) (ac (az (Hs (cv je (pvM 1) bp) (nE (cv vS (ar (ar (aj eq JO (pvM 0)) (aj eq JE (pvM 0))) ab) (pvM 1)))))))),?_⟩
 symm
 by_cases e:(g.s.done:Int)=g.P.out.length
 ·rw [Th e]
  refine q _ _ ⟨?_,rfl⟩
  have z:g.P.out[g.s.done]? =none:=NL (by lia)
  show V.bl false=V.bl (g.s.outNext g.P)
  unfold YS.outNext
  rw [z]
 obtain⟨o,ho⟩:∃o,g.P.out[g.s.done]? =some o:=⟨_,MR (by lia)⟩
 obtain⟨vs',a,xs,o1,o2,o3,o4⟩:=Y.outAt ho
 rw [h1] at o1
 cases o1
 have oi:=atN o2
 symm
 apply sT Y.ag
 have u:g.s.outNext g.P=(match kQ g.s.ag with | .int m=>decide (o.m<=m) | _=>true):=by
  unfold YS.outNext YS.first kQ
  rw [ho]
  cases g.s.ag<;>rfl
 cases ea:g.s.ag with
 | nil=>
  rw [ea] at u
  symm
  exact q _ _ ⟨congrArg V.bl u.symm,rfl⟩
 | cons p r=>
  rw [ea] at u
  symm
  rw [Tf (λz=>by cases z),show kQ (p::r)= .int p.1 from rfl]
  symm
  exact q _ _ ⟨congrArg V.bl u.symm,rfl⟩
theorem sU(h:Fz K H v (stD o)):decide (v= .non)=o.isNone:=by
 cases o with
 | none=>cases h;rfl
 | some ds=>cases h with | tup e r=>rfl
theorem Dv(D:MethAt K C.y "next_moment" "Yard.next_moment" fY ["self"])(eq:Cls K C.y)(JC:NoAttr K C.y "stopped")(JE:NoAttr K C.y "outer_done")(JO:NoAttr K C.y "outer")(JD:NoAttr K C.y "agenda")(JW:OkM P w K mg base 2 C.y "outer_is_next" ["self"] (spR C K (λg=>g.s.done<=g.P.out.length) λg=>.bl (g.s.outNext g.P)))(Kn:OkM P w K mg base 1 C.l "first" ["self"] (Ag.spLFst C.l))(Ko:OkM P w K mg base 1 C.h "first" ["self"] (Ag.spHFst C.h)):OkM P w K mg base 3 C.y "next_moment" ["self"] (spR C K (λg=>g.s.done<=g.P.out.length) λg=>eE (g.s.next g.P)):=by
 refine D.okG eq j0 (λ_=>rfl) λg f cdv A outer s0 H Q E hr p q=>?_
 obtain⟨Y,hd⟩:=p
 have h0:=Y.obj
 have sv:=Y.sv
 have u:∀v,eE (g.s.next g.P)=v->Q v H:=λv e=>q _ _ ⟨e.symm,rfl⟩
 refine⟨_,(aa (aJ (aM fD (aj eq JC (pvM 0)) bp) (ac (az bp)) aG) (aa (aJ (bX (aW JW hr (pvM 0))) (ac (az (ar (ar (aj eq JO (pvM 0)) (aj eq JE (pvM 0))) ab))) aG) (ac (az (eY Kn Ko hr (aj eq JD (pvM 0))))))),?_⟩
 symm
 rw [sU sv]
 cases es:g.s.st with
 | some ds=>
  apply di rfl
  exact u _ (by unfold YS.next;rw [es];rfl)
 | none=>
  apply bz (by simp)
  symm
  refine⟨g,rfl,⟨Y,hd⟩,λv H' e=>?_⟩
  obtain⟨rfl,rfl⟩:=e
  symm
  have n1:g.s.next g.P=if g.s.outNext g.P=true then (g.P.out[g.s.done]?).map Ot.m else g.s.first:=by unfold YS.next;rw [es];rfl
  cases eo:g.s.outNext g.P with
  | true=>
   obtain⟨o,ho⟩:∃o,g.P.out[g.s.done]? =some o:=by
    cases z:g.P.out[g.s.done]? with
    | none=>unfold YS.outNext at eo;rw [z] at eo;cases eo
    | some o=>exact⟨o,rfl⟩
   obtain⟨vs,a,xs,o1,o2,o3,o4⟩:=Y.outAt ho
   have oi:=atN o2
   apply di rfl
   symm
   exact u _ (by rw [n1,eo,ho];rfl)
  | false=>
   apply bz (by simp)
   symm
   apply sT Y.ag
   apply u _
   rw [n1,eo,Tf (by simp)]
   unfold YS.first kQ
   cases g.s.ag<;>rfl
end
theorem Gr.kt(Y:Yd C K P H c s tg)(g:Gr H tg H' tg'):Kt H H':=λa xs h=>g.1 a _ (Y.tg.tup h) h
theorem Yp.then(e1:c1.y=g.c.y)(g1:Gr H g.tg H1 tg1)(k1:∀x∈g.c.hs,(∃d,(x.1,d)∈s1.hd)->x∈c1.hs)(h:Yp C K ⟨g.P,c1,s1,tg1⟩ H1 H' s')(k:∀n,(∃d,(n,d)∈s'.hd)->∃d,(n,d)∈s1.hd):Yp C K g H H' s':=by
 obtain⟨c',tg',e,Y,gr,kp⟩:=h
 exact⟨c',tg',e.trans e1,Y,g1.trans gr,λx hx hd=>kp x (k1 x hx (k _ hd)) hd⟩
section
variable{C:CA}{K:N5}{P:OR}{w:OV}{mg:Str->Option OL}{base:Heap}
def yW:Sp:=spG (A:=Addr×Str×Addr) (λa=>[.ref a.1,.str a.2.1,.ref a.2.2]) (λa H=>H a.2.2=some (.lst [])) (λ_ H v H'=>v= .non/\H'=H)
theorem Dw(D:MethAt K C.y "wake" "Yard.wake" lW ["self","name","served"])(eq:Cls K C.y):OkM P w K mg base 1 C.y "wake" ["self","name","served"] yW:=by
 refine D.okG eq fj (λ_=>rfl) λa f cdv A outer s0 H Q E hr p q=>?_
 obtain⟨y,nm,r⟩:=a
 dsimp only at p q⊢
 refine⟨_,(ac (cB O1.never rfl (bM (pv 2)) (bF 3 rfl (aE (aX 3 fj) (aE (aX 4 fj) (aE (aX 5 fj) bq)))) bS)),?_⟩
 refine cI ?_
 simp only [cF]
 symm
 exact⟨⟨_,SqL.of p⟩,lu (over_list.stop 0 _ p (Nat.le_refl _)) (q _ _ ⟨rfl,rfl⟩)⟩
theorem HdL.mem{hs:List (Int×Addr×Addr)}(h:HdL C H hs ds)(hm:(n,ho,kd)∈hs):∃d,HdO C H n ho kd d/\(n,d)∈ds:=by
 induction h with
 | nil=>cases hm
 | cons a _ ih=>
  rcases List.mem_cons.mp hm with e | e
  ·cases e;exact⟨_,a,MU ..⟩
  ·obtain⟨d,h1,h2⟩:=ih e;exact⟨d,h1,MV _ h2⟩
def yX(C:CA)(K:N5):Sp:=spY C K (B:=Int×Addr×Addr×Int) (λb=>[.ref b.2.1,.int b.2.2.2]) (λb g _=>(b.1,b.2.1,b.2.2.1)∈g.c.hs/\g.s.lg.length+1<16000000/\g.s.ag.length<=900) (λ_ _=>.non) (λb g=>g.s.wait b.1 b.2.2.2)
theorem Dx(D:MethAt K C.y "wait" "Yard.wait" lY ["self","hand","moments"])(eq:Cls K C.y)(JD:NoAttr K C.y "agenda")(JF:NoAttr K C.y "now")(JU:Cls K C.d)(JM:NoAttr K C.d "number")(JY:OkM P w K mg base 1 C.y "lay" ["self","number","words"] (lA C K))(KA:OkM P w K mg base 1 C.l "put" ["self","moment","thing"] (Ag.spLPut C.l))(KB:OkM P w K mg base 3 C.h "put" ["self","moment","thing"] (Ag.spHPut C.h)):OkM P w K mg base 4 C.y "wait" ["self","hand","moments"] (yX C K):=by
 refine D.okG eq sE (λ_=>rfl) λa f cdv A outer s0 H Q E hr p q=>?_
 obtain⟨⟨n,ho,kd,m⟩,g⟩:=a
 dsimp only at p q⊢
 obtain⟨Y,hm,h1,h2⟩:=p
 have h0:=Y.obj
 obtain⟨d,⟨⟨dx,d1⟩,d2⟩,dm⟩:=Y.hd.mem hm
 refine⟨_,(aa (aO (bj JY hr (pvM 0) (aA (aj JU JM (pvM 1)) (ad (aA ae (pvM 2)))))) (ac (aO (kC KA KB hr (aj eq JD (pvM 0)) (aA (aw aY (aj eq JF (pvM 0)) (pvM 2)) (aj JU JM (pvM 1))))))),?_⟩
 symm
 intro p2 H2 n2 k2 e2
 refine⟨⟨(n,p2,_,[.str "waits",.int m]),g⟩,rfl,⟨Y.same k2,e2,.cons (.str _) (.cons (.int _) .nil),⟨NU _ _,MP rfl⟩,by dsimp only;lia⟩,λv H3 po=>?_⟩
 obtain⟨rfl,c3,tg3,e3,Y3,g3,k3⟩:=po
 have h0':=Y3.obj
 obtain⟨d',⟨⟨dx',d1'⟩,_⟩,_⟩:=Y3.hd.mem (k3 _ hm ⟨d,dm⟩)
 dsimp only at e3 g3 k3 h0' d1'
 rw [e3] at h0'
 symm
 refine yV (m:=g.s.now+m) (x:=n) Y3.ag (λR hR=>?_) h2 λH4 f4 a4=>?_
 ·symm
  exact hR
 obtain⟨Y4,g4⟩:=Y3.setA f4 a4
 exact q _ _ ⟨rfl,c3,tg3,e3,Y4,((cY k2).trans g3).trans g4,λx hx hd=>k3 x hx hd⟩
noncomputable def YS.enter(s:YS)(n:Int)(k:Int):YS:=match bI n s.hd with
 | none=>s
 | some d=>if s.stm=100 then s.sSt (some [.str "endless",.int n]) else (s.sStm (s.stm+1)).sHd (_K.setH n (d.sRow k) s.hd)
def vj(C:CA)(K:N5):Sp:=spY C K (B:=Int×Addr×Addr×Int) (λb=>[.ref b.2.1,.int b.2.2.2]) (λb g _=>(b.1,b.2.1,b.2.2.1)∈g.c.hs/\HN g.s.hd) (λ_ g=>.bl (!decide (g.s.stm=100))) (λb g=>g.s.enter b.1 b.2.2.2)
theorem gN:∀{ds:List (Int×Hd)},(ds.map (·.1)).Nodup->(n,d)∈ds->bI n ds=some d:=by
 intro ds
 induction ds with
 | nil=>intro _ h;cases h
 | cons p r ih=>
  intro nd h
  rw [Ng] at nd
  obtain⟨n1,n2⟩:=List.nodup_cons.mp nd
  unfold bI
  rcases List.mem_cons.mp h with e | e
  ·rw [<-e];exact Th rfl
  ·have ne:p.1≠n:=λz=>n1 (z▸List.mem_map.mpr ⟨_,e,rfl⟩)
   rw [Tf ne];exact ih n2 e
theorem Gi(m:Mu H a o H'):FrG [a,b] H H':=λc u n e=>m.old e λz=>n (by rw [z];exact MU ..)
theorem AZ(D:MethAt K C.y "enter_statement" "Yard.enter_statement" d9 ["self","hand","k"])(eq:Cls K C.y)(JP:NoAttr K C.y "statements")(JC:NoAttr K C.y "stopped")(JU:Cls K C.d)(JM:NoAttr K C.d "number")(Km:NoAttr K C.d "row"){tk:Tok}(MM:mg "MOST_STATEMENTS" =some (.int 100 tk)):OkM P w K mg base 1 C.y "enter_statement" ["self","hand","k"] (vj C K):=by
 refine D.okG eq iA (λ_=>rfl) λa f cdv A outer s0 H Q E hr p q=>?_
 obtain⟨⟨n,ho,kd,k⟩,g⟩:=a
 dsimp only at p q⊢
 obtain⟨Y,hm,hn⟩:=p
 have hu:=cn hr
 have h0:=Y.obj
 obtain⟨d,⟨⟨dx,d1⟩,d2⟩,dm⟩:=Y.hd.mem hm
 have gd:=gN hn.nd dm
 unfold YS.enter at q
 rw [gd] at q
 dsimp only at q
 refine⟨_,(aa (aJ (aM bi (aj eq JP (pvM 0)) (fC (v:=.int 100) rfl MM ⟨_,rfl⟩)) (aa (aD eq JC (pvM 0) (ad (aA ae (aj JU JM (pvM 1))))) (ac (az ci))) aG) (aa (aD eq JP (pvM 0) (aw aY (aj eq JP (pvM 0)) ab)) (aa (aD JU Km (pvM 1) (pvM 2)) (ac (az ci))))),?_⟩
 symm
 by_cases c0:g.s.stm=100
 ·rw [Th c0,decide_eq_true c0] at q
  refine di c0 ?_
  symm
  intro p2 H2 n2 k2 e2
  have h0':=k2 _ _ h0
  symm
  intro H3 m3
  have Y3:=(Y.same k2).setS (v:=.ref p2) (o:=some [.str "endless",.int n]) m3 (.tup (dj e2) (.cons (.str _) (.cons (.int _) .nil)))
  symm
  exact q _ _ ⟨rfl,Yp.one k2 Y3 rfl rfl⟩
 ·rw [Tf c0,decide_eq_false c0] at q
  refine bz c0 ?_
  symm
  intro H2 m2
  obtain⟨Y2,g2⟩:=Y.setY (s':=g.s.sStm (g.s.stm+1)) m2 ⟨rfl,rfl,rfl,rfl,rfl⟩
  obtain⟨d',⟨⟨dx',d1'⟩,d2'⟩,dm'⟩:=Y2.hd.mem hm
  have ed:d'=d:=by
   have:=gN hn.nd dm'
   rw [gd] at this;cases this;rfl
  subst ed
  symm
  intro H3 m3
  obtain⟨Y3,g3⟩:=Y2.setH hn hm (d':=d'.sRow k) (Gi m3) ⟨⟨dx',m3.at_⟩,m3.old d2' λz=>by rw [z,d1'] at d2';cases d2'⟩
  symm
  exact q _ _ ⟨rfl,g.c,g.tg,rfl,Y3,g2.trans g3,λx hx _=>hx⟩
theorem Gj{x:V}{xs:List V}:eA (x::xs) (some 1) none=xs:=by
 unfold eA _T.sIx
 simp
def sV(C:CA)(K:N5):Sp:=spY C K (B:=Int×Addr×Addr×Addr×Str×List V×List OQ) (λb=>[.ref b.2.1,.ref b.2.2.2.1]) (λb g H=>(b.1,b.2.1,b.2.2.1)∈g.c.hs/\H b.2.2.2.1=some (.tup (.str b.2.2.2.2.1::b.2.2.2.2.2.1))/\FzL K H b.2.2.2.2.2.1 b.2.2.2.2.2.2/\b.2.2.2.2.2.1.length<=20) (λ_ _=>.non) (λb g=>g.s.sSt (some (.str b.2.2.2.2.1::.int b.1::b.2.2.2.2.2.2)))
theorem yY(D:MethAt K C.y "stop_by" "Yard.stop_by" jn ["self","hand","stop"])(eq:Cls K C.y)(JC:NoAttr K C.y "stopped")(JU:Cls K C.d)(JM:NoAttr K C.d "number"):OkM P w K mg base 1 C.y "stop_by" ["self","hand","stop"] (sV C K):=by
 refine D.okG eq oA (λ_=>rfl) λa f cdv A outer s0 H Q E hr p q=>?_
 obtain⟨⟨n,ho,kd,sp,wd,ws,ds⟩,g⟩:=a
 dsimp only at p q⊢
 obtain⟨Y,hm,h1,h2,h3⟩:=p
 have hu:=cn hr
 have h0:=Y.obj
 obtain⟨d,⟨⟨dx,d1⟩,d2⟩,dm⟩:=Y.hd.mem hm
 refine⟨_,(ac (aD eq JC (pvM 0) (aw fG (ad (aA (ar (pvM 2) ab) (aj JU JM (pvM 1)))) (jH EV (pvM 2) (kZ ab) kY)))),?_⟩
 symm
 intro p2 H2 n2 k2 e2
 have h0':=k2 _ _ h0
 have h1':=k2 _ _ h1
 symm
 intro p3 H3 n3 k3 e3
 rw [Gj] at e3
 have h0':=k3 _ _ h0'
 have e2':=k3 _ _ e2
 have kk:=ah k2 k3
 clear h0 h1 h1' e2
 refine⟨p2,p3,_,_,rfl,rfl,SqT.of e2',SqT.of e3,by simp,Nat.le_trans (Nat.add_le_add_left h3 2) (by unfold ON;decide),λz=>?_,λz p4 n4=>?_⟩
 ·symm
  intro H5 m5
  have Y5:=(Y.same kk).setS (v:=.ref p2) (o:=some (.str wd::.int n::ds)) m5 (by
   subst z;cases h2;exact .tup (dj e2') (.cons (.str _) (.cons (.int _) .nil)))
  exact q _ _ ⟨rfl,Yp.one kk Y5 rfl rfl⟩
 ·have k4:=aZ n4 (.tup ([.str wd,.int n]++ws))
  have h0':=k4 _ _ h0'
  have kk:=ah kk k4
  symm
  intro H5 m5
  have Y5:=(Y.same kk).setS (v:=.ref p4) (o:=some (.str wd::.int n::ds)) m5 (.tup (dj aC) (.cons (.str _) (.cons (.int _) (a0 (Kt.of kk) h2))))
  exact q _ _ ⟨rfl,Yp.one kk Y5 rfl rfl⟩
theorem TbL.get{F:α->List OQ}{l:List (Str×α)}(h:TbL K H F kv l){a:α}(e:eC nm l=some a):∃v,bL kv (Sum.inr nm)=some v/\Fz K H v (.tuple (F a)):=by
 induction h with
 | nil=>cases e
 | @cons x b v kv l f r ih=>
  unfold eC at e
  unfold bL
  by_cases z:x=nm
  ·rw [Th z] at e;cases e
   rw [List.find?_cons_of_pos (by simpa using z)]
   exact⟨v,rfl,f⟩
  ·rw [Tf z] at e
   rw [List.find?_cons_of_neg (by simpa using z)]
   exact ih e
theorem bm(h:Fz K H v (.tuple ds)):∃a xs,v= .ref a/\H a=some (.tup xs)/\FzL K H xs ds:=by
 cases h with
 | tup e r=>obtain⟨ys,e1,e2⟩:=kO e;cases e1;exact⟨_,_,rfl,e2,r⟩
def pJ(C:CA)(K:N5):Sp:=spY C K (B:=Str×Addr) (λb=>[.str b.1,.ref b.2]) (λb g H=>eC b.1 g.P.nms=some []/\(H b.2=some (.lst [])\/H b.2=some (.tup []))/\g.s.beg<=60/\(∀p∈g.s.hd,p.1<=g.s.beg)/\g.s.hd.length<=1000/\g.s.lg.length+1<16000000/\g.s.ag.length<=900) (λ_ _=>.non) (λb g=>g.s.begin b.1)
def vk(C:CA):Sp:=spG (A:=Addr×Addr×Int×Str×Int×Addr) (λa=>[.ref a.1,.int a.2.2.1,.str a.2.2.2.1,.int a.2.2.2.2.1,.ref a.2.2.2.2.2]) (λa H=>H a.1=some (.ins C.d a.2.1 [])) (λa H v H'=>v= .non/\Mu H a.1 (.ins C.d a.2.1 [("number",.int a.2.2.1),("name",.str a.2.2.2.1),("row",.int a.2.2.2.2.1),("known",.ref a.2.2.2.2.2)]) H')
theorem Dy(D:MakeAt K mg "Hand" C.d "Hand.__init__" iN ["self","number","name","row","known"])(JU:Cls K C.d)(JM:NoAttr K C.d "number")(KE:NoAttr K C.d "name")(Km:NoAttr K C.d "row")(Kf:NoAttr K C.d "known"):OkC P w K mg base 1 "Hand" C.d ["self","number","name","row","known"] (vk C):=by
 refine MakeAt.okG D mN (λ_=>rfl) λa f cdv A outer s0 H Q E hr p q=>?_
 obtain⟨ho,dx,n,nm,r,kd⟩:=a
 dsimp only at p q⊢
 refine⟨_,(aa (aD JU JM (pvM 0) (pvM 1)) (aa (aD JU KE (pvM 0) (pvM 2)) (aa (aD JU Km (pvM 0) (pvM 3)) (ac (aD JU Kf (pvM 0) (pvM 4)))))),?_⟩
 symm
 intro H1 m1
 have p1:=m1.at_
 symm
 intro H2 m2
 have p2:=m2.at_
 symm
 intro H3 m3
 have p3:=m3.at_
 symm
 intro H4 m4
 exact q _ _ ⟨rfl,mQ (mQ (mQ m1 m2) m3) m4⟩
theorem yZ{hs:List (Int×Addr×Addr)}(h:∀x∈hs,x.1≠n):((hs.map λh=>((Sum.inl h.1:Key),V.ref h.2.1)).any λkv=>decide (kv.1=Sum.inl n))=false:=by
 rw [List.any_eq_false]
 intro kv hk
 obtain⟨x,hx,rfl⟩:=List.mem_map.mp hk
 simpa using h x hx
theorem A0(D:MethAt K C.y "begin" "Yard.begin" kK ["self","name","numbers"])(eq:Cls K C.y)(JQ:NoAttr K C.y "begun")(JC:NoAttr K C.y "stopped")(JK:NoAttr K C.y "hands")(Ku:NoAttr K C.y "names")(JD:NoAttr K C.y "agenda")(JF:NoAttr K C.y "now")(L6:OkC P w K mg base 1 "Hand" C.d ["self","number","name","row","known"] (vk C))(JY:OkM P w K mg base 1 C.y "lay" ["self","number","words"] (lA C K))(KA:OkM P w K mg base 1 C.l "put" ["self","moment","thing"] (Ag.spLPut C.l))(KB:OkM P w K mg base 3 C.h "put" ["self","moment","thing"] (Ag.spHPut C.h))(Kq:mg "dict" =none)(Lv:mg "zip" =none)(MN:mg "MOST_HANDS" =some (.int 60 tk)):OkM P w K mg base 4 C.y "begin" ["self","name","numbers"] (pJ C K):=by
 refine D.okG eq qG (λ_=>rfl) λa f cdv A outer s0 H Q E hr p q=>?_
 obtain⟨⟨nm,xa⟩,g⟩:=a
 dsimp only at p q⊢
 obtain⟨Y,h1,h2,h3,h4,h5,h6,h7⟩:=p
 have hu:=cn hr
 have h0:=Y.obj
 obtain⟨kv,d1,d2⟩:=Y.nm
 obtain⟨v,v1,v2⟩:=d2.get h1
 obtain⟨na,nv,rfl,a1,a2⟩:=bm v2
 cases a2
 unfold YS.begin at q
 refine⟨_,(aa (aJ (aM bi (aj eq JQ (pvM 0)) (fC (v:=.int 60) rfl MN ⟨_,rfl⟩)) (aa (aD eq JC (pvM 0) (ad (aB ae))) (ac jb)) aG) (aa (aD eq JQ (pvM 0) (aw aY (aj eq JQ (pvM 0)) ab)) (aa (xR hu (aj eq JK (pvM 0)) (aj eq JQ (pvM 0)) (fJ L6 hr rfl (aU (aj eq JQ (pvM 0)) (pvM 1) ab (lP rfl Kq rfl Lv (aA (dJ hu (aj eq Ku (pvM 0)) (pvM 1) (λ_ _=>rfl)) (pvM 2)))))) (aa (aO (bj JY hr (pvM 0) (aA (aj eq JQ (pvM 0)) (ad (aA ae (pvM 1)))))) (ac (aO (kC KA KB hr (aj eq JD (pvM 0)) (aA (aj eq JF (pvM 0)) (aj eq JQ (pvM 0)))))))))),?_⟩
 symm
 by_cases c0:g.s.beg=60
 ·have c1:(g.s.beg:Int)=60:=by lia
  rw [Th c0] at q
  apply di c1
  symm
  intro p2 H2 n2 k2 e2
  have h0':=k2 _ _ h0
  symm
  intro H3 m3
  have Y3:=(Y.same k2).setS (v:=.ref p2) (o:=some [.str "many"]) m3 (.tup (dj e2) (.cons (.str _) .nil))
  symm
  exact q _ _ ⟨rfl,Yp.one k2 Y3 rfl rfl⟩
 ·have c1:¬(g.s.beg:Int)=60:=by lia
  rw [Tf c0] at q
  apply bz c1
  symm
  intro H2 m2
  obtain⟨Y2,g2⟩:=Y.setY (s':=g.s.sBeg (g.s.beg+1)) m2 ⟨rfl,rfl,rfl,rfl,rfl⟩
  have h0':=Y2.obj
  have d1':=m2.old d1 λz=>by rw [z,h0] at d1;cases d1
  have a1':=m2.old a1 λz=>by rw [z,h0] at a1;cases a1
  have h2':=h2.imp (λe=>m2.old e λz=>by rw [z,h0] at e;cases e) λe=>m2.old e λz=>by rw [z,h0] at e;cases e
  have hsn:∀x∈g.c.hs,x.1≠(g.s.beg:Int)+1:=λx hx z=>by
   have:x.1∈g.c.hs.map (·.1):=List.mem_map.mpr ⟨x,hx,rfl⟩
   rw [Y.hd.nums] at this
   obtain⟨p,hp,e⟩:=List.mem_map.mp this
   have:=h4 p hp
   lia
  have hl:g.c.hs.length=g.s.hd.length:=by have:=congrArg List.length Y.hd.nums;rwa [MQ,MQ] at this
  have b:=BY
  clear h0 d1 a1
  symm
  refine⟨[],.inl ⟨SqT.of a1',h2'.imp (λe=>SqL.of e) λe=>SqT.of e⟩,λkd H3 n3 k3 e3=>?_⟩
  have h0':=k3 _ _ h0'
  symm
  intro ho dx H4 n4 n4' k4 e4 _
  refine⟨(ho,dx,(g.s.beg:Int)+1,nm,0,kd),rfl,e4,λv H5 po=>?_⟩
  obtain⟨rfl,m5⟩:=po
  dsimp only at m5
  have n4z:H2 ho=none:=by
   cases z:H2 ho with
   | none=>rfl
   | some u=>rw [k3 _ _ z] at n4;cases n4
  have kk:=m5.same (ah k3 k4) n4z
  have Y5:=Y2.same kk
  have h0':=Y5.obj
  have dh5:=Y5.dh
  have q5:HdO C H5 ((g.s.beg:Int)+1) ho kd ⟨nm,0⟩:=⟨⟨dx,m5.at_⟩,m5.old (k4 _ _ e3) λz=>by rw [<-z,e3] at n4;cases n4⟩
  refine⟨rfl,?_⟩
  symm
  refine⟨by rw [MQ];lia,λH6 m6=>?_⟩
  have m6':Mu H5 g.c.dh (.dK (g.c.hs.map (λh=>(Sum.inl h.1,V.ref h.2.1))++[(Sum.inl ((g.s.beg:Int)+1),.ref ho)])) H6:=by
   have e:cD (g.c.hs.map λh=>((Sum.inl h.1:Key),V.ref h.2.1)) (Sum.inl ((g.s.beg:Int)+1)) (.ref ho)=g.c.hs.map (λh=>(Sum.inl h.1,V.ref h.2.1))++[(Sum.inl ((g.s.beg:Int)+1),.ref ho)]:=by
    unfold cD
    rw [yZ hsn];rfl
   rw [<-e];exact m6
  obtain⟨Y6,g6⟩:=Y2.addH kk q5 n4z n3 m6'
  have h0':H6 g.c.y=some (.ins C.y g.c.dx (aS _ _)):=Y6.obj
  clear dh5 e4 e3 m6
  symm
  intro p7 H7 n7 k7 e7
  refine⟨⟨((g.s.beg:Int)+1,p7,_,[.str "begins",.str nm]),⟨g.P,g.c.sHs (g.c.hs++[((g.s.beg:Int)+1,ho,kd)]),(g.s.sBeg (g.s.beg+1)).sHd (g.s.hd++[((g.s.beg:Int)+1,Hd.mk nm 0)]),λa=>if a=ho then hoT ((g.s.beg:Int)+1) else if a=kd then kdT ((g.s.beg:Int)+1) else g.tg a⟩⟩,rfl,⟨Y6.same k7,e7,.cons (.str _) (.cons (.str _) .nil),⟨NU _ _,MP rfl⟩,Nat.lt_of_succ_lt h6⟩,λv H8 po=>?_⟩
  obtain⟨rfl,c8,tg8,e8,Y8,g8,k8⟩:=po
  have e8:c8.y=g.c.y:=e8
  have h0':=Y8.obj
  rw [e8] at h0'
  symm
  refine yV (m:=g.s.now) (x:=(g.s.beg:Int)+1) Y8.ag (λR hR=>?_) h7 λH9 f9 a9=>?_
  ·symm
   exact hR
  obtain⟨Y9,g9⟩:=Y8.setA f9 a9
  refine q _ _ ⟨rfl,c8,tg8,e8,?_,(((g2.trans g6).trans (cY k7)).trans g8).trans g9,λx hx hd=>k8 x (NA _ hx) hd⟩
  exact Y9
theorem A1(hs:List (Int×Addr×Addr)):iD (hs.map λh=>((Sum.inl h.1:Key),V.ref h.2.1)) (Sum.inl n)=(hs.filter λx=>decide (x.1≠n)).map λh=>(Sum.inl h.1,V.ref h.2.1):=by
 unfold iD
 rw [List.filter_map]
 congr 1
 refine List.filter_congr λx _=>?_
 show decide ((Sum.inl x.1:Key)≠Sum.inl n)=decide (x.1≠n)
 by_cases z:x.1=n
 ·rw [z];simp
 ·simp [z]
def y0(C:CA)(K:N5):Sp:=spY C K (B:=Int×Addr×Addr) (λb=>[.ref b.2.1]) (λb g _=>b∈g.c.hs/\HN g.s.hd/\g.s.lg.length+1<16000000) (λ_ _=>.non) (λb g=>g.s.endH b.1)
theorem Dz(D:MethAt K C.y "end_hand" "Yard.end_hand" iQ ["self","hand"])(eq:Cls K C.y)(JK:NoAttr K C.y "hands")(JR:NoAttr K C.y "goods")(JU:Cls K C.d)(JM:NoAttr K C.d "number")(JY:OkM P w K mg base 1 C.y "lay" ["self","number","words"] (lA C K))(Li:OkM P w K mg base 1 C.g "leave" ["self","hand"] (ve C)):OkM P w K mg base 2 C.y "end_hand" ["self","hand"] (y0 C K):=by
 refine D.okG eq de (λ_=>rfl) λa f cdv A outer s0 H Q E hr p q=>?_
 obtain⟨⟨n,ho,kd⟩,g⟩:=a
 dsimp only at p q⊢
 obtain⟨Y,hm,hn,h3⟩:=p
 have hu:=cn hr
 have h0:=Y.obj
 obtain⟨d,⟨⟨dx,d1⟩,d2⟩,dm⟩:=Y.hd.mem hm
 have nn:=Y.num hn hm
 have dh:=Y.dh
 have vh:=pI (Y.nd hn) hm
 have th:=Y.tg.hd _ hm
 refine⟨_,(aa (aO (Ae (aj eq JK (pvM 0)) (aj JU JM (pvM 1)) ⟨rfl,rfl,rfl,rfl⟩)) (aa (aO (bj JY hr (pvM 0) (aA (aj JU JM (pvM 1)) (ad (aB ae))))) (ac (cB O1.never rfl (bM (bj Li hr (aj eq JR (pvM 0)) (aB (aj JU JM (pvM 1))))) (bF 3 rfl (aE (aX 2 de) (aE (aX 3 de) (aE (aX 4 de) bq)))) bS)))),?_⟩
 symm
 refine⟨⟨_,rfl⟩,?_⟩
 symm
 intro H1 m1
 rw [A1] at m1
 obtain⟨Y1,g1⟩:=Y.delH hn nn.1 m1
 have h0':H1 g.c.y=some (.ins C.y g.c.dx (aS _ _)):=Y1.obj
 have d1':=m1.old d1 λz=>by rw [z,dh] at d1;cases d1
 have z1:(λa=>if g.tg a=hoT n\/g.tg a=kdT n then 0 else g.tg a) ho=0:=Th (.inl th.1)
 generalize (λa=>if g.tg a=hoT n\/g.tg a=kdT n then 0 else g.tg a)=tg1 at *
 symm
 intro p2 H2 n2 k2 e2
 refine⟨⟨(n,p2,_,[.str "ends"]),⟨g.P,g.c.sHs (g.c.hs.filter λx=>decide (x.1≠n)),g.s.sHd (g.s.hd.filter λp=>decide (p.1≠n)),tg1⟩⟩,rfl,⟨Y1.same k2,e2,.cons (.str _) .nil,⟨NU _ _,MP rfl⟩,Nu (Nn _ _) h3⟩,λv H3 po=>?_⟩
 obtain⟨rfl,c3,tg3,e3,Y3,g3,k3⟩:=po
 have e3:c3.y=g.c.y:=e3
 have g13:=(cY k2).trans g3
 have d3:=g13.1 _ _ z1 d1'
 have h0'':=Y3.obj
 rw [e3] at h0''
 obtain⟨⟨dg,g0⟩,_⟩:=id Y3.go
 clear h0' d1'
 symm
 refine cI ?_
 simp only [cF]
 symm
 refine⟨(c3.gc,n),rfl,Y3.go,λv H4 po=>?_⟩
 obtain⟨r,rfl,nr,g4,e4⟩:=po
 refine⟨r,rfl,⟨_,SqL.of e4⟩,lu (over_list.stop 0 _ e4 (Nat.le_refl _)) ?_⟩
 exact q _ _ ⟨rfl,c3,tg3,e3,Y3.same g4,(g1.trans g13).same g4,λx hx hd=>k3 x (List.mem_filter.mpr ⟨hx,by
  obtain⟨d,h⟩:=hd
  exact(List.mem_filter.mp h).2⟩) hd⟩
end
structure YB(s:YS):Prop where
 hn:HN s.hd
 ag:s.ag.length<=600
 bg:s.beg<=60
 nb:∀p∈s.hd,p.1<=s.beg
inductive gm (P:Pr):Str->List Str->List Int->Prop
 | wait {m:Int}:gm P "wait" [] [m]
 | say {x:Str} {m:Int}:gm P "say" [x] [m]
 | start {nm:Str}:eC nm P.nms=some []->gm P "start" [nm] []
def hs:List Int:=(List.range 60).map λ(i:Nat)=>((i:Int)+1)
theorem y9{n:Int}(h1:1<=n)(h2:n<=60):n∈hs:=by
 unfold hs
 exact List.mem_map.mpr ⟨(n-1).toNat,List.mem_range.mpr (by lia),by lia⟩
theorem B0:∀{l m:List Int},l.Nodup->(∀x∈l,x∈m)->l.length<=m.length:=by
 intro l
 induction l with
 | nil=>intro m _ _;exact Nk _
 | cons x l ih=>
  intro m nd h
  rw [Oo] at nd
  have hx:=h x MU
  have:=ih (m:=m.erase x) nd.2 λy hy=>(List.mem_erase_of_ne (λz=>nd.1 (by rw [<-z];exact hy))).mpr (h y (MV _ hy))
  rw [List.length_erase_of_mem hx] at this
  have hp:0<m.length:=List.length_pos_of_mem hx
  rw [M8];lia
noncomputable def Gk:List (Key×V):=[(Sum.inr "take",.str "takes"),(Sum.inr "put",.str "puts"),(Sum.inr "get",.str "gets")]
section
variable{C:CA}{K:N5}{P:OR}{w:OV}{mg:Str->Option OL}{base:Heap}
theorem za(B:YB s):s.hd.length<=1000:=by
 have:=B0 B.hn.nd λx hx=>by
  obtain⟨p,hp,e⟩:=List.mem_map.mp hx
  have:=B.hn.ps p hp
  exact e▸y9 this.1 this.2
 rw [MQ] at this
 exact Nat.le_trans this (by decide)
section
variable{s:YS}{n m:Int}{nm x:Str}
theorem zc:s.deed n "wait" [] [m]=(false,s.wait n (if 0<m then m else 0)):=rfl
theorem A2:s.deed n "say" [x] [m]=((s.lay n [.str "says",.str x,.int m]).st.isNone,s.lay n [.str "says",.str x,.int m]):=rfl
theorem wV:s.deed n "start" [nm] []=((s.begin nm).st.isNone,s.begin nm):=rfl
end
def vm(C:CA)(K:N5):Sp:=spY C K (B:=Int×Addr×Addr×Str×Addr×List Str×Addr×List Int) (λb=>[.ref b.2.1,.str b.2.2.2.1,.ref b.2.2.2.2.1,.ref b.2.2.2.2.2.2.1]) (λb g H=>(b.1,b.2.1,b.2.2.1)∈g.c.hs/\H b.2.2.2.2.1=some (.tup (b.2.2.2.2.2.1.map .str))/\H b.2.2.2.2.2.2.1=some (.lst (b.2.2.2.2.2.2.2.map .int))/\YB g.s/\gm g.P b.2.2.2.1 b.2.2.2.2.2.1 b.2.2.2.2.2.2.2/\g.s.lg.length+500<16000000) (λb g=>.bl (g.s.deed b.1 b.2.2.2.1 b.2.2.2.2.2.1 b.2.2.2.2.2.2.2).1) (λb g=>(g.s.deed b.1 b.2.2.2.1 b.2.2.2.2.2.1 b.2.2.2.2.2.2.2).2)
theorem A3(D:MethAt K C.y "deed" "Yard.deed" lX ["self","hand","word","names","numbers"])(eq:Cls K C.y)(JC:NoAttr K C.y "stopped")(JU:Cls K C.d)(JM:NoAttr K C.d "number")(Kf:NoAttr K C.d "known")(K7:OkM P w K mg base 4 C.y "wait" ["self","hand","moments"] (yX C K))(JY:OkM P w K mg base 1 C.y "lay" ["self","number","words"] (lA C K))(Kv:OkM P w K mg base 4 C.y "begin" ["self","name","numbers"] (pJ C K))(LP:mg "max" =none){Mj:Addr}(Ml:KD P w K Mj Gk)(Mm:mg "HAD" =some (.ref Mj)):OkM P w K mg base 5 C.y "deed" ["self","hand","word","names","numbers"] (vm C K):=by
 refine D.okG eq sD (λ_=>rfl) λa f cdv A outer s0 H Q E hr p q=>?_
 obtain⟨⟨n,ho,kd,wd,na,ns,xa,xs⟩,g⟩:=a
 dsimp only at p q⊢
 obtain⟨Y,hm,h1,h2,B,dk,h3⟩:=p
 have hu:=cn hr
 have h0:=Y.obj
 obtain⟨d,⟨⟨dx,d1⟩,d2⟩,dm⟩:=Y.hd.mem hm
 refine⟨_,(aa (aJ (aM bi (pvM 2) ae) (aa (aO (bj K7 hr (pvM 0) (aA (pvM 1) (fM (pT rfl) LP (aA ab (ar (pvM 4) ab)))))) (ac (az ci))) aG) (aa (aJ (aM bi (pvM 2) ae) bS aG) (aa (aJ (xo (CQ Ml (pvM 2) (fC (v:=.ref Mj) rfl Mm rfl)) (by with_unfolding_all rfl)) bS aG) (aa (ls (aJ (aM bi (pvM 2) ae) bS (ac (aJ (aM bi (pvM 2) ae) bS (ac (aJ (aM bi (pvM 2) ae) bS (ac (aJ (aM bi (pvM 2) ae) (ac (aO (bj JY hr (pvM 0) (aA (aj JU JM (pvM 1)) (ad (bc ae (ar (pvM 3) ab) (ar (pvM 4) ab))))))) (ac (aO (bj Kv hr (pvM 0) (aA (ar (pvM 3) ab) (pvM 4))))))))))))) (ac (az (cv je (aj eq JC (pvM 0)) bp))))))),?_⟩
 cases dk with
 | @wait m=>
  rw [zc] at q
  symm
  refine⟨⟨(n,ho,kd,if 0<m then m else 0),g⟩,rfl,⟨Y,hm,by dsimp only;lia,Nat.le_trans B.ag (by decide)⟩,λv H2 po=>?_⟩
  exact q _ _ ⟨rfl,po.2⟩
 | @say x m=>
  rw [A2] at q
  symm
  refine bz (by decide) ?_
  symm
  refine⟨(λσ1 H1=>σ1= [some (.ref g.c.y),some (.ref ho),some (.str "say"),some (.ref na),some (.ref xa)]/\Yp C K g H H1 (g.s.lay n [.str "says",.str x,.int m])),?_,?_⟩
  rotate_left
  ·rintro _ H2 ⟨rfl,c2,tg2,e2,Y2,g2,k2⟩
   have hy:=Y2.obj
   rw [e2] at hy
   symm
   rw [sU Y2.sv]
   exact q _ _ ⟨rfl,c2,tg2,e2,Y2,g2,k2⟩
  symm
  intro p3 H3 n3 k3 e3'
  refine⟨⟨(n,p3,_,[.str "says",.str x,.int m]),g⟩,rfl,⟨Y.same k3,e3',.cons (.str _) (.cons (.str _) (.cons (.int _) .nil)),⟨NU _ _,MP rfl⟩,by dsimp only;lia⟩,λv H4 po=>?_⟩
  obtain⟨rfl,c4,tg4,e4,Y4,g4,k4⟩:=po
  exact⟨rfl,c4,tg4,e4,Y4,(cY k3).trans g4,k4⟩
 | @start nm e1=>
  rw [wV] at q
  symm
  refine bz (by decide) ?_
  symm
  refine⟨(λσ1 H1=>σ1= [some (.ref g.c.y),some (.ref ho),some (.str "start"),some (.ref na),some (.ref xa)]/\Yp C K g H H1 (g.s.begin nm)),?_,?_⟩
  rotate_left
  ·rintro _ H2 ⟨rfl,c2,tg2,e2,Y2,g2,k2⟩
   have hy:=Y2.obj
   rw [e2] at hy
   symm
   rw [sU Y2.sv]
   exact q _ _ ⟨rfl,c2,tg2,e2,Y2,g2,k2⟩
  symm
  refine⟨⟨(nm,xa),g⟩,rfl,⟨Y,e1,.inl h2,B.bg,B.nb,?_,by dsimp only;lia,Nat.le_trans B.ag (by decide)⟩,λv H2 po=>?_⟩
  ·exact za B
  ·exact po.2
def wW(P:Pr)(s:YS)(o:Ot):Prop:=match o with
 | .start _ nm=>eC nm P.nms=some []
 | .bring _ _=>∃x,s.sl=some x
def pK(C:CA)(K:N5):Sp:=spY C K (B:=Ot) (λ_=>[]) (λo g _=>g.P.out[g.s.done]? =some o/\wW g.P g.s o/\YB g.s/\g.s.lg.length+500<16000000) (λ_ _=>.non) (λ_ g=>g.s.doOut g.P)
theorem A4(D:MethAt K C.y "do_outer" "Yard.do_outer" iP ["self"])(eq:Cls K C.y)(JO:NoAttr K C.y "outer")(JE:NoAttr K C.y "outer_done")(JR:NoAttr K C.y "goods")(Kv:OkM P w K mg base 4 C.y "begin" ["self","name","numbers"] (pJ C K))(JY:OkM P w K mg base 1 C.y "lay" ["self","number","words"] (lA C K))(K9:OkM P w K mg base 1 C.y "wake" ["self","name","served"] yW)(Lj:OkM P w K mg base 2 C.g "bring" ["self","name","n"] (vd C)):OkM P w K mg base 5 C.y "do_outer" ["self"] (pK C K):=by
 refine D.okG eq dc (λ_=>rfl) λa f cdv A outer s0 H Q E hr p q=>?_
 obtain⟨o,g⟩:=a
 dsimp only at p q⊢
 obtain⟨Y,ho,oo,B,h3⟩:=p
 have hu:=cn hr
 have h0:=Y.obj
 obtain⟨vs,a,xs0,o1,o2,o3,o4⟩:=Y.outAt ho
 have oi:=atN o2
 unfold YS.doOut at q
 rw [ho] at q
 refine⟨_,(aa (aP 1 dc (ar (aj eq JO (pvM 0)) (aj eq JE (pvM 0)))) (aa (aD eq JE (pvM 0) (aw aY (aj eq JE (pvM 0)) ab)) (ac (aJ (aM bi (ar (pvM 1) ab) ae) (ac (aO (bj Kv hr (pvM 0) (aA (ar (pvM 1) ab) (ar (pvM 1) ab))))) (aa (cr (bj Lj hr (aj eq JR (pvM 0)) (aA (ar (pvM 1) ab) (ar (pvM 1) ab))) (bF 2 rfl (aE (aX 2 dc) (aE (aX 3 dc) bq)))) (aa (aO (bj JY hr (pvM 0) (aA ab (ad (bc ae (ar (pvM 1) ab) (pvM 2)))))) (ac (aO (bj K9 hr (pvM 0) (aA (ar (pvM 1) ab) (pvM 3))))))))))),?_⟩
 symm
 intro H1 m1
 obtain⟨Y1,g1⟩:=Y.setY (s':=g.s.sDone (g.s.done+1)) m1 ⟨rfl,rfl,rfl,rfl,rfl⟩
 have h0':=Y1.obj
 have r1:=a8 (g1.kt Y) o4
 clear h0 o1 o2 o3 oi
 cases o with
 | start m nm=>
  obtain⟨_,ys,e,a1,a2⟩:=bm r1
  cases e
  cases a2 with | cons b1 a2=>cases a2 with | cons b2 a2=>cases a2 with | cons b3 a2=>cases a2 with | cons b4 a2=>
  cases a2;cases b1;cases b2;cases b3
  obtain⟨xa,ys,rfl,x1,x2⟩:=bm b4
  cases x2
  symm
  refine⟨⟨(nm,xa),⟨g.P,g.c,g.s.sDone (g.s.done+1),g.tg⟩⟩,rfl,⟨Y1,oo,.inr x1,B.bg,B.nb,(show g.s.hd.length<=1000 from za B),by show g.s.lg.length+1<16000000;lia,Nat.le_trans B.ag (by decide)⟩,λv H2 po=>?_⟩
  obtain⟨_,c2,tg2,e2,Y2,g2,k2⟩:=po
  exact q _ _ ⟨rfl,c2,tg2,e2,Y2,g1.trans g2,λx hx hd=>k2 x hx hd⟩
 | bring m k=>
  obtain⟨⟨l,mo⟩,t1⟩:=oo
  obtain⟨_,ys,e,a1,a2⟩:=bm r1
  cases e
  cases a2 with | cons b1 a2=>cases a2 with | cons b2 a2=>cases a2 with | cons b3 a2=>cases a2 with | cons b4 a2=>
  cases a2;cases b1;cases b2;cases b3;cases b4
  obtain⟨⟨dg,g0⟩,_⟩:=id Y1.go
  obtain⟨sc,es,el⟩:∃sc,g.c.gc.s=some sc/\(sc.l,sc.m)=(l,mo):=by
   have:=Y.se
   rw [t1] at this
   cases z:g.c.gc.s with
   | none=>rw [z] at this;cases this
   | some sc=>rw [z] at this;exact⟨sc,rfl,Option.some.inj this⟩
  cases el
  change ∀v H',v=V.non/\Yp C K g H H' ((g.s.sDone (g.s.done+1)).bring k)->Q v H' at q
  unfold YS.bring at q
  rw [show(g.s.sDone (g.s.done+1)).sl=g.s.sl from rfl,t1] at q
  dsimp only at q
  symm
  refine⟨(g.c.gc,sc,k),rfl,⟨Y1.go,es⟩,λv H2 po=>?_⟩
  obtain⟨p2,r2,rfl,e2,n2,l2,f2,G2⟩:=po
  dsimp only at e2 f2 G2
  have z2:=Y1.tg.off n2
  have hcs:(g.c.gc.sS (some (sc.up k))).cs=g.c.gc.cs:=by unfold GC.cs GC.sS;rw [es];rfl
  obtain⟨Y2,g2⟩:=Y1.setG (λa ha=>by rw [List.mem_singleton.mp ha];unfold GC.cs;rw [es];exact M9 _ (MV _ MU)) f2 G2 hcs rfl Y1.ts
  have h0'':H2 g.c.y=some (.ins C.y g.c.dx (aS _ _)):=Y2.obj
  have a1':=g2.kt Y1 _ _ a1
  clear h0' a1
  symm
  intro p3 H3 n3 k3 e3
  refine⟨⟨(0,p3,_,[.str "brings",.str "bin",.int (brg sc k)]),⟨g.P,g.c.sG (g.c.gc.sS (some (sc.up k))),_,g.tg⟩⟩,rfl,⟨Y2.same k3,e3,.cons (.str _) (.cons (.str _) (.cons (.int _) .nil)),⟨NU _ _,MP rfl⟩,by show g.s.lg.length<16000000;lia⟩,λv H4 po=>?_⟩
  obtain⟨rfl,c4,tg4,e4,Y4,g4,k4⟩:=po
  have e4:c4.y=g.c.y:=e4
  have hy:=Y4.obj
  rw [e4] at hy
  have gg:=(cY k3).trans g4
  have a1'':=gg.kt Y2 _ _ a1'
  symm
  refine⟨(g.c.y,"bin",r2),rfl,gg.1 _ _ z2 l2,λv H5 po=>?_⟩
  obtain⟨rfl,rfl⟩:=po
  exact q _ _ ⟨rfl,c4,tg4,e4,Y4,(g1.trans g2).trans gg,λx hx hd=>k4 x hx hd⟩
end
inductive Shp:Str->List Str->List Tr->Prop
 | wait {e:Tr}:Shp "wait" [] [e]
 | one {w x:Str} {e:Tr}:w∈(["take","give","put","get","let","say"]:List Str)->Shp w [x] [e]
 | start {nm:Str} {es:List Tr}:es.length<=100->Shp "start" [nm] es
mutual
def dq:Sm->Prop
 | .pl w _ ns es=>Shp w ns es
 | .fi _ sg _ _ x y=>(sg= "<"\/sg= "=")/\ig x/\ig y
 | .wh _ sg _ _ x=>(sg= "<"\/sg= "=")/\ig x
def ig:List Sm->Prop
 | []=>True
 | s::r=>dq s/\ig r
end
section
variable{C:CA}{K:N5}{P:OR}{w:OV}{mg:Str->Option OL}{base:Heap}
theorem a7(h:FzL K H xs (d::ds)):∃v r,xs=v::r/\Fz K H v d/\FzL K H r ds:=by
 cases h with | cons a b=>exact⟨_,_,rfl,a,b⟩
theorem ft(h:Fz K H v (.str x)):v= .str x:=by cases h;rfl
theorem oH(h:Fz K H v (.int x)):v= .int x:=by cases h;rfl
theorem dN(h:FzL K H xs []):xs= []:=by cases h;rfl
theorem qt(ns:List Str)(es:List Tr):plD "start" ns es=ns.map .str++[.tuple (es.map trD)]:=by unfold plD;rw [Th rfl]
theorem sW{w:Str}(h:w≠"start")(ns:List Str)(es:List Tr):plD w ns es=ns.map .str++es.map trD:=by unfold plD;rw [Tf h]
theorem oI{H:Hp}{v:V}{wd:Str}{k:Int}{ns:List Str}{es:List Tr}(h:Fz K H v (smD (.pl wd k ns es))):∃a xs,v= .ref a/\H a=some (.tup (.str wd::.int k::xs))/\FzL K H xs (plD wd ns es):=by
 unfold smD at h
 obtain⟨a,xs,rfl,h1,h2⟩:=bm h
 obtain⟨v1,r,rfl,f1,h2⟩:=a7 h2
 obtain⟨v2,r,rfl,f2,h2⟩:=a7 h2
 rw [ft f1,oH f2] at h1
 exact⟨a,r,rfl,h1,h2⟩
theorem lB{H:Hp}{v:V}{k:Int}{sg:Str}{a b:Tr}{x y:List Sm}(h:Fz K H v (smD (.fi k sg a b x y))):∃p va vb vx vy,v= .ref p/\H p=some (.tup [.str "if",.int k,.str sg,va,vb,.ref vx,.ref vy])/\Fz K H va (trD a)/\Fz K H vb (trD b)/\Fz K H (.ref vx) (.tuple (bdD x))/\Fz K H (.ref vy) (.tuple (bdD y)):=by
 unfold smD at h
 obtain⟨p,xs,rfl,h1,h2⟩:=bm h
 obtain⟨v1,r,rfl,f1,h2⟩:=a7 h2
 obtain⟨v2,r,rfl,f2,h2⟩:=a7 h2
 obtain⟨v3,r,rfl,f3,h2⟩:=a7 h2
 obtain⟨v4,r,rfl,f4,h2⟩:=a7 h2
 obtain⟨v5,r,rfl,f5,h2⟩:=a7 h2
 obtain⟨v6,r,rfl,f6,h2⟩:=a7 h2
 obtain⟨v7,r,rfl,f7,h2⟩:=a7 h2
 rw [ft f1,oH f2,ft f3,dN h2] at h1
 obtain⟨ax,_,rfl,_⟩:=bm f6
 obtain⟨ay,_,rfl,_⟩:=bm f7
 exact⟨p,v4,v5,ax,ay,rfl,h1,f4,f5,f6,f7⟩
theorem lC{H:Hp}{v:V}{k:Int}{sg:Str}{a b:Tr}{x:List Sm}(h:Fz K H v (smD (.wh k sg a b x))):∃p va vb vx,v= .ref p/\H p=some (.tup [.str "while",.int k,.str sg,va,vb,.ref vx])/\Fz K H va (trD a)/\Fz K H vb (trD b)/\Fz K H (.ref vx) (.tuple (bdD x)):=by
 unfold smD at h
 obtain⟨p,xs,rfl,h1,h2⟩:=bm h
 obtain⟨v1,r,rfl,f1,h2⟩:=a7 h2
 obtain⟨v2,r,rfl,f2,h2⟩:=a7 h2
 obtain⟨v3,r,rfl,f3,h2⟩:=a7 h2
 obtain⟨v4,r,rfl,f4,h2⟩:=a7 h2
 obtain⟨v5,r,rfl,f5,h2⟩:=a7 h2
 obtain⟨v6,r,rfl,f6,h2⟩:=a7 h2
 rw [ft f1,oH f2,ft f3,dN h2] at h1
 obtain⟨ax,_,rfl,_⟩:=bm f6
 exact⟨p,v4,v5,ax,rfl,h1,f4,f5,f6⟩
theorem none_of(k:Same H H1)(h:H1 p=none):H p=none:=by
 cases z:H p with
 | none=>rfl
 | some u=>rw [k _ _ z] at h;cases h
def Gm(K:N5):Sp:=spG (A:=Addr×Sm) (λa=>[.ref a.1]) (λa H=>Fz K H (.ref a.1) (smD a.2)/\dq a.2) (λa H v H'=>∃r vs,v= .ref r/\H r=none/\Same H H'/\H' r=some (.lst vs)/\FzL K H' vs (a.2.es.map trD))
theorem Ii(D:DefAt K mg "expressions_of" hX ["statement"])(J9:mg "list" =none):OkD P w K mg base 1 "expressions_of" ["statement"] (Gm K):=by
 refine D.okG gB (λ_=>rfl) λa f cdv A outer s0 H Q E hr p q=>?_
 obtain⟨a,s⟩:=a
 dsimp only at p q⊢
 obtain⟨h,ok⟩:=p
 have hu:=cn hr
 have fin:∀r H' vs,H r=none->Same H H'->H' r=some (.lst vs)->FzL K H vs (s.es.map trD)->Q (.ref r) H':=λr H' vs hr g e f=>q _ _ ⟨r,vs,rfl,hr,g,e,a0 (Kt.of g) f⟩
 refine⟨_,(aa (aP 1 gB (ar (pvM 0) ab)) (aa (aJ (aM bi (pvM 1) ae) (ac (az (bK cb J9 (aB (ar (pvM 0) ab))))) aG) (aa (aJ (aM bi (pvM 1) ae) (ac (az (aq (aB (ar (pvM 0) ab))))) aG) (aa (aJ (gK kn (pvM 1) (ad (aA ae ae)) (by with_unfolding_all rfl)) (ac (az (aq (aA (ar (pvM 0) ab) (ar (pvM 0) ab))))) aG) (aa (aJ (gK kn (pvM 1) (ad (aA ae ae)) (by with_unfolding_all rfl)) (ac (az (aq aL))) aG) (ac (az (aq (aB (ar (pvM 0) ab)))))))))),?_⟩
 cases s with
 | fi k sg a' b' x y=>
  obtain⟨_,va,vb,vx,vy,e,h1,f1,f2,_⟩:=lB h
  cases e
  symm
  intro p1 H1 n1 k1 e1
  have h1':=k1 _ _ h1
  symm
  intro p2 H2 n2 k2 e2
  exact fin p2 H2 _ (none_of k1 n2) (ah k1 k2) e2 (.cons f1 (.cons f2 .nil))
 | wh k sg a' b' x=>
  obtain⟨_,va,vb,vx,e,h1,f1,f2,_⟩:=lC h
  cases e
  symm
  intro p1 H1 n1 k1 e1
  have h1':=k1 _ _ h1
  symm
  intro p2 H2 n2 k2 e2
  exact fin p2 H2 _ (none_of k1 n2) (ah k1 k2) e2 (.cons f1 (.cons f2 .nil))
 | pl wd k ns es=>
  obtain⟨_,xs,e,h1,h2⟩:=oI h
  cases e
  unfold dq at ok
  cases ok with
  | start le=>
   rw [qt] at h2
   obtain⟨v1,r,rfl,g1,h2⟩:=a7 h2
   obtain⟨v2,r,rfl,g2,h2⟩:=a7 h2
   rw [dN h2,ft g1] at h1
   obtain⟨ea,ys,rfl,y1,y2⟩:=bm g2
   symm
   intro p1 H1 n1 k1 e1
   exact fin p1 H1 _ n1 k1 e1 y2
  | wait=>
   rw [sW (by decide)] at h2
   obtain⟨v1,r,rfl,g1,h2⟩:=a7 h2
   rw [dN h2] at h1
   symm
   intro p1 H1 n1 k1 e1
   exact fin p1 H1 _ n1 k1 e1 (.cons g1 .nil)
  | @one _ x e hw=>
   have n1:wd≠"start"/\wd≠"wait"/\wd≠"if"/\wd≠"while"/\wd≠"draw"/\wd≠"stop":=by
    simp only [Na,MT,or_false] at hw
    rcases hw with e | e | e | e | e | e<;>(rw [e];decide)
   obtain⟨n1,n2,n3,n4,n5,n6⟩:=n1
   rw [sW n1] at h2
   obtain⟨v1,r,rfl,g1,h2⟩:=a7 h2
   obtain⟨v2,r,rfl,g2,h2⟩:=a7 h2
   rw [dN h2,ft g1] at h1
   symm
   intro p1 H1 m1 k1 e1
   have h1':=k1 _ _ h1
   symm
   refine bz (by rw [decide_eq_false (Ne.symm n3),decide_eq_false (Ne.symm n4)];decide) ?_
   symm
   intro p2 H2 m2 k2 e2
   have h1'':=k2 _ _ h1'
   clear h1 h1'
   symm
   refine bz (by rw [decide_eq_false (Ne.symm n5),decide_eq_false (Ne.symm n6)];decide) ?_
   symm
   intro p3 H3 m3 k3 e3
   exact fin p3 H3 _ (none_of k1 (none_of k2 m3)) (ah (ah k1 k2) k3) e3 (.cons g2 .nil)
def Gn(K:N5):Sp:=spG (A:=Addr×Sm) (λa=>[.ref a.1]) (λa H=>Fz K H (.ref a.1) (smD a.2)/\dq a.2) (λa H v H'=>∃r,v= .ref r/\Same H H'/\H' r=some (.tup (a.2.ns.map .str)))
theorem Ij(D:DefAt K mg "names_of" ot ["statement"]):OkD P w K mg base 1 "names_of" ["statement"] (Gn K):=by
 refine D.okG lT (λ_=>rfl) λa f cdv A outer s0 H Q E hr p q=>?_
 obtain⟨a,s⟩:=a
 dsimp only at p q⊢
 obtain⟨h,ok⟩:=p
 have hu:=cn hr
 have fin:∀r H',Same H H'->H' r=some (.tup (s.ns.map .str))->Q (.ref r) H':=λr H' g e=>q _ _ ⟨r,rfl,g,e⟩
 refine⟨_,(aa (aP 1 lT (ar (pvM 0) ab)) (aa (aJ (gK kn (pvM 1) (ad (aU ae ae ae ae)) (by with_unfolding_all rfl)) (ac (az (ad aL))) aG) (aa (aJ (aM bi (pvM 1) ae) (ac (az (ad (aA (ar (pvM 0) ab) (ar (pvM 0) ab))))) aG) (ac (az (ad (aB (ar (pvM 0) ab)))))))),?_⟩
 cases s with
 | fi k sg a' b' x y=>
  obtain⟨_,va,vb,vx,vy,e,h1,f1,f2,_⟩:=lB h
  cases e
  symm
  intro p1 H1 n1 k1 e1
  have h1':=k1 _ _ h1
  symm
  intro p2 H2 n2 k2 e2
  exact fin p2 H2 (ah k1 k2) e2
 | wh k sg a' b' x=>
  obtain⟨_,va,vb,vx,e,h1,f1,f2,_⟩:=lC h
  cases e
  symm
  intro p1 H1 n1 k1 e1
  have h1':=k1 _ _ h1
  symm
  intro p2 H2 n2 k2 e2
  exact fin p2 H2 (ah k1 k2) e2
 | pl wd k ns es=>
  obtain⟨_,xs,e,h1,h2⟩:=oI h
  cases e
  unfold dq at ok
  cases ok with
  | start le=>
   rw [qt] at h2
   obtain⟨v1,r,rfl,g1,h2⟩:=a7 h2
   obtain⟨v2,r,rfl,g2,h2⟩:=a7 h2
   rw [dN h2,ft g1] at h1
   symm
   intro p1 H1 n1 k1 e1
   have h1':=k1 _ _ h1
   symm
   intro p2 H2 n2 k2 e2
   exact fin p2 H2 (ah k1 k2) e2
  | wait=>
   symm
   intro p1 H1 n1 k1 e1
   have h1':=k1 _ _ h1
   symm
   intro p2 H2 n2 k2 e2
   exact fin p2 H2 (ah k1 k2) e2
  | @one _ x e hw=>
   have n1:wd≠"start"/\wd≠"wait"/\wd≠"if"/\wd≠"while"/\wd≠"draw"/\wd≠"stop":=by
    simp only [Na,MT,or_false] at hw
    rcases hw with e | e | e | e | e | e<;>(rw [e];decide)
   obtain⟨n1,n2,n3,n4,n5,n6⟩:=n1
   rw [sW n1] at h2
   obtain⟨v1,r,rfl,g1,h2⟩:=a7 h2
   obtain⟨v2,r,rfl,g2,h2⟩:=a7 h2
   rw [dN h2,ft g1] at h1
   symm
   intro p1 H1 m1 k1 e1
   have h1':=k1 _ _ h1
   symm
   refine bz (by rw [decide_eq_false (Ne.symm n2),decide_eq_false (Ne.symm n3),decide_eq_false (Ne.symm n4),decide_eq_false (Ne.symm n6)];decide) ?_
   symm
   intro p2 H2 m2 k2 e2
   exact fin p2 H2 (ah k1 k2) e2
def Gp(K:N5):Sp:=spG (A:=Addr×Sm) (λa=>[.ref a.1]) (λa H=>Fz K H (.ref a.1) (smD a.2)/\dq a.2) (λa H v H'=>∃r vs,v= .ref r/\H r=none/\Same H H'/\H' r=some (.lst vs)/\FzL K H' vs (a.2.bs.map λb=>.tuple (bdD b)))
theorem Ik(D:DefAt K mg "bodies_of" lS ["statement"]):OkD P w K mg base 1 "bodies_of" ["statement"] (Gp K):=by
 refine D.okG sB (λ_=>rfl) λa f cdv A outer s0 H Q E hr p q=>?_
 obtain⟨a,s⟩:=a
 dsimp only at p q⊢
 obtain⟨h,ok⟩:=p
 have hu:=cn hr
 have fin:∀r H' vs,H r=none->Same H H'->H' r=some (.lst vs)->FzL K H vs (s.bs.map λb=>.tuple (bdD b))->Q (.ref r) H':=λr H' vs hr g e f=>q _ _ ⟨r,vs,rfl,hr,g,e,a0 (Kt.of g) f⟩
 refine⟨_,(aa (aJ (aM bi (ar (pvM 0) ab) ae) (ac (az (aq (aA (ar (pvM 0) ab) (ar (pvM 0) ab))))) aG) (aa (aJ (aM bi (ar (pvM 0) ab) ae) (ac (az (aq (aB (ar (pvM 0) ab))))) aG) (ac (az (aq aL))))),?_⟩
 cases s with
 | fi k sg a' b' x y=>
  obtain⟨_,va,vb,vx,vy,e,h1,f1,f2,f3,f4⟩:=lB h
  cases e
  have i5:atI [V.str "if",V.int k,V.str sg,va,vb,V.ref vx,V.ref vy] 5=some (.ref vx):=rfl
  have i6:atI [V.str "if",V.int k,V.str sg,va,vb,V.ref vx,V.ref vy] 6=some (.ref vy):=rfl
  symm
  intro p1 H1 n1 k1 e1
  exact fin p1 H1 _ n1 k1 e1 (.cons f3 (.cons f4 .nil))
 | wh k sg a' b' x=>
  obtain⟨_,va,vb,vx,e,h1,f1,f2,f3⟩:=lC h
  cases e
  have i5:atI [V.str "while",V.int k,V.str sg,va,vb,V.ref vx] 5=some (.ref vx):=rfl
  symm
  intro p1 H1 n1 k1 e1
  exact fin p1 H1 _ n1 k1 e1 (.cons f3 .nil)
 | pl wd k ns es=>
  obtain⟨_,xs,e,h1,h2⟩:=oI h
  cases e
  unfold dq at ok
  have n1:¬wd= "if":=by
   cases ok with
   | one hw=>
    simp only [Na,MT,or_false] at hw
    rcases hw with e | e | e | e | e | e<;>(rw [e];decide)
   | _=>decide
  have n2:¬wd= "while":=by
   cases ok with
   | one hw=>
    simp only [Na,MT,or_false] at hw
    rcases hw with e | e | e | e | e | e<;>(rw [e];decide)
   | _=>decide
  symm
  intro p1 H1 n1 k1 e1
  exact fin p1 H1 _ n1 k1 e1 .nil
theorem A5(D:DefAt K mg "holds" uY ["sign","left","right"]):OkD P w K mg base 1 "holds" ["sign","left","right"] (spG (A:=Str×Int×Int) (λa=>[.str a.1,.int a.2.1,.int a.2.2]) (λ_ _=>True) (λa H v H'=>v= .bl (fq a.1 a.2.1 a.2.2)/\H'=H)):=by
 refine D.okG Ay (λ_=>rfl) λa f cdv A outer s0 H Q E hr p q=>?_
 obtain⟨sg,i,j⟩:=a
 dsimp only at p q⊢
 unfold fq at q
 refine⟨_,(aa (aJ (aM bi (pvM 0) ae) (ac (az (cv jF (pvM 1) (pvM 2)))) aG) (ac (az (cv bi (pvM 1) (pvM 2))))),?_⟩
 by_cases c:sg= "<"
 ·rw [Th c] at q
  symm
 ·rw [Tf c] at q
  symm
end
mutual
def Sm.dp:Sm->Nat
 | .pl _ _ _ _=>0
 | .fi _ _ _ _ x y=>max (bdp x) (bdp y)+1
 | .wh _ _ _ _ x=>bdp x+1
def bdp:List Sm->Nat
 | []=>0
 | s::r=>max s.dp (bdp r)
end
theorem gO:∀l:List Sm,bdD l=l.map smD
 | []=>by unfold bdD;rfl
 | s::r=>by unfold bdD;rw [gO r];rfl
theorem pL:∀{l:List Sm} {s:Sm},s∈l->s.dp<=bdp l
 | x::r,s,h=>by
  unfold bdp
  rcases List.mem_cons.mp h with rfl | h
  ·exact Nat.le_max_left _ _
  ·exact Nat.le_trans (pL h) (Nat.le_max_right _ _)
theorem mU:∀{l:List Sm} {s:Sm},ig l->s∈l->dq s
 | x::r,s,k,h=>by
  rcases List.mem_cons.mp h with rfl | h
  ·exact k.1
  ·exact mU k.2 h
theorem B1{s:Sm}{b:List Sm}(h:b∈s.bs):bdp b<s.dp:=by
 cases s with
 | pl=>cases h
 | fi k sg a b' x y=>
  unfold Sm.dp
  have h':b∈[x,y]:=h
  simp only [Na,MT,or_false] at h'
  rcases h' with rfl | rfl<;>lia
 | wh k sg a b' x=>
  unfold Sm.dp
  have h':b∈[x]:=h
  rw [Od] at h'
  subst h';lia
theorem Il{s:Sm}{b:List Sm}(k:dq s)(h:b∈s.bs):ig b:=by
 cases s with
 | pl=>cases h
 | fi k' sg a b' x y=>
  unfold dq at k
  have h':b∈[x,y]:=h
  simp only [Na,MT,or_false] at h'
  rcases h' with rfl | rfl
  ·exact k.2.1
  ·exact k.2.2
 | wh k' sg a b' x=>
  unfold dq at k
  have h':b∈[x]:=h
  rw [Od] at h'
  subst h';exact k.2
def i9(row:Int):List (List Sm)->bB
 | []=>[]
 | b::r=>match bO b row 0 b with
  | []=>i9 row r
  | p::q=>p::q
theorem mV(row:Int)(b:List Sm)(r:List (List Sm)):i9 row (b::r)=match bO b row 0 b with
 | []=>i9 row r
 | p::q=>p::q:=rfl
theorem vp(row:Int)(b:List Sm):i9 row [b]=bO b row 0 b:=by
 rw [mV]
 cases bO b row 0 b<;>rfl
theorem A9(row:Int)(s:Sm):fU row s=i9 row s.bs:=by
 cases s with
 | pl=>unfold fU;rfl
 | fi k sg a b x y=>
  unfold fU
  show _=i9 row [x,y]
  rw [mV,vp]
  all_goals cases bO x row 0 x<;>rfl
 | wh k sg a b x=>
  unfold fU
  show _=i9 row [x]
  rw [vp]
mutual
theorem gq(bd:List Sm)(row:Int):∀(i:Nat) (l:List Sm),(bO bd row i l).length<=bdp l+1
 | i,[]=>by unfold bO;exact Nk _
 | i,s::r=>by
  have h1:=zd row s
  have h2:=gq bd row (i+1) r
  unfold bO bdp
  split
  ·simp only [M8,NI];lia
  ·split
   ·lia
   ·rename_i e
    rw [e] at h1
    simp only [M8] at h1⊢
    lia
theorem zd(row:Int):∀s:Sm,(fU row s).length<=s.dp
 | .pl _ _ _ _=>by unfold fU;exact Nk _
 | .fi _ _ _ _ x y=>by
  have h1:=gq x row 0 x
  have h2:=gq y row 0 y
  unfold fU Sm.dp
  split
  ·lia
  ·rename_i e
   rw [e] at h1
   lia
 | .wh _ _ _ _ x=>by
  have h1:=gq x row 0 x
  unfold fU Sm.dp
  exact h1
end
section
variable{C:CA}{K:N5}{P:OR}{w:OV}{mg:Str->Option OL}{base:Heap}
def paD(x:List Sm×Nat):OQ:=.tuple [.tuple (bdD x.1),.int x.2]
def PaL(K:N5)(H:Hp)(l:Addr)(p:bB):Prop:=∃vs,H l=some (.lst vs)/\FzL K H vs (p.map paD)
theorem PaL.same(g:Same H H')(h:PaL K H l p):PaL K H' l p:=by
 obtain⟨vs,h1,h2⟩:=h
 exact⟨vs,g _ _ h1,a0 (Kt.of g) h2⟩
theorem lE(h:H t=some (.tup [.ref b,.int i]))(f:Fz K H (.ref b) (.tuple (bdD bd))):Fz K H (.ref t) (paD (bd,i)):=Rp.tup (dj h) (.cons f (.cons (.int _) .nil))
theorem wX{H:Hp}{v:V}{s:Sm}(h:Fz K H v (smD s)):∃a xs,v= .ref a/\H a=some (.tup (.str s.w::.int s.k::xs)):=by
 cases s with
 | pl=>obtain⟨a,xs,e,h1,_⟩:=oI h;exact⟨a,xs,e,h1⟩
 | fi=>obtain⟨a,_,_,_,_,e,h1,_⟩:=lB h;exact⟨a,_,e,h1⟩
 | wh=>obtain⟨a,_,_,_,e,h1,_⟩:=lC h;exact⟨a,_,e,h1⟩
def PbI(H:Hp)(bd:List Sm)(b:Addr)(row:Int)(i:Nat)(σ:St)(H':Hp):Prop:=∃v2 v3 v4 v5,σ= [some (.ref b),some (.int row),v2,v3,v4,v5]/\Same H H'/\bO bd row 0 bd=bO bd row i (bd.drop i)
def PbJ(H:Hp)(sm:Sm)(b a:Addr)(row:Int)(i j:Nat)(σ:St)(H':Hp):Prop:=∃v4 v5,σ= [some (.ref b),some (.int row),some (.int i),some (.ref a),v4,v5]/\Same H H'/\i9 row sm.bs=i9 row (sm.bs.drop j)
def Gq(K:N5)(n:Nat):Sp:=spG (A:=Addr×List Sm×Int) (λa=>[.ref a.1,.int a.2.2]) (λa H=>Fz K H (.ref a.1) (.tuple (bdD a.2.1))/\ig a.2.1/\bdp a.2.1<n) (λa H v H'=>∃l,v= .ref l/\H l=none/\Same H H'/\PaL K H' l (bE a.2.1 a.2.2))
theorem B2(D:DefAt K mg "path_behind" jX ["body","row"])(Lp:mg "enumerate" =none)(Lh:OkD P w K mg base 1 "bodies_of" ["statement"] (Gp K)):∀n:Nat,n<=100->OkD P w K mg base (n+1) "path_behind" ["body","row"] (Gq K n)
 | 0,_=>D.never _ λvs H Q E h=>by obtain⟨_,_,⟨_,_,h⟩,_⟩:=h;lia
 | n+1,hn=>by
  have KP:=B2 D Lp Lh n (by lia)
  refine D.okG cV (λ_=>rfl) λa f cdv A outer s0 H Q E hr p q=>?_
  obtain⟨b,bd,row⟩:=a
  dsimp only at p q⊢
  obtain⟨h,ok,hd⟩:=p
  refine⟨_,(aa (aJ (aM bi (pv 1) ab) (ac (az (aq (aB (ad (aA (pv 0) ab)))))) aG) (aa (cB O1.never rfl (An rfl Lp (aB (pv 0))) (bF 2 rfl (aE (aX 2 cV) (aE (aX 3 cV) bq))) (aa (aJ (aM bi (ar (pv 3) ab) (pv 1)) (ac (az (aq (aB (ad (aA (pv 0) (aw aY (pv 2) ab))))))) aG) (ac (cB O1.never rfl (bM (aH Lh hr rfl (aB (pv 3)))) (aX 4 cV) (aa (aP 5 cV (aH KP hr rfl (aA (pv 4) (pv 1)))) (ac (aJ (dH (pv 5) (λ_=>rfl)) (ac (az (aw cz (aq (aB (ad (aA (pv 0) (rj (aM bi (ar (pv 3) ab) ae) (pv 2) (aw aY (pv 2) ab)))))) (pv 5)))) aG))))))) (ac (az (aq aL))))),?_⟩
  obtain⟨_,xs,e,h1,h2⟩:=bm h
  cases e
  by_cases c:row=0
  ·have ep:bE bd row= [(bd,0)]:=by unfold bE;rw [Th c]
   rw [ep] at q
   symm
   intro p1 H1 n1 k1 e1
   symm
   exact λp2 H2 n2 k2 e2=>q _ _ ⟨p2,rfl,none_of k1 n2,ah k1 k2,_,e2,.cons (lE (i:=0) (k2 _ _ e1) (a8 (Kt.of (ah k1 k2)) h)) .nil⟩
  ·have ep:bE bd row=bO bd row 0 bd:=by unfold bE;rw [Tf c]
   rw [ep] at q
   symm
   refine cI ?_
   symm
   rw [gO] at h2
   refine⟨⟨_,SqT.of h1⟩,yr xs (PbI H bd b row) ⟨none,none,none,none,rfl,λ_ _ z=>z,rfl⟩ (λi σ H2 _ zz=>?_) (λi x σ H2 p H3 hx zz hp g3 h3=>?_) λσ H2 zz=>?_⟩
   ·obtain⟨_,_,_,_,_,g,_⟩:=zz
    exact SqT.of (g _ _ h1)
   ·obtain⟨v2,v3,v4,v5,rfl,g2,iv⟩:=zz
    have hi:i<bd.length:=by
     have l1:=bG h2
     rw [MQ] at l1
     rw [<-l1]
     exact(List.getElem?_eq_some_iff.mp hx).1
    obtain⟨sm,hs⟩:∃sm,bd[i]? =some sm:=⟨_,MR hi⟩
    obtain⟨x',hx',fx⟩:=ju h2 (i:=i) (d:=smD sm) (by rw [M4,hs];rfl)
    cases hx.symm.trans hx'
    clear hx'
    have ed:bd.drop i=sm::bd.drop (i+1):=by
     have e2:=Nt hi
     rw [(List.getElem?_eq_some_iff.mp hs).2] at e2
     exact e2
    rw [ed] at iv
    have ms:sm∈bd:=Nc hs
    have g23:=ah g2 g3
    obtain⟨a,r,rfl,hA⟩:=wX (a8 (Kt.of g23) fx)
    have h13:=g23 _ _ h1
    clear hx ed hs
    symm
    split
    ·rename_i ek
     have ev:bO bd row 0 bd= [(bd,i+1)]:=by rw [iv];unfold bO;rw [Th ek]
     rw [ev] at q
     symm
     intro p1 H4 n1 k1 e1
     symm
     have g4:=ah g23 k1
     exact λp2 H5 n2 k2 e2=>q _ _ ⟨p2,rfl,none_of g4 n2,ah g4 k2,_,e2,.cons (lE (i:=i+1) (k2 _ _ e1) (a8 (Kt.of (ah g4 k2)) h)) .nil⟩
    ·rename_i ek
     have ev:bO bd row i (sm::bd.drop (i+1))=match i9 row sm.bs with
      | []=>bO bd row (i+1) (bd.drop (i+1))
      | p::q=>(bd,if sm.w= "while" then i else i+1)::p::q:=by
      rw [<-A9]
      conv=>lhs;unfold bO
      rw [Tf ek]
      all_goals cases fU row sm<;>rfl
     rw [ev] at iv
     clear ev
     symm
     refine cI ?_
     unfold cF
     symm
     refine⟨(a,sm),rfl,⟨a8 (Kt.of g23) fx,mU ok ms⟩,λv H4 w4=>?_⟩
     obtain⟨r4,vs,rfl,n4,g4,h4,f4⟩:=w4
     have g24:=ah g23 g4
     refine⟨r4,rfl,⟨_,SqL.of h4⟩,mh (xs:=vs) (PbJ H4 sm b a row i) ⟨_,_,rfl,λ_ _ z=>z,rfl⟩ (λj σ H5 _ zz=>?_) (λj y σ H5 hy zz=>?_) λσ H5 zz=>?_⟩
     ·obtain⟨_,_,_,g,_⟩:=zz
      exact SqL.of (g _ _ h4)
     ·obtain⟨w4,w5,rfl,g5,jv⟩:=zz
      have hj:j<sm.bs.length:=by
       have l1:=bG f4
       rw [MQ] at l1
       rw [<-l1]
       exact(List.getElem?_eq_some_iff.mp hy).1
      obtain⟨bb,hb⟩:∃bb,sm.bs[j]? =some bb:=⟨_,MR hj⟩
      obtain⟨y',hy',fy⟩:=ju f4 (i:=j) (d:=.tuple (bdD bb)) (by rw [M4,hb];rfl)
      cases hy.symm.trans hy'
      clear hy' hy
      have ed:sm.bs.drop j=bb::sm.bs.drop (j+1):=by
       have e2:=Nt hj
       rw [(List.getElem?_eq_some_iff.mp hb).2] at e2
       exact e2
      rw [ed,mV] at jv
      have mb:bb∈sm.bs:=Nc hb
      clear ed hb
      obtain⟨ya,yx,rfl,hY,_⟩:=bm fy
      symm
      refine⟨(ya,bb,row),rfl,⟨a8 (Kt.of g5) fy,Il (mU ok ms) mb,?_⟩,λv H6 w6=>?_⟩
      ·have:=pL ms
       have:=B1 mb
       show bdp bb<n
       lia
      obtain⟨l6,rfl,n6,g6,ps,h6,f6⟩:=w6
      have ef:bE bb row=bO bb row 0 bb:=by unfold bE;rw [Tf c]
      dsimp only at f6
      rw [ef] at f6
      have gL:=ah g24 (ah g5 g6)
      have hA6:=(ah g4 (ah g5 g6)) _ _ hA
      have pl:=gq bb row 0 bb
      have dl:bdp bb<100:=by
       have:=pL ms
       have:=B1 mb
       lia
      symm
      refine⟨!ps.isEmpty,.inl ⟨ps,SqL.of h6,rfl⟩,?_⟩
      cases eP:bO bb row 0 bb with
      | nil=>
       rw [eP] at f6 jv
       cases dN f6
       symm
       exact⟨_,_,rfl,ah g5 g6,jv⟩
      | cons y ys=>
       rw [eP] at f6 jv pl
       obtain⟨v0,r0,rfl,f0,fr⟩:=a7 f6
       dsimp only at jv
       rw [jv] at iv
       dsimp only at iv
       rw [iv] at q
       have zl:=bG f6
       simp only [M8,MQ] at zl pl
       clear iv jv
       refine di rfl ?_
       have hb6:=gL _ _ h1
       have fin:∀p7 H7 H8 p9 H9 (e:Nat),(bd,if sm.w= "while" then i else i+1)=(bd,e)->Same H6 H7->H7 p7=some (.tup [.ref b,.int e])->Same H7 H8->H8 p9=none->Same H8 H9->H9 p9=some (.lst (V.ref p7::v0::r0))->Q (.ref p9) H9:=λp7 H7 H8 p9 H9 e ee g7 h7 g8 n9 g9 h9=>by
        rw [ee] at q
        have gg:=ah gL (ah g7 g8)
        exact q _ _ ⟨p9,rfl,none_of gg n9,ah gg g9,_,h9,.cons (lE (i:=e) (g9 _ _ (g8 _ _ h7)) (a8 (Kt.of (ah gg g9)) h)) (a0 (Kt.of (ah g7 (ah g8 g9))) f6)⟩
       by_cases cw:sm.w= "while"
       ·rw [Th cw] at fin
        rw [cw] at hA6
        symm
        intro p7 H7 n7 g7 h7
        symm
        intro p8 H8 n8 g8 h8
        have h68:=g8 _ _ (g7 _ _ h6)
        symm
        exact⟨by have:=PQ;lia,λp9 H9 n9 g9 h9=>fin p7 H7 H8 p9 H9 i rfl g7 h7 g8 n9 g9 h9⟩
       ·rw [Tf cw] at fin
        symm
        intro p7 H7 n7 g7 h7
        symm
        intro p8 H8 n8 g8 h8
        have h68:=g8 _ _ (g7 _ _ h6)
        symm
        exact⟨by have:=PQ;lia,λp9 H9 n9 g9 h9=>fin p7 H7 H8 p9 H9 (i+1) rfl g7 h7 g8 n9 g9 h9⟩
     ·obtain⟨w4,w5,rfl,g5,jv⟩:=zz
      rw [bG f4,MQ,Oi] at jv
      rw [jv] at iv
      exact⟨_,_,_,_,rfl,ah g24 g5,iv⟩
   ·obtain⟨v2,v3,v4,v5,rfl,g2,iv⟩:=zz
    rw [bG h2,MQ,Oi] at iv
    rw [iv] at q
    unfold bO at q
    symm
    exact λp2 H5 n2 k2 e2=>q _ _ ⟨p2,rfl,none_of g2 n2,ah g2 k2,_,e2,.nil⟩
end
theorem ze(p:bB)(x:List Sm×Nat):bR (p++[x])=if x.2=x.1.length then bR p else p++[x]:=by
 unfold bR
 rw [List.reverse_append,List.reverse_singleton,List.singleton_append,List.dropWhile_cons]
 by_cases c:x.2=x.1.length
 ·rw [Th (decide_eq_true c),Th c]
 ·rw [Tf (by simpa using c),Tf c,List.reverse_cons,List.reverse_reverse]
section
variable{C:CA}{K:N5}{P:OR}{w:OV}{mg:Str->Option OL}{base:Heap}
theorem sX(h:FzL K H vs (ds++[d])):∃us v,vs=us++[v]/\FzL K H us ds/\Fz K H v d:=by
 induction ds generalizing vs with
 | nil=>
  obtain⟨v,r,rfl,f,h⟩:=a7 h
  cases dN h
  exact⟨[],v,rfl,.nil,f⟩
 | cons e ds ih=>
  obtain⟨v,r,rfl,f,h⟩:=a7 h
  obtain⟨us,u,rfl,h1,h2⟩:=ih h
  exact⟨v::us,u,rfl,.cons f h1,h2⟩
theorem zf(h:Fz K H v (paD x)):∃t b ys,v= .ref t/\H t=some (.tup [.ref b,.int x.2])/\Fz K H (.ref b) (.tuple (bdD x.1))/\H b=some (.tup ys)/\FzL K H ys (x.1.map smD):=by
 obtain⟨t,xs,rfl,h1,h2⟩:=bm h
 obtain⟨v1,r,rfl,f1,h2⟩:=a7 h2
 obtain⟨v2,r,rfl,f2,h2⟩:=a7 h2
 rw [oH f2,dN h2] at h1
 obtain⟨b,ys,rfl,h3,h4⟩:=bm f1
 rw [gO] at h4
 exact⟨t,b,ys,rfl,h1,f1,h3,h4⟩
def Fr1(l:Addr)(H H':Hp):Prop:=∀a o,a≠l->H a=some o->H' a=some o
theorem Fr1.refl:Fr1 l H H:=λ_ _ _ h=>h
theorem Fr1.trans(f:Fr1 l H H')(g:Fr1 l H' H''):Fr1 l H H'':=λa o n h=>g a o n (f a o n h)
theorem Fr1.mu(m:Mu H l o H'):Fr1 l H H':=λa o n h=>m.old h n
theorem Fr1.of(g:Same H H'):Fr1 l H H':=λa o _ h=>g a o h
theorem Fr1.kt(f:Fr1 l H H')(h:H l=some (.lst xs)):Kt H H':=λc ys e=>f c _ (λz=>by rw [z,h] at e;cases e) e
def PaO(p:bB):Prop:=∀x∈p,x.2<=x.1.length
def Gs(K:N5):Sp:=spG (A:=Addr×bB) (λa=>[.ref a.1]) (λa H=>PaL K H a.1 a.2/\PaO a.2) (λa H v H'=>Fr1 a.1 H H'/\PaL K H' a.1 (bR a.2)/\match cN a.2 with | none=>v= .non | some m=>∃b,v= .ref b/\Fz K H' v (smD m))
def NsI(K:N5)(H:Hp)(l:Addr)(p:bB)(m:Nat)(σ:St)(H':Hp):Prop:=∃q,m=q.length/\σ= [some (.ref l),none,none]/\Fr1 l H H'/\PaL K H' l q/\PaO q/\bR q=bR p
theorem Im(D:DefAt K mg "next_statement" ie ["path"])(JZ:mg "len" =none):OkD P w K mg base 1 "next_statement" ["path"] (Gs K):=by
 refine D.okG d8 (λ_=>rfl) λa f cdv A outer s0 H Q E hr p q=>?_
 obtain⟨l,p0⟩:=a
 obtain⟨h,ok⟩:=p
 refine⟨_,(aa (cZ O1.never (PW.pt (dG (dH (pvM 0) (λ_=>rfl)) (cR (aM bi (ar (ar (pvM 0) (kX jd ab)) ab) (iF iK rfl JZ PM (aB (ar (ar (pvM 0) (kX jd ab)) ab))))))) (ac (aO (xD Pn Qd Qe uJ (pvM 0))))) (aa (aJ (dv (dH (pvM 0) (λ_=>rfl))) (ac (az bp)) aG) (aa (cr (ar (pvM 0) (kX jd ab)) (bF 2 rfl (aE (aX 1 d8) (aE (aX 2 d8) bq)))) (ac (az (ar (pvM 1) (pvM 2))))))),?_⟩
 symm
 refine⟨NsI K H l p0,⟨_,p0,rfl,rfl,.refl,h,ok,rfl⟩,λm σ H1 z=>?_⟩
 obtain⟨pp,rfl,rfl,f1,⟨vs,h1,h2⟩,o1,ep⟩:=z
 rcases List.eq_nil_or_concat pp with rfl | ⟨pi,x,rfl⟩
 ·cases dN h2
  symm
  refine⟨false,.inl ⟨[],SqL.of h1,rfl⟩,?_⟩
  symm
  refine⟨false,.inl ⟨[],SqL.of h1,rfl⟩,?_⟩
  have en:=ep.symm
  refine q _ _ ⟨f1,by rw [en];exact⟨[],h1,.nil⟩,?_⟩
  unfold cN
  rw [en]
  rfl
 ·rw [List.concat_eq_append,MX] at h2
  rw [List.concat_eq_append] at o1 ep
  obtain⟨us,v,rfl,h2',h3⟩:=sX h2
  clear h2
  have h2:=h2'
  obtain⟨t,b,ys,rfl,h4,h5,h6,h7⟩:=zf h3
  have il:=rC us (V.ref t)
  have tr:vU K (.ref l) H1 true:=.inl ⟨_,SqL.of h1,by simp⟩
  have ly:ys.length=x.1.length:=by rw [bG h7,MQ]
  rw [ze] at ep
  symm
  refine⟨true,tr,?_⟩
  by_cases cx:x.2=x.1.length
  ·rw [Th cx] at ep
   symm
   refine⟨NsI K H l p0 pi.length,λσ' H' z=>⟨pi.length,by simp,z⟩,?_⟩
   symm
   refine⟨⟨_,SqL.of h1⟩,l,us,.ref t,rfl,rfl,h1,λH2 m2=>?_⟩
   exact⟨pi,rfl,rfl,f1.trans (.mu m2),⟨us,m2.at_,a0 ((Fr1.mu m2).kt h1) h2⟩,λy hy=>o1 y (NA _ hy),ep⟩
  ·rw [Tf cx] at ep
   symm
   apply bz (λz=>cx (by lia))
   symm
   refine⟨true,tr,?_⟩
   have lt:=Nat.lt_of_le_of_ne (o1 x (by simp)) cx
   obtain⟨m,hm⟩:∃m,x.1[x.2]? =some m:=⟨_,MR lt⟩
   obtain⟨u,hu,fu⟩:=ju h7 (i:=x.2) (by rw [M4,hm];rfl)
   have iu:=cH hu
   symm
   obtain⟨ua,ux,rfl,_⟩:=wX fu
   refine q _ _ ⟨f1,by rw [<-ep];exact⟨_,h1,by rw [MX];exact fP h2 (.cons h3 .nil)⟩,?_⟩
   unfold cN
   rw [<-ep,List.getLast?_append]
   simp only [List.getLast?_singleton,Option.some_or]
   rw [hm]
   exact⟨ua,rfl,fu⟩
theorem jO(p:bB)(x:List Sm×Nat):oF (p++[x])=p++[(x.1,x.2+1)]:=by
 unfold oF
 simp
theorem sY(n:Nat):ixN (n+1) (-1)=some n:=by
 unfold ixN
 rw [Tf (by decide),Th (by lia)]
 congr 1
 lia
theorem Ba{us:List V}:(us++[u]).set us.length v=us++[v]:=by
 rw [List.set_append_right _ _ (Nat.le_refl _),Nat.sub_self]
 rfl
theorem PaL.app(h1:H l=some (.lst ws))(h2:FzL K H vs (p.map paD))(m:Mu H l (.lst (vs++[v])) H')(f:Fz K H v (paD y)):PaL K H' l (p++[y]):=by
 have kt:=(Fr1.mu m).kt h1
 exact⟨_,m.at_,by rw [MX];exact fP (a0 kt h2) (.cons (a8 kt f) .nil)⟩
def Bb(K:N5):Sp:=spG (A:=Addr×bB×(List Sm×Nat)) (λa=>[.ref a.1]) (λa H=>PaL K H a.1 (a.2.1++[a.2.2])) (λa H v H'=>Fr1 a.1 H H'/\PaL K H' a.1 (a.2.1++[(a.2.2.1,a.2.2.2+1)]))
theorem Ip(D:DefAt K mg "pass_by" qm ["path"]):OkD P w K mg base 1 "pass_by" ["path"] (Bb K):=by
 refine D.okG jN (λ_=>rfl) λa f cdv A outer s0 H Q E hr p q=>?_
 obtain⟨l,p0,x⟩:=a
 dsimp only at p q⊢
 obtain⟨vs,h1,h2⟩:=p
 refine⟨_,(aa (cr (ar (pvM 0) (kX jd ab)) (bF 2 rfl (aE (aX 1 jN) (aE (aX 2 jN) bq)))) (ac (cr (ad (aA (pvM 1) (aw aY (pvM 2) ab))) (nG (pvM 0) (kX jd ab) iG)))),?_⟩
 rw [MX] at h2
 obtain⟨us,v,rfl,h2',h3⟩:=sX h2
 obtain⟨t,b,ys,rfl,h4,h5,h6,h7⟩:=zf h3
 have il:=rC us (V.ref t)
 have jl:ixN (us++[V.ref t]).length (-1)=some us.length:=by rw [MW];exact sY _
 symm
 intro p1 H1 n1 g1 e1
 have h1':=g1 _ _ h1
 symm
 intro H2 m2
 rw [Ba] at m2
 exact q _ _ ⟨(Fr1.of g1).trans (.mu m2),PaL.app h1' (a0 (Kt.of g1) h2') m2 (lE (i:=x.2+1) e1 (a8 (Kt.of g1) h5))⟩
def Gu(K:N5):Sp:=spG (A:=Addr×Bool×Addr×Sm×bB×(List Sm×Nat)) (λa=>[.ref a.1,.bl a.2.1,.ref a.2.2.1]) (λa H=>Fz K H (.ref a.1) (smD a.2.2.2.1)/\0<a.2.2.2.1.dp/\PaL K H a.2.2.1 (a.2.2.2.2.1++[a.2.2.2.2.2])/\a.2.2.2.2.1.length<1000) (λa H v H'=>Fr1 a.2.2.1 H H'/\PaL K H' a.2.2.1 (fO (a.2.2.2.2.1++[a.2.2.2.2.2]) a.2.1 a.2.2.2.1))
theorem Iq(D:DefAt K mg "choose_body" jY ["statement","held","path"])(KZ:OkD P w K mg base 1 "pass_by" ["path"] (Bb K)):OkD P w K mg base 2 "choose_body" ["statement","held","path"] (Gu K):=by
 refine D.okG pD (λ_=>rfl) λa f cdv A outer s0 H Q E hr p q=>?_
 obtain⟨a,held,l,sm,p0,x⟩:=a
 dsimp only at p q⊢
 obtain⟨h,dp,⟨vs,h1,h2⟩,sz⟩:=p
 refine⟨_,(ac (aJ (aM bi (ar (pvM 0) ab) ae) (aa (aO (aH KZ hr rfl (aB (pvM 2)))) (ac (aO (cy (pvM 2) (ad (aA (rj (bX (pvM 1)) (ar (pvM 0) ab) (ar (pvM 0) ab)) ab)))))) (ac (aJ (bX (pvM 1)) (ac (aO (cy (pvM 2) (ad (aA (ar (pvM 0) ab) ab))))) (ac (aO (aH KZ hr rfl (aB (pvM 2))))))))),?_⟩
 cases sm with
 | pl=>unfold Sm.dp at dp;exact absurd dp (by decide)
 | fi k sg a' b' x' y'=>
  obtain⟨_,va,vb,vx,vy,e,k1,f1,f2,f3,f4⟩:=lB h
  cases e
  have i5:atI [V.str "if",V.int k,V.str sg,va,vb,V.ref vx,V.ref vy] 5=some (.ref vx):=rfl
  have i6:atI [V.str "if",V.int k,V.str sg,va,vb,V.ref vx,V.ref vy] 6=some (.ref vy):=rfl
  have nl:a≠l:=λz=>by rw [z,h1] at k1;cases k1
  symm
  refine⟨(l,p0,x),rfl,⟨vs,h1,h2⟩,λv H1 w1=>?_⟩
  obtain⟨fr,us,m1,m2⟩:=w1
  dsimp only at fr m1 m2
  have k1':=fr _ _ nl k1
  have kt:=fr.kt h1
  have sl:us.length<1001:=by rw [bG m2,MQ,MW];simp;lia
  have ec:fO (p0++[x]) held (.fi k sg a' b' x' y')=(p0++[(x.1,x.2+1)])++[(if held=true then x' else y',0)]:=by rw [<-jO];rfl
  rw [ec] at q
  have fin:∀p2 H2 b bd,Same H1 H2->H2 p2=some (.tup [.ref b,.int 0])->Fz K H (.ref b) (.tuple (bdD bd))->(if held=true then x' else y')=bd->us.length<ON/\∀H3,Mu H2 l (.lst (us++[.ref p2])) H3->Q .non H3:=λp2 H2 b bd g2 e2 fb eb=>⟨by have:=PQ;lia,λH3 m3=>q _ _ ⟨(fr.trans (.of g2)).trans (.mu m3),by rw [eb];exact PaL.app (g2 _ _ m1) (a0 (Kt.of g2) m2) m3 (lE (i:=0) e2 (a8 (kt.trans (Kt.of g2)) fb))⟩⟩
  cases held with
  | true=>
   symm
   intro p2 H2 n2 g2 e2
   have h12:=g2 _ _ m1
   symm
   exact fin p2 H2 vx x' g2 e2 f3 rfl
  | false=>
   symm
   intro p2 H2 n2 g2 e2
   have h12:=g2 _ _ m1
   symm
   exact fin p2 H2 vy y' g2 e2 f4 rfl
 | wh k sg a' b' x'=>
  obtain⟨_,va,vb,vx,e,k1,f1,f2,f3⟩:=lC h
  cases e
  have i5:atI [V.str "while",V.int k,V.str sg,va,vb,V.ref vx] 5=some (.ref vx):=rfl
  cases held with
  | true=>
   have sl:vs.length<1001:=by rw [bG h2,MQ,MW];simp;lia
   symm
   intro p2 H2 n2 g2 e2
   have h12:=g2 _ _ h1
   symm
   exact⟨by have:=PQ;lia,λH3 m3=>q _ _ ⟨(Fr1.of g2).trans (.mu m3),PaL.app h12 (a0 (Kt.of g2) h2) m3 (lE (i:=0) e2 (a8 (Kt.of g2) f3))⟩⟩
  | false=>
   have ec:fO (p0++[x]) false (.wh k sg a' b' x')=p0++[(x.1,x.2+1)]:=by rw [<-jO];rfl
   rw [ec] at q
   symm
   exact⟨(l,p0,x),rfl,⟨vs,h1,h2⟩,λv H1 w1=>q _ _ w1⟩
theorem Yd.fr1{Pp:Pr}{H H':Hp}{c:Ce}{s:YS}{tg:Addr->Nat}{l:Addr}{xs:List V}(Y:Yd C K Pp H c s tg)(f:Fr1 l H H')(t:tg l=0)(h:H l=some (.lst xs)):Yd C K Pp H' c s tg:=by
 have kt:=f.kt h
 have nz:∀a o,tg a≠0->H a=some o->H' a=some o:=λa o z e=>f a o (λq=>z (by rw [q];exact t)) e
 obtain⟨t1,t2,t3⟩:=Y.tg.st
 have S:Sta K Pp H' c:=by
  obtain⟨k1,h1,r1⟩:=Y.nm
  obtain⟨k3,h3,r3⟩:=Y.bd
  obtain⟨vs,h4,r4⟩:=Y.to
  exact⟨⟨k1,nz _ _ (by rw [t1];decide) h1,r1.kt kt⟩,nz _ _ (by rw [t2];decide) Y.dr,⟨k3,nz _ _ (by rw [t3];decide) h3,r3.kt kt⟩,⟨vs,kt _ _ h4,a0 kt r4⟩⟩
 refine⟨nz _ _ (by rw [Y.tg.y];decide) Y.obj,S.nm,S.dr,S.bd,S.to,nz _ _ (by rw [Y.tg.p];decide) Y.pl,lx Y.ag λa u h e=>?_,Y.go.grow λa h u e=>nz _ _ (by rw [Y.tg.g a h];decide) e,Y.ts,Y.se,nz _ _ (by rw [Y.tg.dh];decide) Y.dh,Y.hd.fr λx hx a ha o e=>?_,?_,a8 kt Y.sv,?_⟩
 ·rcases h with rfl | rfl | ⟨xs,rfl⟩
  ·exact nz _ _ (by rw [Y.tg.a.1];decide) e
  ·exact nz _ _ (by rw [Y.tg.a.2];decide) e
  ·exact kt _ _ e
 ·obtain⟨h1,h2⟩:=Y.tg.hd x hx
  rcases ha with rfl | rfl
  ·exact nz _ _ (by rw [h1];unfold hoT;lia) e
  ·exact nz _ _ (by rw [h2];unfold kdT;lia) e
 ·obtain⟨vs,h1,h2⟩:=Y.lg
  exact⟨vs,nz _ _ (by rw [Y.tg.l];decide) h1,a0 kt h2⟩
 ·refine⟨Y.tg.y,Y.tg.st,Y.tg.p,Y.tg.l,Y.tg.a,Y.tg.g,Y.tg.dh,Y.tg.hd,λa z=>?_⟩
  obtain⟨o,e,n⟩:=Y.tg.own a z
  exact⟨o,nz _ _ z e,n⟩
theorem PaL.gr(g:Gr H tg H' tg')(t:Tg H c tg)(z:tg l=0)(h:PaL K H l p):PaL K H' l p/\tg' l=0:=by
 obtain⟨vs,h1,h2⟩:=h
 refine⟨⟨vs,g.1 _ _ z h1,a0 (λa xs h=>g.1 _ _ (t.tup h) h) h2⟩,?_⟩
 rcases Np (tg' l) with q | q
 ·exact q
 ·rcases g.2 l (Nw q) with q | q
  ·exact absurd z q
  ·rw [h1] at q;cases q
def Gv(C:CA)(K:N5)(n:Nat):Sp:=spG (A:=(Int×Addr×Addr×Hd×Addr×List V×List Tr)×Gy) (λa=>[.ref a.2.c.y,.ref a.1.2.1,.ref a.1.2.2.2.2.1])
 (λa H=>Yd C K a.2.P H a.2.c a.2.s a.2.tg/\(a.1.1,a.1.2.1,a.1.2.2.1)∈a.2.c.hs/\HdO C H a.1.1 a.1.2.1 a.1.2.2.1 a.1.2.2.2.1/\H a.1.2.2.2.2.1=some (.lst a.1.2.2.2.2.2.1)/\FzL K H a.1.2.2.2.2.2.1 (a.1.2.2.2.2.2.2.map trD)/\(∀e∈a.1.2.2.2.2.2.2,e.depth<n/\e.good)/\Wo.Bd a.2.s.now/\Wo.Bd a.1.1/\a.1.2.2.2.2.2.2.length<=1000)
 (λa H v H'=>match bP a.2.s.now a.1.1 a.1.2.2.2.2.2.2 [] with
  | .ok xs=>∃r,v= .ref r/\H r=none/\Same H H'/\H' r=some (.lst (xs.map .int))
  | .error e=>v= .non/\Yp C K a.2 H H' (a.2.s.sSt (some e)))
def RkI(H:Hp)(now n:Int)(es:List Tr)(y ho ea r:Addr)(i:Nat)(σ:St)(H':Hp):Prop:=∃acc v4 v5 v6,σ= [some (.ref y),some (.ref ho),some (.ref ea),some (.ref r),v4,v5,v6]/\Same H H'/\H' r=some (.lst (List.map V.int acc))/\acc.length<=i/\bP now n es []=bP now n (es.drop i) acc
theorem sZ{now own:Int}{a:List Int}:bP now own [] a= .ok a:=rfl
theorem qu{now own:Int}{a:List Int}{e:Tr}{r:List Tr}:bP now own (e::r) a=match Wo.ev [] now own e with
 | .val n=>bP now own r (a++[n])
 | .unk x=>.error [.str "unknown",.int own,.str x]
 | .big=>.error [.str "big",.int own]:=rfl
theorem Ir{n:Nat}(D:MethAt K C.y "reckon" "PlainYard.reckon" gj ["self","hand","expressions"])(eq:Cls K C.y)(JF:NoAttr K C.y "now")(JU:Cls K C.d)(JM:NoAttr K C.d "number")(Kf:NoAttr K C.d "known")(Lq:OkD P w K mg base (n+1) "worth" ["e","values","now","own"] (Wo.spW K n))(KS:OkM P w K mg base 1 C.y "stop_by" ["self","hand","stop"] (sV C K)):OkM P w K mg base (n+2) C.y "reckon" ["self","hand","expressions"] (Gv C K n):=by
 refine D.okG eq bY (λ_=>rfl) λa f cdv A outer s0 H Q E hr p q=>?_
 obtain⟨⟨m,ho,kd,d,ea,vs,es⟩,g⟩:=a
 dsimp only at p q⊢
 obtain⟨Y,hm,⟨⟨dx,d1⟩,d2⟩,h1,h2,gd,nb,mb,el⟩:=p
 have h0:=Y.obj
 refine⟨_,(aa (aP 3 bY (aq aL)) (aa (cB O1.never rfl (bM (pvM 2)) (aX 4 bY) (aa (cr (aH Lq hr rfl (aU (pvM 4) (aj JU Kf (pvM 1)) (aj eq JF (pvM 0)) (aj JU JM (pvM 1)))) (bF 2 rfl (aE (aX 5 bY) (aE (aX 6 bY) bq)))) (aa (aJ (aM fD (pvM 6) bp) (aa (aO (bj KS hr (pvM 0) (aA (pvM 1) (pvM 6)))) (ac (az bp))) aG) (ac (aO (cy (pvM 3) (pvM 5))))))) (ac (az (pvM 3))))),?_⟩
 symm
 intro r H1 n1 k1 e1
 symm
 refine cI ?_
 unfold cF
 symm
 refine⟨⟨_,SqL.of (k1 _ _ h1)⟩,mh (xs:=vs) (RkI H g.s.now m es g.c.y ho ea r) ⟨[],_,_,_,rfl,k1,e1,Nat.le_refl _,rfl⟩ (λi σ H2 _ zz=>?_) (λi x σ H2 hx zz=>?_) λσ H2 zz=>?_⟩
 ·obtain⟨_,_,_,_,_,g,_⟩:=zz
  exact SqL.of (g _ _ h1)
 ·obtain⟨acc,v4,v5,v6,rfl,k2,e2,al,iv⟩:=zz
  have hi:i<es.length:=by
   have l1:=bG h2
   rw [MQ] at l1
   rw [<-l1]
   exact(List.getElem?_eq_some_iff.mp hx).1
  obtain⟨e,he⟩:∃e,es[i]? =some e:=⟨_,MR hi⟩
  obtain⟨x',hx',fx⟩:=ju h2 (i:=i) (d:=trD e) (by rw [M4,he];rfl)
  cases hx.symm.trans hx'
  clear hx'
  have ed:es.drop i=e::es.drop (i+1):=by
   have e2:=Nt hi
   rw [(List.getElem?_eq_some_iff.mp he).2] at e2
   exact e2
  rw [ed,qu] at iv
  have me:e∈es:=Nc he
  have h02:=k2 _ _ h0
  have d12:=k2 _ _ d1
  have d22:=k2 _ _ d2
  clear hx ed he h0 d1 d2
  symm
  refine⟨x,kd,[],g.s.now,m,e,rfl,Rp.mono gM (a8 (Kt.of k2) fx),(gd e me).1,(gd e me).2,d22,(λ_ h=>absurd h MT),nb,mb,λv H3 k3 rv=>?_⟩
  have k23:=ah k2 k3
  have h03:=k3 _ _ h02
  have d13:=k3 _ _ d12
  have e3:=k3 _ _ e2
  clear h02 d12 d22 e2
  cases ee:Wo.ev [] g.s.now m e with
  | val z=>
   rw [ee] at rv iv
   obtain⟨t,u1,u2,rfl,ht,hx,hy⟩:=Rp.tup2 rv
   cases hx.int_inv
   cases hy.non_inv
   dsimp only at iv
   have al':(acc.map V.int).length<ON:=by rw [MQ];have:=PQ;lia
   symm
   exact λH4 m4=>⟨acc++[z],_,_,_,rfl,m4.same k23 n1,by rw [MX];exact m4.at_,by rw [MW];simp;lia,iv⟩
  | unk y=>
   rw [ee] at rv iv
   obtain⟨t,u1,u2,rfl,ht,hx,hy⟩:=Rp.tup2 rv
   cases hx.non_inv
   obtain⟨b,ys,rfl,hb,rr⟩:=hy.tup_inv
   obtain⟨z1,r1,rfl,hz1,rs⟩:=rr.cons_inv
   obtain⟨z2,r2,rfl,hz2,rt⟩:=rs.cons_inv
   cases hz1.str_inv
   cases hz2.str_inv
   cases rt.nil_inv
   dsimp only at iv
   rw [iv] at q
   symm
   refine⟨((m,ho,kd,b,"unknown",[.str y],[.str y]),g),rfl,⟨Y.same k23,hm,hb,.cons (.str _) .nil,by simp⟩,λv H4 w4=>?_⟩
   symm
   exact q _ _ ⟨rfl,Yp.then (c1:=g.c) (s1:=g.s) (tg1:=g.tg) rfl (cY k23) (λx hx _=>hx) w4.2 λ_ h=>h⟩
  | big=>
   rw [ee] at rv iv
   obtain⟨t,u1,u2,rfl,ht,hx,hy⟩:=Rp.tup2 rv
   cases hx.non_inv
   obtain⟨b,ys,rfl,hb,rr⟩:=hy.tup_inv
   obtain⟨z1,r1,rfl,hz1,rs⟩:=rr.cons_inv
   cases hz1.str_inv
   cases rs.nil_inv
   dsimp only at iv
   rw [iv] at q
   symm
   refine⟨((m,ho,kd,b,"big",[],[]),g),rfl,⟨Y.same k23,hm,hb,.nil,by simp⟩,λv H4 w4=>?_⟩
   symm
   exact q _ _ ⟨rfl,Yp.then (c1:=g.c) (s1:=g.s) (tg1:=g.tg) rfl (cY k23) (λx hx _=>hx) w4.2 λ_ h=>h⟩
 ·obtain⟨acc,v4,v5,v6,rfl,k2,e2,al,iv⟩:=zz
  rw [bG h2,MQ,Oi,sZ] at iv
  rw [iv] at q
  have q':=q _ _ ⟨r,rfl,n1,k2,e2⟩
  symm
def Ypl(C:CA)(K:N5)(g:Gy)(l:Addr)(H H':Hp)(s':YS)(p':bB):Prop:=∃c' tg',c'.y=g.c.y/\Yd C K g.P H' c' s' tg'/\((∀a o,a≠l->g.tg a=0->H a=some o->H' a=some o)/\∀a,tg' a≠0->g.tg a≠0\/H a=none)/\(∀x∈g.c.hs,(∃d,(x.1,d)∈s'.hd)->x∈c'.hs)/\tg' l=0/\PaL K H' l p'
structure DoA where
 n:Int
 ho:Addr
 kd:Addr
 d:Hd
 sa:Addr
 sm:Sm
 l:Addr
 p:bB
 x:List Sm×Nat
structure DoP(C:CA)(K:N5)(N:Nat)(a:DoA)(g:Gy)(H:Hp):Prop where
 y:Yd C K g.P H g.c g.s g.tg
 hm:(a.n,a.ho,a.kd)∈g.c.hs
 hd:(a.n,a.d)∈g.s.hd
 st:Fz K H (.ref a.sa) (smD a.sm)
 ok:dq a.sm
 pa:PaL K H a.l (a.p++[a.x])
 pz:a.p.length<1000
 tl:g.tg a.l=0
 es:∀e∈a.sm.es,e.depth<N/\e.good
 nb:Wo.Bd g.s.now
 mb:Wo.Bd a.n
 yb:YB g.s
 dk:∀w k ns es xs,a.sm= .pl w k ns es->bP g.s.now a.n es []= .ok xs->gm g.P w ns xs
 lg:g.s.lg.length+500<16000000
def doR(a:DoA)(g:Gy):Bool×YS×bB:=g.s.doS a.n (a.p++[a.x]) a.sm
def Gw(C:CA)(K:N5)(N:Nat):Sp:=spG (A:=DoA×Gy) (λa=>[.ref a.2.c.y,.ref a.1.ho,.ref a.1.sa,.ref a.1.l]) (λa H=>DoP C K N a.1 a.2 H) (λa H v H'=>v= .bl (doR a.1 a.2).1/\Ypl C K a.2 a.1.l H H' (doR a.1 a.2).2.1 (doR a.1 a.2).2.2)
theorem ii{s:Sm}(h:dq s):s.es.length<=1000:=by
 cases s with
 | pl w k ns es=>
  unfold dq at h
  show es.length<=1000
  cases h with
  | start h=>lia
  | _=>simp
 | _=>show 2<=1000;decide
theorem Ypl.of{g:Gy}{l:Addr}{H H':Hp}{s':YS}{p:bB}(h:Yp C K g H H' s')(Y:Yd C K g.P H g.c g.s g.tg)(pa:PaL K H l p)(tl:g.tg l=0):Ypl C K g l H H' s' p:=by
 obtain⟨c',tg',e,Y',gr,hs⟩:=h
 obtain⟨p1,p2⟩:=PaL.gr gr Y.tg tl pa
 exact⟨c',tg',e,Y',⟨λa o _ z h=>gr.1 a o z h,gr.2⟩,hs,p2,p1⟩
theorem jP{now own:Int}:∀{es:List Tr} {a xs:List Int},bP now own es a= .ok xs->xs.length=a.length+es.length
 | [],a,xs,h=>by rw [sZ] at h;cases h;rfl
 | e::r,a,xs,h=>by
  rw [qu] at h
  split at h
  ·have:=jP h
   rw [this,MW]
   simp only [M8,NI]
   lia
  ·cases h
  ·cases h
theorem Ypl.path{g:Gy}{l:Addr}{H H3 H5:Hp}{p':bB}{xs:List V}(Y:Yd C K g.P H g.c g.s g.tg)(tl:g.tg l=0)(k:Same H H3)(h:H3 l=some (.lst xs))(f:Fr1 l H3 H5)(pa:PaL K H5 l p'):Ypl C K g l H H5 g.s p':=⟨g.c,g.tg,rfl,(Y.same k).fr1 f tl h,⟨λa o n _ e=>f a o n (k _ _ e),λa z=>.inl z⟩,λx hx _=>hx,tl,pa⟩
theorem Ypl.deed(Y:Yd C K g.P H5 g.c g.s g.tg)(tl:g.tg l=0)(k:Same H H3)(pa0:PaL K H l p)(f:Fr1 l H3 H4)(k':Same H4 H5)(pa:PaL K H5 l p')(h:Yp C K g H5 H6 s'):Ypl C K g l H H6 s' p':=by
 obtain⟨c',tg',e,Y',gr,hs⟩:=h
 obtain⟨p1,p2⟩:=PaL.gr gr Y.tg tl pa
 have up:=λa o n e=>k' _ _ (f a o n (k _ _ e))
 refine⟨c',tg',e,Y',⟨λa o n z e=>gr.1 a o z (up a o n e),λa z=>?_⟩,hs,p2,p1⟩
 rcases gr.2 a z with q | q
 ·exact .inl q
 ·cases ea:H a with
  | none=>exact .inr rfl
  | some o=>
   by_cases n:a=l
   ·subst n
    obtain⟨vs,h1,_⟩:=pa
    rw [h1] at q;cases q
   ·rw [up a o n ea] at q;cases q
theorem Iu{N:Nat}(D:MethAt K C.y "do" "PlainYard.do" jq ["self","hand","statement","path"])(eq:Cls K C.y)(K0:OkM P w K mg base (N+2) C.y "reckon" ["self","hand","expressions"] (Gv C K N))(La:OkD P w K mg base 1 "expressions_of" ["statement"] (Gm K))(Lk:OkD P w K mg base 2 "choose_body" ["statement","held","path"] (Gu K))(LR:OkD P w K mg base 1 "holds" ["sign","left","right"] (spG (A:=Str×Int×Int) (λa=>[.str a.1,.int a.2.1,.int a.2.2]) (λ_ _=>True) (λa H v H'=>v= .bl (fq a.1 a.2.1 a.2.2)/\H'=H)))(KZ:OkD P w K mg base 1 "pass_by" ["path"] (Bb K))(LH:OkD P w K mg base 1 "names_of" ["statement"] (Gn K))(Lb:OkM P w K mg base 5 C.y "deed" ["self","hand","word","names","numbers"] (vm C K)):OkM P w K mg base (N+9) C.y "do" ["self","hand","statement","path"] (Gw C K N):=by
 refine D.okG eq iS (λ_=>rfl) λa f cdv A outer s0 H Q E hr p q=>?_
 obtain⟨⟨n,ho,kd,d,sa,sm,l,p0,x⟩,g⟩:=a
 dsimp only at p q⊢
 obtain⟨Y,hm,hd,st,ok,pa,pz,tl,es,nb,mb,yb,dk,lg⟩:=p
 dsimp only at hm hd st ok pa pz tl es mb dk
 obtain⟨d',D1,dm⟩:=Y.hd.mem hm
 have ee:=gN yb.hn.nd hd
 rw [gN yb.hn.nd dm] at ee
 cases ee
 clear dm
 have h0:=Y.obj
 refine⟨_,(aa (aP 4 iS (bj K0 hr (pvM 0) (aA (pvM 1) (aH La hr rfl (aB (pvM 2)))))) (aa (aJ (aM je (pvM 4) bp) (ac (az ci)) aG) (aa (aJ (gK kn (ar (pvM 2) ab) (ad (aA ae ae)) (by with_unfolding_all rfl)) (aa (aO (aH Lk hr rfl (bc (pvM 2) (aH LR hr rfl (bc (ar (pvM 2) ab) (ar (pvM 4) ab) (ar (pvM 4) ab))) (pvM 3)))) (ac (az ci))) aG) (aa (aO (aH KZ hr rfl (aB (pvM 3)))) (ac (az (bj Lb hr (pvM 0) (aU (pvM 1) (ar (pvM 2) ab) (aH LH hr rfl (aB (pvM 2))) (pvM 4))))))))),?_⟩
 symm
 refine⟨(sa,sm),rfl,⟨st,ok⟩,λv H1 w1=>?_⟩
 obtain⟨r1,vs,rfl,n1,k1,e1,f1⟩:=w1
 have Y1:=Y.same k1
 have h01:=Y1.obj
 symm
 refine⟨((n,ho,kd,d,r1,vs,sm.es),g),rfl,⟨Y1,hm,D1.fr (λo e=>k1 _ _ e) (λo e=>k1 _ _ e),e1,f1,es,nb,mb,ii ok⟩,λv H2 w2=>?_⟩
 dsimp only at w2
 cases er:bP g.s.now n sm.es [] with
 | error e=>
  rw [er] at w2
  obtain⟨rfl,w2⟩:=w2
  have er':doR ⟨n,ho,kd,d,sa,sm,l,p0,x⟩ g=(false,g.s.sSt (some e),p0++[x]):=by unfold doR YS.doS;dsimp only;rw [er]
  rw [er'] at q
  symm
  exact q _ _ ⟨rfl,Ypl.of (Yp.then (c1:=g.c) (s1:=g.s) (tg1:=g.tg) rfl (cY k1) (λx hx _=>hx) w2 λ_ h=>h) Y pa tl⟩
 | ok xs=>
  rw [er] at w2
  obtain⟨r2,rfl,n2,k2,e2⟩:=w2
  have k12:=ah k1 k2
  cases sm with
  | pl wd k ns es'=>
   obtain⟨_,ws,e,h1,h2⟩:=oI st
   cases e
   have h12:=k12 _ _ h1
   have e2':=e2
   unfold dq at ok
   have w1:¬wd= "if":=by
    cases ok with
    | one hw=>
     simp only [Na,MT,or_false] at hw
     rcases hw with e | e | e | e | e | e<;>(rw [e];decide)
    | _=>decide
   have w2:¬wd= "while":=by
    cases ok with
    | one hw=>
     simp only [Na,MT,or_false] at hw
     rcases hw with e | e | e | e | e | e<;>(rw [e];decide)
    | _=>decide
   symm
   intro p3 H3 n3 k3 e3
   have h13:=k3 _ _ h12
   have e23:=k3 _ _ e2
   have k13:=ah k12 k3
   obtain⟨us,l1,l2⟩:=pa.same k13
   symm
   refine bz (by rw [decide_eq_false (Ne.symm w1),decide_eq_false (Ne.symm w2)];decide) ?_
   symm
   refine⟨(l,p0,x),rfl,⟨us,l1,l2⟩,λv H4 w4=>?_⟩
   obtain⟨f4,p4⟩:=w4
   dsimp only at f4 p4
   have Y4:=(Y.same k13).fr1 f4 tl l1
   have st4:=a8 ((Kt.of k13).trans (f4.kt l1)) st
   have h14:=f4.kt l1 _ _ h13
   have ln:r2≠l:=λz=>by
    obtain⟨_,z1,_⟩:=pa.same k1
    rw [z,z1] at n2;cases n2
   have e24:=f4 _ _ ln e23
   have h04:=Y4.obj
   have er':doR ⟨n,ho,kd,d,sa,.pl wd k ns es',l,p0,x⟩ g=((g.s.deed n wd ns xs).1,(g.s.deed n wd ns xs).2,p0++[(x.1,x.2+1)]):=by unfold doR YS.doS;dsimp only;rw [er,jO]
   rw [er'] at q
   symm
   refine⟨(sa,.pl wd k ns es'),rfl,⟨st4,ok⟩,λv H5 w5=>?_⟩
   obtain⟨na,rfl,k5,e5⟩:=w5
   have Y5:=Y4.same k5
   have h05:=Y5.obj
   have e25:=k5 _ _ e24
   symm
   refine⟨((n,ho,kd,wd,na,ns,r2,xs),g),rfl,⟨Y5,hm,e5,e25,yb,dk _ _ _ _ _ rfl er,lg⟩,λv H6 w6=>?_⟩
   obtain⟨rfl,w6⟩:=w6
   exact q _ _ ⟨rfl,Ypl.deed Y5 tl k13 pa f4 k5 (p4.same k5) w6⟩
  | fi k sg a b x' y'=>
   obtain⟨_,va,vb,vx,vy,e,h1,f1,f2,f3,f4⟩:=lB st
   cases e
   have h12:=k12 _ _ h1
   have xl:=jP er
   obtain⟨i,j,rfl⟩:∃i j,xs= [i,j]:=by
    have xl':xs.length=2:=xl
    match xs,xl' with
    | [i,j],_=>exact⟨i,j,rfl⟩
   clear xl
   symm
   intro p3 H3 n3 k3 e3
   have h13:=k3 _ _ h12
   have e23:=k3 _ _ e2
   have k13:=ah k12 k3
   obtain⟨us,l1,l2⟩:=pa.same k13
   have er':doR ⟨n,ho,kd,d,sa,.fi k sg a b x' y',l,p0,x⟩ g=(true,g.s,fO (p0++[x]) (fq sg i j) (.fi k sg a b x' y')):=by unfold doR YS.doS;dsimp only;rw [er];rfl
   rw [er'] at q
   symm
   refine⟨(sg,i,j),rfl,trivial,λv H4 w4=>?_⟩
   obtain⟨rfl,rfl⟩:=w4
   refine⟨(sa,fq sg i j,l,.fi k sg a b x' y',p0,x),rfl,⟨a8 (Kt.of k13) st,(by unfold Sm.dp;exact Oz _),⟨us,l1,l2⟩,pz⟩,λv H5 w5=>?_⟩
   exact q _ _ ⟨rfl,Ypl.path Y tl k13 l1 w5.1 w5.2⟩
  | wh k sg a b x'=>
   obtain⟨_,va,vb,vx,e,h1,f1,f2,f3⟩:=lC st
   cases e
   have h12:=k12 _ _ h1
   have xl:=jP er
   obtain⟨i,j,rfl⟩:∃i j,xs= [i,j]:=by
    have xl':xs.length=2:=xl
    match xs,xl' with
    | [i,j],_=>exact⟨i,j,rfl⟩
   clear xl
   symm
   intro p3 H3 n3 k3 e3
   have h13:=k3 _ _ h12
   have e23:=k3 _ _ e2
   have k13:=ah k12 k3
   obtain⟨us,l1,l2⟩:=pa.same k13
   have er':doR ⟨n,ho,kd,d,sa,.wh k sg a b x',l,p0,x⟩ g=(true,g.s,fO (p0++[x]) (fq sg i j) (.wh k sg a b x')):=by unfold doR YS.doS;dsimp only;rw [er];rfl
   rw [er'] at q
   symm
   refine⟨(sg,i,j),rfl,trivial,λv H4 w4=>?_⟩
   obtain⟨rfl,rfl⟩:=w4
   refine⟨(sa,fq sg i j,l,.wh k sg a b x',p0,x),rfl,⟨a8 (Kt.of k13) st,(by unfold Sm.dp;exact Oz _),⟨us,l1,l2⟩,pz⟩,λv H5 w5=>?_⟩
   exact q _ _ ⟨rfl,Ypl.path Y tl k13 l1 w5.1 w5.2⟩
end
structure Jp(P:Pr)(N:Nat)(h:Int)(s:YS)(d:Hd)(m:Sm):Prop where
 hd:(h,d)∈s.hd
 ok:dq m
 es:∀e∈m.es,e.depth<N/\e.good
 nb:Wo.Bd s.now
 mb:Wo.Bd h
 yb:YB s
 dk:∀w k ns es xs,m= .pl w k ns es->bP s.now h es []= .ok xs->gm P w ns xs
 lg:s.lg.length+500<16000000
def wY(s:YS):Prop:=s.lg.length+1<16000000
def fQ(P:Pr)(N:Nat)(h:Int):Nat->YS->bB->Prop
 | 0,_,_=>False
 | f+1,s,p=>PaO p/\p.length<=1000/\HN s.hd/\∃d,bI h s.hd=some d/\(cN p=none->wY s)/\∀m,cN p=some m->¬s.stm=100->Jp P N h (s.enter h m.k) (d.sRow m.k) m/\(((s.enter h m.k).doS h (bR p) m).1=true->fQ P N h f ((s.enter h m.k).doS h (bR p) m).2.1 ((s.enter h m.k).doS h (bR p) m).2.2)
def Yq(C:CA)(K:N5)(g:Gy)(H H':Hp)(s':YS):Prop:=∃c' tg',c'.y=g.c.y/\Yd C K g.P H' c' s' tg'/\Gr H g.tg H' tg'
def Yw(C:CA)(K:N5)(g:Gy)(l:Addr)(b:Int×Addr×Addr)(H H':Hp)(s':YS)(p':bB):Prop:=∃c' tg',c'.y=g.c.y/\Yd C K g.P H' c' s' tg'/\Gr H g.tg H' tg'/\((∃d,(b.1,d)∈s'.hd)->b∈c'.hs)/\tg' l=0/\PaL K H' l p'
theorem zg{s:YS}(e:cN p=none):s.goOn h (f+1) p=s.endH h:=by
 unfold YS.goOn;rw [e]
theorem zh{s:YS}(e:cN p=some m)(e2:bI h s.hd=some d)(e3:s.stm=100):s.goOn h (f+1) p=s.enter h m.k:=by
 unfold YS.goOn YS.enter;rw [e,e2];dsimp only;rw [Th e3,Th e3]
theorem jw{h:Int}{f:Nat}{s:YS}{p:bB}{m:Sm}{d:Hd}(e:cN p=some m)(e2:bI h s.hd=some d)(e3:¬s.stm=100):s.goOn h (f+1) p=if ((s.enter h m.k).doS h (bR p) m).1=true then YS.goOn h f ((s.enter h m.k).doS h (bR p) m).2.1 ((s.enter h m.k).doS h (bR p) m).2.2 else ((s.enter h m.k).doS h (bR p) m).2.1:=by
 have ee:s.enter h m.k=(s.sStm (s.stm+1)).sHd (_K.setH h (d.sRow m.k) s.hd):=by unfold YS.enter;rw [e2];dsimp only;rw [Tf e3]
 rw [ee]
 conv=>lhs;unfold YS.goOn
 rw [e,e2];dsimp only;rw [Tf e3]
theorem zi(e:cN p=some m):∃pp x,bR p=pp++[x]:=by
 unfold cN at e
 rcases List.eq_nil_or_concat (bR p) with z | ⟨pp,x,z⟩
 ·rw [z] at e;cases e
 ·exact⟨pp,x,by rw [z,List.concat_eq_append]⟩
theorem Bc(p:bB):(bR p).length<=p.length:=by
 unfold bR
 rw [List.length_reverse]
 exact Nat.le_trans (List.dropWhile_sublist _).length_le (NJ (List.length_reverse))
section
variable{C:CA}{K:N5}{P:OR}{w:OV}{mg:Str->Option OL}{base:Heap}
theorem zj(g:Gr H tg H' tg')(z:tg l=0)(h:H l=some o):tg' l=0:=by
 rcases Np (tg' l) with q | q
 ·exact q
 ·rcases g.2 l (Nw q) with q | q
  ·exact absurd z q
  ·rw [h] at q;cases q
theorem Gx(g:Gr H tg H1 tg1)(n:H l=none)(f:Fr1 l H1 H2):Gr H tg H2 tg1:=⟨λa o z e=>f a o (λq=>by rw [q,n] at e;cases e) (g.1 a o z e),g.2⟩
theorem Iv(g:Gr H tg H1 tg1)(n:H l=none)(pa:PaL K H1 l p)(f:(∀a o,a≠l->tg1 a=0->H1 a=some o->H2 a=some o)/\∀a,tg2 a≠0->tg1 a≠0\/H1 a=none):Gr H tg H2 tg2:=by
 refine⟨λa o z e=>f.1 a o (λq=>by rw [q,n] at e;cases e) (zj g z e) (g.1 a o z e),λa z=>?_⟩
 rcases f.2 a z with q | q
 ·exact g.2 a q
 ·rcases Np (tg a) with t | t
  ·cases e:H a with
   | none=>exact .inr rfl
   | some o=>rw [g.1 a o t e] at q;cases q
  ·exact .inl (Nw t)
def GoI(C:CA)(K:N5)(N:Nat)(g:Gy)(l:Addr)(b:Int×Addr×Addr)(H:Hp)(R:YS)(m:Nat)(σ:St)(H':Hp):Prop:=∃(q:Bool) (v:Option V),σ= [some (.ref g.c.y),some (.ref b.2.1),some (.ref l),some (.bl q),v]/\(q=false->Yq C K g H H' R)/\(q=true->∃s' p',Yw C K g l b H H' s' p'/\fQ g.P N b.1 m s' p'/\YS.goOn b.1 m s' p'=R)
def GoP(P:Pr)(N M:Nat)(n:Int)(s:YS):Prop:=∃d bd,bI n s.hd=some d/\eC d.nm P.bds=some bd/\ig bd/\bdp bd<M/\fQ P N n 102 s (bE bd d.row)
def Be(C:CA)(K:N5)(N M:Nat):Sp:=spG (A:=(Int×Addr×Addr)×Gy) (λa=>[.ref a.2.c.y,.ref a.1.2.1]) (λa H=>Yd C K a.2.P H a.2.c a.2.s a.2.tg/\a.1∈a.2.c.hs/\HN a.2.s.hd/\GoP a.2.P N M a.1.1 a.2.s) (λa H v H'=>v= .non/\Yq C K a.2 H H' (a.2.s.goF a.2.P a.1.1))
theorem Iw{N M:Nat}(D:MethAt K C.y "go_on" "PlainYard.go_on" gF ["self","hand"])(eq:Cls K C.y)(Kp:NoAttr K C.y "bodies")(JU:Cls K C.d)(KE:NoAttr K C.d "name")(Km:NoAttr K C.d "row")(KP:OkD P w K mg base (M+1) "path_behind" ["body","row"] (Gq K M))(Lc:OkD P w K mg base 1 "next_statement" ["path"] (Gs K))(KN:OkM P w K mg base 2 C.y "end_hand" ["self","hand"] (y0 C K))(KF:OkM P w K mg base 1 C.y "enter_statement" ["self","hand","k"] (vj C K))(Le:OkM P w K mg base (N+9) C.y "do" ["self","hand","statement","path"] (Gw C K N)):OkM P w K mg base (M+N+10) C.y "go_on" ["self","hand"] (Be C K N M):=by
 refine D.okG eq bN (λ_=>rfl) λa f cdv A outer s0 H Q E hr p q=>?_
 obtain⟨⟨n,ho,kd⟩,g⟩:=a
 dsimp only at p q⊢
 obtain⟨Y,hm,hn,d,bd,g1,g2,g3,g4,g5⟩:=p
 have hu:=cn hr
 have h0:=Y.obj
 obtain⟨d',⟨⟨dx,d1⟩,d2⟩,dm⟩:=Y.hd.mem hm
 have ee:=gN hn.nd dm
 rw [g1] at ee
 cases ee
 obtain⟨kv,b1,b2⟩:=Y.bd
 obtain⟨v,b3,b4⟩:=b2.get g2
 obtain⟨ba,bx,rfl,b5,_⟩:=bm b4
 have eR:g.s.goF g.P n=YS.goOn n 102 g.s (bE bd d.row):=by unfold YS.goF;rw [g1];dsimp only;rw [g2];rfl
 rw [eR] at q
 refine⟨_,(aa (aP 2 bN (aH KP hr rfl (aA (dJ hu (aj eq Kp (pvM 0)) (aj JU KE (pvM 1)) (λ_ _=>rfl)) (aj JU Km (pvM 1))))) (aa (aP 3 bN ci) (ac (cZ O1.never (bX (pvM 3)) (aa (aP 4 bN (aH Lc hr rfl (aB (pvM 2)))) (ac (aJ (aM je (pvM 4) bp) (aa (aO (bj KN hr (pvM 0) (aB (pvM 1)))) (ac (aP 3 bN ci))) (ac (aP 3 bN (j6 (bj KF hr (pvM 0) (aA (pvM 1) (ar (pvM 4) ab))) (nE (bj Le hr (pvM 0) (bc (pvM 1) (pvM 4) (pvM 2)))))))))))))),?_⟩
 symm
 refine⟨(ba,bd,d.row),rfl,⟨b4,g3,g4⟩,λv H1 w1=>?_⟩
 obtain⟨l,rfl,n1,k1,pa⟩:=w1
 dsimp only at pa
 have Y1:=Y.same k1
 symm
 refine⟨GoI C K N g l (n,ho,kd) H (YS.goOn n 102 g.s (bE bd d.row)),⟨102,true,none,rfl,(λz=>by cases z),λ_=>⟨g.s,bE bd d.row,⟨g.c,g.tg,rfl,Y1,cY k1,λ_=>hm,Y.tg.off n1,pa⟩,g5,rfl⟩⟩,λm σ H2 z=>?_⟩
 obtain⟨qq,v,rfl,z1,z2⟩:=z
 cases qq with
 | false=>
  have z3:=q _ _ ⟨rfl,z1 rfl⟩
  symm
 | true=>
  obtain⟨s',p',⟨c',tg',ey,Y2,gr2,hm2,tl2,pa2⟩,go,eg⟩:=z2 rfl
  cases m with
  | zero=>exact absurd go id
  | succ m=>
   obtain⟨o1,o2,o3,d3,o4,o5,o6⟩:=go
   symm
   refine⟨GoI C K N g l (n,ho,kd) H (YS.goOn n 102 g.s (bE bd d.row)) m,λσ' H' z=>⟨m,Oa _,z⟩,?_⟩
   symm
   refine⟨(l,p'),rfl,⟨pa2,o1⟩,λv H3 w3=>?_⟩
   obtain⟨f3,pa3,w3⟩:=w3
   dsimp only at f3 pa3 w3
   obtain⟨us,hl,_⟩:=id pa2
   have Y3:=Y2.fr1 f3 tl2 hl
   have gr3:=Gx gr2 n1 f3
   have al:(n,ho,kd)∈c'.hs:=hm2 ⟨d3,mT o4⟩
   have h03:=Y3.obj
   rw [ey] at h03
   cases en:cN p' with
   | none=>
    rw [en] at w3
    rw [zg en] at eg
    have r1:=o5 en
    cases w3
    symm
    refine⟨((n,ho,kd),⟨g.P,c',s',tg'⟩),by rw [<-ey],⟨Y3,al,o3,r1⟩,λv H4 w4=>?_⟩
    obtain⟨rfl,c4,tg4,ey4,Y4,gr4,hs4⟩:=w4
    symm
    exact⟨false,_,rfl,λ_=>⟨c4,tg4,ey4.trans ey,by rw [<-eg];exact Y4,gr3.trans gr4⟩,λz=>by cases z⟩
   | some sm=>
    rw [en] at w3
    obtain⟨sa,rfl,fs⟩:=w3
    obtain⟨_,ws,e,hA⟩:=wX fs
    cases e
    symm
    refine⟨((n,ho,kd,sm.k),⟨g.P,c',s',tg'⟩),by rw [<-ey],⟨Y3,al,o3⟩,λv H4 w4=>?_⟩
    obtain⟨rfl,c4,tg4,ey4,Y4,gr4,hs4⟩:=w4
    dsimp only at ey4 Y4 gr4 hs4⊢
    by_cases st:s'.stm=100
    ·rw [zh en o4 st] at eg
     refine⟨_,rfl,bz (by rw [decide_eq_true st];decide) ?_⟩
     symm
     exact⟨false,_,rfl,λ_=>⟨c4,tg4,ey4.trans ey,by rw [<-eg];exact Y4,gr3.trans gr4⟩,λz=>by cases z⟩
    ·rw [jw en o4 st] at eg
     obtain⟨dok,dgo⟩:=o6 sm en st
     obtain⟨pp,x,ep⟩:=zi en
     obtain⟨pa4,tl4⟩:=PaL.gr gr4 Y3.tg tl2 pa3
     have pz:pp.length<1000:=by
      have:=Bc p'
      rw [ep,MW] at this
      simp only [M8,NI] at this
      lia
     rw [ep] at pa4 dgo eg
     have h04:=Y4.obj
     rw [ey4.trans ey] at h04
     have al4:=hs4 _ al ⟨_,dok.hd⟩
     have fs4:=a8 (λa xs h=>gr4.1 _ _ (Y3.tg.tup h) h) fs
     refine⟨_,rfl,di (by rw [decide_eq_false st];decide) ?_⟩
     symm
     refine⟨(⟨n,ho,kd,d3.sRow sm.k,sa,sm,l,pp,x⟩,⟨g.P,c4,s'.enter n sm.k,tg4⟩),by rw [<-ey4.trans ey],⟨Y4,al4,dok.hd,fs4,dok.ok,pa4,pz,tl4,dok.es,dok.nb,dok.mb,dok.yb,dok.dk,dok.lg⟩,λv H5 w5=>?_⟩
     obtain⟨rfl,c5,tg5,ey5,Y5,gr5,hs5,tl5,pa5⟩:=w5
     unfold doR at Y5 hs5 pa5⊢
     dsimp only at ey5 Y5 gr5 hs5 tl5 pa5⊢
     symm
     have grL:=Iv (gr3.trans gr4) n1 pa4 gr5
     refine⟨_,_,rfl,λz=>⟨c5,tg5,ey5.trans (ey4.trans ey),?_,grL⟩,λz=>⟨_,_,⟨c5,tg5,ey5.trans (ey4.trans ey),Y5,grL,λh=>hs5 _ al4 h,tl5,pa5⟩,dgo z,?_⟩⟩
     ·rw [Tf (by rw [z];decide)] at eg
      rw [<-eg]
      exact Y5
     ·rw [Th z] at eg
      exact eg
end
def YS.clk(s:YS)(m:Int):YS:=if s.now<m then (s.sNow m).sHap 0 else s
def YS.up(s:YS):YS:=s.sHap (s.hap+1)
def io(P:Pr)(N M:Nat)(s:YS):Prop:=s.done<=P.out.length/\∀m,s.next P=some m->¬(s.clk m).hap=500->((s.clk m).up.outNext P=true->∃o,P.out[(s.clk m).up.done]? =some o/\wW P (s.clk m).up o/\YB (s.clk m).up/\(s.clk m).up.lg.length+500<16000000)/\((s.clk m).up.outNext P=false->∃t h r,(s.clk m).up.ag=(t,h)::r/\(s.clk m).up.ag.length<=900/\HN s.hd/\GoP P N M h (((s.clk m).up.sAg r).sStm 0))
theorem qv{s:YS}(e:s.next P=none):s.step P=s:=by unfold YS.step;rw [e]
theorem gu{s:YS}(e:s.next P=some m):s.step P=if (s.clk m).hap=500 then (s.clk m).sSt (some [.str "long"]) else if (s.clk m).up.outNext P=true then (s.clk m).up.doOut P else match (s.clk m).up.ag with
 | []=>(s.clk m).up
 | (_,h)::r=>(((s.clk m).up.sAg r).sStm 0).goF P h:=by unfold YS.step;rw [e];rfl
theorem Gz{s:YS}:(s.clk m).hd=s.hd:=by unfold YS.clk;split<;>rfl
theorem mW{s:YS}:(s.clk m).done=s.done:=by unfold YS.clk;split<;>rfl
section
variable{C:CA}{K:N5}{P:OR}{w:OV}{mg:Str->Option OL}{base:Heap}
def tm(C:CA)(K:N5)(N M:Nat):Sp:=spG (A:=Gy) (λg=>[.ref g.c.y]) (λg H=>Yd C K g.P H g.c g.s g.tg/\io g.P N M g.s) (λg H v H'=>v= .non/\Yq C K g H H' (g.s.step g.P))
theorem DB{N M:Nat}(D:MethAt K C.y "step" "Yard.step" iX ["self"])(eq:Cls K C.y)(JF:NoAttr K C.y "now")(JJ:NoAttr K C.y "happenings")(JC:NoAttr K C.y "stopped")(JP:NoAttr K C.y "statements")(JK:NoAttr K C.y "hands")(JD:NoAttr K C.y "agenda")(JL:OkM P w K mg base 3 C.y "next_moment" ["self"] (spR C K (λg=>g.s.done<=g.P.out.length) λg=>eE (g.s.next g.P)))(JW:OkM P w K mg base 2 C.y "outer_is_next" ["self"] (spR C K (λg=>g.s.done<=g.P.out.length) λg=>.bl (g.s.outNext g.P)))(Ki:OkM P w K mg base 5 C.y "do_outer" ["self"] (pK C K))(Kw:OkM P w K mg base (M+N+10) C.y "go_on" ["self","hand"] (Be C K N M))(Ky:OkM P w K mg base 1 C.l "take" ["self"] (Ag.spLTake C.l))(Kz:OkM P w K mg base 3 C.h "take" ["self"] (Ag.spHTake C.h)){tk:Tok}(MG:mg "MOST_HAPPENINGS" =some (.int 500 tk)):OkM P w K mg base (M+N+11) C.y "step" ["self"] (tm C K N M):=by
 refine D.okG eq fh (λ_=>rfl) λg f cdv A outer s0 H Q E hr p q=>?_
 obtain⟨Y,sd,so⟩:=p
 have hu:=cn hr
 have h0:=Y.obj
 refine⟨_,(aa (aP 1 fh (aW JL hr (pvM 0))) (aa (aJ (aM je (pvM 1) bp) (ac jb) aG) (aa (ls (aJ (aM gH (pvM 1) (aj eq JF (pvM 0))) (aa (aD eq JF (pvM 0) (pvM 1)) (ac (aD eq JJ (pvM 0) ab))) aG)) (aa (aJ (aM bi (aj eq JJ (pvM 0)) (fC (v:=.int 500) rfl MG ⟨_,rfl⟩)) (aa (aD eq JC (pvM 0) (ad (aB ae))) (ac jb)) aG) (aa (aD eq JJ (pvM 0) (aw aY (aj eq JJ (pvM 0)) ab)) (ac (aJ (bX (aW JW hr (pvM 0))) (ac (aO (aW Ki hr (pvM 0)))) (aa (aD eq JP (pvM 0) ab) (ac (aO (bj Kw hr (pvM 0) (aB (dJ hu (aj eq JK (pvM 0)) (ar (eY Ky Kz hr (aj eq JD (pvM 0))) ab) (λ_ _=>rfl)))))))))))))),?_⟩
 symm
 refine⟨g,rfl,⟨Y,sd⟩,λv H1 w1=>?_⟩
 obtain⟨rfl,rfl⟩:=w1
 cases en:g.s.next g.P with
 | none=>
  rw [qv en] at q
  unfold eE
  symm
  exact q _ _ ⟨rfl,g.c,g.tg,rfl,Y,Gr.refl⟩
 | some m=>
  rw [gu en] at q
  have so':=so m en
  unfold eE
  symm
  refine⟨(λσ2 H2=>σ2= [some (.ref g.c.y),some (.int m)]/\Yd C K g.P H2 g.c (g.s.clk m) g.tg/\Gr H1 g.tg H2 g.tg),?_,?_⟩
  ·by_cases cm:g.s.now<m
   ·have ec:g.s.clk m=(g.s.sNow m).sHap 0:=by unfold YS.clk;rw [Th cm]
    refine di cm ?_
    symm
    intro H2 m2
    obtain⟨Y2,gr2⟩:=Y.setY (s':=g.s.sNow m) m2 ⟨rfl,rfl,rfl,rfl,rfl⟩
    have h02:=Y2.obj
    symm
    intro H3 m3
    obtain⟨Y3,gr3⟩:=Y2.setY (s':=(g.s.sNow m).sHap 0) m3 ⟨rfl,rfl,rfl,rfl,rfl⟩
    exact⟨rfl,by rw [ec];exact Y3,gr2.trans gr3⟩
   ·have ec:g.s.clk m=g.s:=by unfold YS.clk;rw [Tf cm]
    refine bz cm ?_
    symm
    exact Gr.refl
  ·intro σ2 H2 z
   obtain⟨rfl,Y2,gr2⟩:=z
   have h02:=Y2.obj
   symm
   by_cases ch:(g.s.clk m).hap=500
   ·rw [Th ch] at q
    refine di ch ?_
    symm
    intro p3 H3 n3 k3 e3
    have Y3:=Y2.same k3
    have h03:=Y3.obj
    symm
    intro H4 m4
    obtain⟨Y4,gr4⟩:=Y3.setS (v:=.ref p3) (o:=some [.str "long"]) m4 (.tup (dj e3) (.cons (.str _) .nil))
    symm
    exact q _ _ ⟨rfl,g.c.sSv (.ref p3),g.tg,rfl,Y4,(gr2.trans (cY k3)).trans gr4⟩
   ·rw [Tf ch] at q
    obtain⟨so1,so2⟩:=so' ch
    refine bz ch ?_
    symm
    intro H3 m3
    obtain⟨Y3,gr3⟩:=Y2.setY (s':=(g.s.clk m).up) m3 ⟨rfl,rfl,rfl,rfl,rfl⟩
    have h03:=Y3.obj
    symm
    refine⟨⟨g.P,g.c,(g.s.clk m).up,g.tg⟩,rfl,⟨Y3,by show(g.s.clk m).done<=_;rw [mW];exact sd⟩,λv H4 w4=>?_⟩
    obtain⟨rfl,e4⟩:=w4
    rw [e4]
    clear e4 H4
    dsimp only
    have gr13:=gr2.trans gr3
    by_cases co:(g.s.clk m).up.outNext g.P=true
    ·rw [Th co] at q
     obtain⟨o,r1,r2,r3,r4⟩:=so1 co
     refine⟨_,rfl,di co ?_⟩
     symm
     refine⟨(o,⟨g.P,g.c,(g.s.clk m).up,g.tg⟩),rfl,⟨Y3,r1,r2,r3,r4⟩,λv H5 w5=>?_⟩
     obtain⟨rfl,c5,tg5,ey5,Y5,gr5,_⟩:=w5
     symm
     exact q _ _ ⟨rfl,c5,tg5,ey5,Y5,gr13.trans gr5⟩
    ·rw [Tf co] at q
     obtain⟨t,h,r,r1,r2,r3,r4⟩:=so2 (by cases z:(g.s.clk m).up.outNext g.P with | true=>exact absurd z co | false=>rfl)
     rw [r1] at q
     dsimp only at q
     refine⟨_,rfl,bz co ?_⟩
     symm
     intro H5 m5
     obtain⟨Y5,gr5⟩:=Y3.setY (s':=(g.s.clk m).up.sStm 0) m5 ⟨rfl,rfl,rfl,rfl,rfl⟩
     have h05:=Y5.obj
     symm
     obtain⟨d,bd,q1,_⟩:=id r4
     have eh:((g.s.clk m).up.sStm 0).hd=g.s.hd:=Gz
     refine Du Y5.ag (m:=t) (x:=h) (r:=r) r1 r2 λH6 p6 fr6 A6 e6=>?_
     obtain⟨Y6,gr6⟩:=Y5.setA fr6 A6
     obtain⟨ho,kd,hm,hO⟩:=Y6.hd.get q1
     have h06:=Y6.obj
     have dh6:=Y6.dh
     have nd:(g.c.hs.map (·.1)).Nodup:=by rw [Y6.hd.nums];have:=r3.nd;rw [<-eh] at this;exact this
     have vh:=pI nd hm
     symm
     refine⟨((h,ho,kd),⟨g.P,g.c,((g.s.clk m).up.sAg r).sStm 0,g.tg⟩),rfl,⟨Y6,hm,by rw [<-eh] at r3;exact r3,r4⟩,λv H7 w7=>?_⟩
     obtain⟨rfl,c7,tg7,ey7,Y7,gr7⟩:=w7
     exact q _ _ ⟨rfl,c7,tg7,ey7,Y7,((gr13.trans gr5).trans gr6).trans gr7⟩
theorem GA(D:MethAt K C.y "end" "Yard.end" ox ["self"])(eq:Cls K C.y)(JC:NoAttr K C.y "stopped"):OkM P w K mg base 1 C.y "end" ["self"] (spR C K (λ_=>True) λg=>g.c.sv):=by
 refine D.okG eq uk (λ_=>rfl) λg f cdv A outer s0 H Q E hr p q=>?_
 have h0:=p.1.obj
 refine⟨_,(ac (az (aj eq JC (pv 0)))),?_⟩
 symm
def B3(C:CA)(K:N5):Sp:=spG (A:=Gy) (λg=>[.ref g.c.y]) (λg H=>Yd C K g.P H g.c g.s g.tg) (λg H v H'=>∃r vs,v= .ref r/\H r=none/\Same H H'/\H' r=some (.lst vs)/\FzL K H' vs g.s.lg)
theorem GB(D:MethAt K C.y "log" "Yard.log" ow ["self"])(eq:Cls K C.y)(J8:NoAttr K C.y "laid")(J9:mg "list" =none):OkM P w K mg base 1 C.y "log" ["self"] (B3 C K):=by
 refine D.okG eq uj (λ_=>rfl) λg f cdv A outer s0 H Q E hr p q=>?_
 have h0:=p.obj
 obtain⟨vs,l1,l2⟩:=p.lg
 refine⟨_,(ac (az (bK cb J9 (aB (aj eq J8 (pvM 0)))))),?_⟩
 symm
 intro r H1 n1 k1 e1
 exact q _ _ ⟨r,vs,rfl,n1,k1,e1,a0 (Kt.of k1) l2⟩
end
theorem eL{α:Type}{xs:List α}{x:α}(h:xs[i]? =some x):xs.take (i+1)=xs.take i++[x]:=by
 obtain⟨h1,h2⟩:=List.getElem?_eq_some_iff.mp h
 rw [<-List.take_append_getElem h1,h2]
mutual
def frz:OQ->OQ
 | .list l=>.tuple (bC l)
 | .tuple l=>.tuple (bC l)
 | x=>x
def bC:List OQ->List OQ
 | []=>[]
 | x::r=>frz x::bC r
end
theorem du:∀l:List OQ,bC l=l.map frz
 | []=>by unfold bC;rfl
 | x::r=>by unfold bC;rw [du r];rfl
inductive Sz:Nat->OQ->Prop
 | none {n:Nat}:Sz n .none
 | bool {n:Nat} (b:Bool):Sz n (.bool b)
 | int {n:Nat} (i:Int):Sz n (.int i)
 | str {n:Nat} (s:Str):Sz n (.str s)
 | list {n:Nat} {l:List OQ}:l.length<=1000->(∀x∈l,Sz n x)->Sz (n+1) (.list l)
 | tuple {n:Nat} {l:List OQ}:l.length<=1000->(∀x∈l,Sz n x)->Sz (n+1) (.tuple l)
section
variable{P:OR}{w:OV}{K:N5}{mg:Str->Option OL}{base:Heap}
theorem vq(h:RpL K H vs ds):∀{i:Nat} {v:V},vs[i]? =some v->∃d,ds[i]? =some d/\Rp K H v d:=by
 intro i v e
 have hi:i<ds.length:=by rw [<-bG h];exact(List.getElem?_eq_some_iff.mp e).1
 obtain⟨v',e',r⟩:=ju h (MR hi)
 cases e.symm.trans e'
 exact⟨_,MR hi,r⟩
def FrP(K:N5)(ds:List OQ)(_:Addr)(i:Nat)(ys:List V)(σ1:St)(H':Hp):Prop:=∃v0,FzL K H' ys ((ds.take i).map frz)/\σ1= [v0]
def pM(K:N5)(n:Nat):Sp:=λvs H Q _=>∃(v:V) (d:OQ),vs= [v]/\Rp K H v d/\Sz n d/\∀(H':Hp) (v':V),Same H H'->Fz K H' v' (frz d)->Q v' H'
def Ix(K:N5):Nat->Sp
 | 0=>λ_ _ _ _=>False
 | n+1=>pM K n
theorem vt(D:DefAt K mg "frozen" mM ["thing"])(Kl:mg "isinstance" =none)(J9:mg "list" =none)(KH:mg "tuple" =none)(KG:OkD P w K mg base (n+1) "frozen" ["thing"] (Ix K n)):OkD P w K mg base (n+2) "frozen" ["thing"] (pM K n):=by
 refine D.ok qj (λvs H Q E h=>?_) (λf cdv A outer s H vs Q E hr h=>?_)
 ·obtain⟨_,_,rfl,_⟩:=h;rfl
 obtain⟨v,d,rfl,rc,sz,q⟩:=h
 have hu:=cn hr
 have big:100000<=ON:=by unfold ON;decide
 have q':=PLift.up q
 clear q
 refine⟨_,(aa (aJ (bX (fM rZ Kl (aA (pv 0) (ad (aA (uH (T:="list") rfl J9 (by decide)) (uH (T:="tuple") rfl KH (by decide))))))) (ac (az (bK kD KH (aB (cE 1 ["part"] [] (FR (pv 0)) (λn _ _ _ _=>(cO 0 n)) (λ_ _ _ _=>bv) (λ_ _ _ _=>(aH KG hr rfl (aB (pv 0))))))))) aG) (ac (az (pv 0)))),?_⟩
 cases rc with
 | non=>
  walk_at "rz"
  intro t1 H1 n1 g1 h1
  have fin:=q'.down H1 _ g1 .non
  walk_at "rz"
  refine⟨_,t1,_,_,_,_,rfl,h1,rfl,rfl,?_⟩
  walk_at "rz"
  try exact fin
 | bl b=>
  walk_at "rz"
  intro t1 H1 n1 g1 h1
  have fin:=q'.down H1 _ g1 (.bl b)
  walk_at "rz"
  refine⟨_,t1,_,_,_,_,rfl,h1,rfl,rfl,?_⟩
  walk_at "rz"
  try exact fin
 | int i=>
  walk_at "rz"
  intro t1 H1 n1 g1 h1
  have fin:=q'.down H1 _ g1 (.int i)
  walk_at "rz"
  refine⟨_,t1,_,_,_,_,rfl,h1,rfl,rfl,?_⟩
  walk_at "rz"
  try exact fin
 | str i=>
  walk_at "rz"
  intro t1 H1 n1 g1 h1
  have fin:=q'.down H1 _ g1 (.str i)
  walk_at "rz"
  refine⟨_,t1,_,_,_,_,rfl,h1,rfl,rfl,?_⟩
  walk_at "rz"
  try exact fin
 | @lst a vs ds ha t=>
  cases sz with
  | @list n _ ln sz=>
   have lt:=bG t
   walk_at "rz"
   intro t1 H1 n1 g1 h1
   have ha1:=g1 _ _ ha
   have hty:tyG H1 (.ref a)=some "list":=by unfold tyG;dsimp only;rw [ha1];rfl
   walk_at "rz"
   refine⟨_,t1,_,_,_,_,rfl,h1,hty,rfl,?_⟩
   clear hty
   walk_at "rz"
   apply bA
   simp only [Ao]
   walk_at "rz"
   refine .inl ⟨⟨_,SqL.of ha1⟩,iW ha1 (by lia) (FrP K ds) (λD' H' _ _ _=>⟨_,.nil,rfl⟩) ?_ ?_⟩
   ·rintro D' i v ys σ1 H3 hx at1 ⟨v0,t3,rfl⟩
    obtain⟨d,ed,rv⟩:=vq t hx
    have rv3:=rv.mono (g1.trans at1.same)
    have szd:=sz d (Nc ed)
    have lD:=at1.lst
    have at1':=PLift.up at1
    have ed':=PLift.up ed
    clear at1 hx ed
    walk_at "rz"
    refine⟨v,d,rfl,rv3,szd,λH4 v' g4 r4=>?_⟩
    refine at1'.down.put g4 λH5 mu=>⟨_,?_,rfl⟩
    have kt:=(Fr1.mu mu).kt (g4 _ _ lD)
    rw [eL ed'.down,MX]
    exact fP (a0 ((Kt.of g4).trans kt) t3) (.cons (a8 kt r4) .nil)
   ·rintro D' ys σ1 H3 hD g3 hy hle ⟨v0,t3,rfl⟩
    rw [Nm (by lia)] at t3
    have g13:=g1.trans g3
    exact⟨D',rfl,ys,trivial,hy,λp H4 hp g4 h4=>q'.down H4 (.ref p) (g13.trans g4) (by unfold frz;rw [du];exact .tup (dj h4) (a0 (Kt.of g4) t3))⟩
 | @tup a vs ds ha t=>
  cases sz with
  | @tuple n _ ln sz=>
   have lt:=bG t
   walk_at "rz"
   intro t1 H1 n1 g1 h1
   have ha1:=g1 _ _ ha
   have hty:tyG H1 (.ref a)=some "tuple":=by unfold tyG;dsimp only;rw [ha1];rfl
   walk_at "rz"
   refine⟨_,t1,_,_,_,_,rfl,h1,hty,rfl,?_⟩
   clear hty
   walk_at "rz"
   apply bA
   simp only [Ao]
   walk_at "rz"
   refine .inr ⟨⟨_,SqT.of ha1⟩,wD ha1 (by lia) (FrP K ds) (λD' H' _ _ _=>⟨_,.nil,rfl⟩) ?_ ?_⟩
   ·rintro D' i v ys σ1 H3 hx at1 ⟨v0,t3,rfl⟩
    obtain⟨d,ed,rv⟩:=vq t hx
    have rv3:=rv.mono (g1.trans at1.same)
    have szd:=sz d (Nc ed)
    have lD:=at1.lst
    have at1':=PLift.up at1
    have ed':=PLift.up ed
    walk_at "rz"
    refine⟨v,d,rfl,rv3,szd,λH4 v' g4 r4=>?_⟩
    refine at1'.down.put g4 λH5 mu=>⟨_,?_,rfl⟩
    have kt:=(Fr1.mu mu).kt (g4 _ _ lD)
    rw [eL ed'.down,MX]
    exact fP (a0 ((Kt.of g4).trans kt) t3) (.cons (a8 kt r4) .nil)
   ·rintro D' ys σ1 H3 hD g3 hy hle ⟨v0,t3,rfl⟩
    rw [Nm (by lia)] at t3
    have g13:=g1.trans g3
    exact⟨D',rfl,ys,trivial,hy,λp H4 hp g4 h4=>q'.down H4 (.ref p) (g13.trans g4) (by unfold frz;rw [du];exact .tup (dj h4) (a0 (Kt.of g4) t3))⟩
theorem wZ(D:DefAt K mg "frozen" mM ["thing"])(Kl:mg "isinstance" =none)(J9:mg "list" =none)(KH:mg "tuple" =none):∀n,OkD P w K mg base (n+2) "frozen" ["thing"] (pM K n)
 | 0=>vt D Kl J9 KH (D.ok qj (λvs H Q E h=>h.elim) λf cdv A outer s H vs Q E hr h=>h.elim)
 | n+1=>vt D Kl J9 KH (wZ D Kl J9 KH n)
end
noncomputable def hdD(p:Int×Hd):OQ:=.tuple [.int p.1,.str p.2.nm,.int p.2.row,.list []]
def agD(p:Int×Int):OQ:=.tuple [.int p.1,.int p.2]
noncomputable def fw(P:Pr)(s:YS):List OQ:=[.list (s.hd.map hdD),.list (P.tl.toList.map tlD),.list ((s.sl.map (·.1)).toList.map tlD),.list [],.list (s.ag.map agD)]
def iq(s:YS):Prop:=HN s.hd/\(s.hd.map (·.1)).Pairwise (· < ·)/\s.hd.length<64/\s.ag.length<64
def ir(C:CA)(K:N5):Sp:=spG (A:=Gy) (λg=>[.ref g.c.y]) (λg H=>Yd C K g.P H g.c g.s g.tg/\iq g.s) (λg H v H'=>Same H H'/\Rp K H' v (.tuple (.int g.s.now::fw g.P g.s)))
section
variable{C:CA}{K:N5}{P:OR}{w:OV}{mg:Str->Option OL}{base:Heap}
theorem GD(h:Prs H vs ps):RpL K H vs (ps.map agD):=by
 induction h with
 | nil=>exact .nil
 | cons a _ ih=>exact .cons (.tup a (.cons (.int _) (.cons (.int _) .nil))) ih
theorem HdL.at{hs:List (Int×Addr×Addr)}(h:HdL C H hs ds){i:Nat}(e:hs[i]? =some x):∃d,ds[i]? =some (x.1,d)/\HdO C H x.1 x.2.1 x.2.2 d:=by
 induction h generalizing i with
 | nil=>cases e
 | cons a _ ih=>cases i with
  | zero=>cases e;exact⟨_,rfl,a⟩
  | succ i=>rw [List.getElem?_cons_succ] at e⊢;exact ih e
theorem DD(D:MethAt K C.y "view" "Yard.view" lU ["self"])(eq:Cls K C.y)(JU:Cls K C.d)(JM:NoAttr K C.d "number")(KE:NoAttr K C.d "name")(Km:NoAttr K C.d "row")(Kf:NoAttr K C.d "known")(JK:NoAttr K C.y "hands")(JF:NoAttr K C.y "now")(JR:NoAttr K C.y "goods")(Ka:NoAttr K C.y "places")(JD:NoAttr K C.y "agenda")(KQ:mg "sorted" =none)(J9:mg "list" =none)(Ll:OkM P w K mg base 2 C.g "tools" ["self"] (u8 C K))(Lf:OkM P w K mg base 2 C.g "stores" ["self"] (sK C K))(KJ:OkM P w K mg base 1 C.l "in_order" ["self"] (Ag.spLOrd C.l))(KL:OkM P w K mg base 1 C.h "in_order" ["self"] (Ag.spHOrd C.h)):OkM P w K mg base 3 C.y "view" ["self"] (ir C K):=by
 refine D.okG eq sc_Yard_view (λ_=>rfl) λg f cdv A outer s0 H Q E hr p q=>?_
 obtain⟨Y,hn,hp,hl,al⟩:=p
 have hu:=cn hr
 have h0:=Y.obj
 have hdh:=Y.dh
 have big:100000<=ON:=by unfold ON;decide
 have lh:g.c.hs.length=g.s.hd.length:=by have:=congrArg List.length Y.hd.nums;rwa [MQ,MQ] at this
 refine⟨_,(aa (dL (i:=1) sc_Yard_view.nd rfl (Or.inl rfl) (ce 1 (N:=["number","self"]) (cap:=[0]) rfl rfl rfl rfl (by decide) rfl rfl rfl) rfl (bM (fM (t9 rfl) KQ (aB (aj eq JK (pvM 0))))) (λ_ _ _ _=>(dw (i:=0) (show List.Nodup (α:=Str) ["number","self"] by decide) rfl (Or.inl (OS rfl)) (Or.inr (OS rfl)))) (λ_ _ _ _=>bv) (λ_ _ _ _=>(dJ hu (aj eq JK (pvM 1)) (pvM 0) (λ_ _=>rfl)))) (aa (dL (i:=2) sc_Yard_view.nd rfl (Or.inl rfl) (ce 1 (N:=["hand"]) (cap:=[]) rfl rfl rfl rfl (by decide) rfl rfl rfl) rfl (bM (pvM 1)) (λ_ _ _ _=>(dw (i:=0) (show List.Nodup (α:=Str) ["hand"] by decide) rfl (Or.inl (OS rfl)) (Or.inr (OS rfl)))) (λ_ _ _ _=>bv) (λ_ _ _ _=>(ad (aU (aj JU JM (pvM 0)) (aj JU KE (pvM 0)) (aj JU Km (pvM 0)) (fM (qE rfl) KQ (aB (yt (aj JU Kf (pvM 0))))))))) (ac (az (ad (cT (aj eq JF (pvM 0)) (cT (pvM 2) (aU (aW Ll hr (aj eq JR (pvM 0))) (aW Lf hr (aj eq JR (pvM 0))) (bK wB J9 (aB (mG (aj eq Ka (pvM 0))))) (eY KJ KL hr (aj eq JD (pvM 0))))))))))),?_⟩
 symm
 apply bA
 simp only [cF]
 symm
 refine⟨g.c.hs.map (·.1),by rw [NK,NK];rfl,by rw [MQ];lia,λD1 H1 ms n1 g1 e1 pm pw=>?_⟩
 have em:=pm.eq_of_pairwise (λa b _ _ h1 h2=>Int.le_antisymm h1 h2) pw (by rw [Y.hd.nums];exact hp.imp λh=>Int.le_of_lt h)
 subst em
 have h01:=g1 _ _ h0
 have dh1:=g1 _ _ hdh
 clear h0 hdh
 symm
 refine⟨⟨_,SqL.of e1⟩,iW e1 (by rw [MQ,MQ];lia) (λ_ i ys σ1 _=>ys=(g.c.hs.take i).map (λh=>V.ref h.2.1)/\∃v0,σ1= [v0,some (.ref g.c.y)]) (λD H' _ _ _=>⟨rfl,_,rfl⟩) ?_ ?_⟩
 ·rintro D i x ys σ1 H2 hx at2 ⟨rfl,v0,rfl⟩
  rw [NK,M4] at hx
  obtain⟨h,hh,rfl⟩:∃h,g.c.hs[i]? =some h/\V.int h.1=x:=by
   cases z:g.c.hs[i]? with
   | none=>rw [z] at hx;cases hx
   | some h=>rw [z] at hx;cases hx;exact⟨h,rfl,rfl⟩
  have h02:=at2.same _ _ h01
  have dh2:=at2.same _ _ dh1
  have vh:=pI (Y.nd hn) (Nc hh)
  symm
  refine at2.put (λ_ _ e=>e) λH3 mu=>⟨?_,_,rfl⟩
  rw [eL hh,MX];rfl
 rintro D2 ys σ1 H2 n2 g2 e2 _ ⟨rfl,_⟩
 rw [MQ,MQ,Nm (Nat.le_refl _)] at e2
 have g12:=ah g1 g2
 clear h01 dh1
 symm
 apply bA
 simp only [cF]
 symm
 refine⟨⟨_,SqL.of e2⟩,iW e2 (by rw [MQ];lia) (λD i ys σ1 H'=>RpL K (dA D H') ys ((g.s.hd.take i).map hdD)/\∃v0,σ1= [v0]) (λD H' _ _ _=>⟨.nil,_,rfl⟩) ?_ ?_⟩
 ·rintro D i x ys σ1 H3 hx at3 ⟨rp,v0,rfl⟩
  rw [M4] at hx
  obtain⟨h,hh,rfl⟩:∃h,g.c.hs[i]? =some h/\V.ref h.2.1=x:=by
   cases z:g.c.hs[i]? with
   | none=>rw [z] at hx;cases hx
   | some h=>rw [z] at hx;cases hx;exact⟨h,rfl,rfl⟩
  obtain⟨d,hd,⟨dx,d1⟩,d2⟩:=Y.hd.at hh
  have d13:=at3.same _ _ (g12 _ _ d1)
  have d23:=at3.same _ _ (g12 _ _ d2)
  clear d1 d2
  symm
  intro p4 H4 n4 g4 e4
  have d24:=g4 _ _ d23
  have d14:=g4 _ _ d13
  clear d13 d23
  symm
  refine⟨h.2.2,rfl,d24,λl5 H5 n5 g5 e5=>?_⟩
  symm
  intro r6 H6 n6 g6 e6
  have g36:=ah g4 (ah g5 g6)
  refine at3.put g36 λH7 mu=>⟨?_,_,rfl⟩
  have nD:∀{c:Addr},H3 c=none->c≠D:=λhc=>(av at3.lst hc).symm
  have n53:=g4.free n5
  have n63:=g4.free (g5.free n6)
  rw [eL hd,MX]
  exact fP (RpL.mono ((kr g36).trans (uL mu)) rp) (.cons (.tup (fI (nD n63) (mu.old e6 (nD n63))) (.cons (.int _) (.cons (.str _) (.cons (.int _) (.cons (.lst (fI (nD n53) (mu.old (g6 _ _ e5) (nD n53))) .nil) .nil))))) .nil)
 ·rintro D3 ys σ1 H3 n3 g3 e3 _ ⟨rp,_⟩
  rw [MQ,lh,Nm (Nat.le_refl _)] at rp
  have S3:=ah g12 g3
  have Y3:=Y.same S3
  have h03:=Y3.obj
  obtain⟨⟨gdx,hg⟩,_⟩:=id Y3.go
  symm
  refine⟨g.c.gc,rfl,Y3.go,λv4 H4 po=>?_⟩
  obtain⟨g4,r4⟩:=po
  have Y4:=Y3.same g4
  have h04:=Y4.obj
  have hg4:=g4 _ _ hg
  clear h03 hg
  symm
  refine⟨g.c.gc,rfl,Y4.go,λv5 H5 po=>?_⟩
  obtain⟨g5,r5⟩:=po
  have Y5:=Y4.same g5
  have h05:=Y5.obj
  have pl5:=Y5.pl
  clear h04 hg4
  symm
  intro p6 H6 n6 g6 e6
  have pl6:=g6 _ _ pl5
  have Y6:=Y5.same g6
  have h06:=Y6.obj
  clear h05 pl5
  symm
  refine⟨g.c.dp,rfl,[],pl6,by decide,λl7 H7 n7 g7 e7=>?_⟩
  have Y7:=Y6.same g7
  have h07:=Y7.obj
  clear h06 pl6
  symm
  refine Gh Y7.ag al λl8 H8 vs8 n8 g8 e8 p8=>?_
  symm
  intro r9 H9 n9 g9 e9
  have S49:=ah g5 (ah g6 (ah g7 (ah g8 g9)))
  have S59:=ah g6 (ah g7 (ah g8 g9))
  refine q _ _ ⟨ah S3 (ah g4 S49),.tup e9 (.cons (.int _) (.cons (.lst (ah g4 S49 _ _ e3) (RpL.mono (ah ji (ah g4 S49)) rp)) (.cons ?_ (.cons ?_ (.cons (.lst (g9 _ _ (g8 _ _ e7)) .nil) (.cons (.lst (g9 _ _ e8) (RpL.mono g9 (GD p8))) .nil))))))⟩
  ·rw [<-Y.ts]
   have:=Rp.mono (ah iH S49) r4
   cases z:g.c.gc.t<;>rw [z] at this<;>exact this
  ·rw [<-Y.se]
   have:=Rp.mono (ah iH S59) r5
   cases z:g.c.gc.s<;>rw [z] at this<;>exact this
def ftl(n:Int):OQ:=.tuple [.int n,.tuple [],.tuple []]
noncomputable def w9(P:Pr)(s:YS):List OQ:=[.tuple [],.tuple (P.tl.toList.map ftl),.tuple ((s.sl.map (·.1)).toList.map ftl),.tuple [],.tuple [],.int s.beg,.int (P.out.length-s.done)]
def zk(C:CA)(K:N5):Sp:=spG (A:=Gy) (λg=>[.ref g.c.y]) (λg H=>Yd C K g.P H g.c g.s g.tg/\g.s.hd= []/\g.s.ag= []) (λg H v H'=>Same H H'/\Fz K H' v (.tuple (w9 g.P g.s)))
theorem B4(o:Option Int):Sz 3 (.list (o.toList.map tlD)):=by
 cases o with
 | none=>exact .list (by simp) λx h=>by simp at h
 | some n=>
  refine .list (by simp) λx h=>?_
  simp only [Option.toList,Ng,N0,Od] at h
  subst h
  refine .tuple (by simp) λx h=>?_
  simp only [Na,MT,or_false] at h
  rcases h with rfl | rfl | rfl
  ·exact .int _
  ·exact .list (by simp) λx h=>by simp at h
  ·exact .list (by simp) λx h=>by simp at h
theorem Iy(o:Option Int):bC (o.toList.map tlD)=o.toList.map ftl:=by
 cases o<;>simp [Option.toList,tlD,ftl,frz,bC]
theorem DF(D:MethAt K C.y "kept" "Yard.kept" lV ["self"])(eq:Cls K C.y)(JQ:NoAttr K C.y "begun")(JO:NoAttr K C.y "outer")(JE:NoAttr K C.y "outer_done")(JZ:mg "len" =none)(JS:OkM P w K mg base 3 C.y "view" ["self"] (ir C K))(KG:OkD P w K mg base 6 "frozen" ["thing"] (pM K 4)):OkM P w K mg base 7 C.y "kept" ["self"] (zk C K):=by
 refine D.okG eq sC (λ_=>rfl) λg f cdv A outer s0 H Q E hr p q=>?_
 obtain⟨Y,z1,z2⟩:=p
 have hu:=cn hr
 have h0:=Y.obj
 refine⟨_,(ac (az (aw fG (aH KG hr rfl (aB (jH EV (aW JS hr (pvM 0)) (kZ ab) kY))) (ad (aA (aj eq JQ (pvM 0)) (aw cC (iF iK rfl JZ PM (aB (aj eq JO (pvM 0)))) (aj eq JE (pvM 0)))))))),?_⟩
 symm
 refine⟨g,rfl,⟨Y,⟨by rw [z1];exact .nil,λp h=>by rw [z1] at h;cases h⟩,by rw [z1];exact .nil,by rw [z1];decide,by rw [z2];decide⟩,λv H1 po=>?_⟩
 obtain⟨g1,r1⟩:=po
 cases r1 with
 | @tup a xs _ e1 rl=>
 cases rl with | cons b0 rl=>
 cases b0
 have h01:=g1 _ _ h0
 clear h0
 symm
 intro p2 H2 n2 g2 e2
 rw [Gj] at e2
 have h02:=g2 _ _ h01
 clear h01
 symm
 refine⟨.ref p2,.tuple (fw g.P g.s),rfl,.tup e2 (RpL.mono g2 rl),.tuple (MP rfl) λx hx=>?_,λH3 v3 g3 f3=>?_⟩
 ·unfold fw at hx
  rw [z1,z2] at hx
  simp only [Na,MT,or_false] at hx
  rcases hx with rfl | rfl | rfl | rfl | rfl
  ·exact .list (by simp) λx h=>by simp at h
  ·exact B4 _
  ·exact B4 _
  ·exact .list (by simp) λx h=>by simp at h
  ·exact .list (by simp) λx h=>by simp at h
 ·have ef:frz (.tuple (fw g.P g.s))= .tuple [.tuple [],.tuple (g.P.tl.toList.map ftl),.tuple ((g.s.sl.map (·.1)).toList.map ftl),.tuple [],.tuple []]:=by
   unfold fw
   rw [z1,z2]
   simp only [frz,bC,Iy,N0]
  rw [ef] at f3
  obtain⟨a3,xs3,rfl,e3,r3⟩:=bm f3
  have h03:=g3 _ _ h02
  obtain⟨vo,o1,o2⟩:=Y.to
  have o3:=g3 _ _ (g2 _ _ (g1 _ _ o1))
  have lo:=bG o2
  rw [MQ] at lo
  clear h02
  symm
  intro p4 H4 n4 g4 e4
  have l3:=bG r3
  symm
  refine⟨a3,p4,_,_,rfl,rfl,SqT.of (g4 _ _ e3),SqT.of e4,(λz=>by rw [z] at l3;cases l3),(by rw [l3];unfold ON;exact MP rfl),(λz=>by cases z),λ_ p5 n5=>?_⟩
  have k5:=aZ n5 (.tup (xs3++[.int g.s.beg,.int (vo.length-g.s.done)]))
  refine q _ _ ⟨ah g1 (ah g2 (ah g3 (ah g4 k5))),.tup (dj aC) ?_⟩
  have r5:=fP (a0 (Kt.of (ah g4 k5)) r3) (.cons (.int (g.s.beg:Int)) (.cons (.int ((vo.length:Int)-g.s.done)) .nil):FzL K _ _ _)
  rw [lo] at r5⊢
  exact r5
end
end _K
namespace _L
open PySem
theorem GE(go:J.go 0 H1)(h:∀v H',J.yld 0 H1 v H'->g v σ H' λσ2 H2=>tb {D with nx:=λσ' H'=>J.stop 1 H'/\D.nx σ' H',ct:=λσ' H'=>J.stop 1 H'/\D.nx σ' H',bk:=D.nx} σ2 H2):wq J g tb D σ H1:=by
 refine⟨λi m σ' H'=>(i=0/\m=1/\σ'=σ/\H'=H1)\/(i=1/\J.stop 1 H'/\D.nx σ' H'),⟨1,.inl ⟨rfl,rfl,rfl,rfl⟩⟩,?_⟩
 rintro i m σ' H' (⟨rfl,rfl,rfl,rfl⟩ | ⟨rfl,h1,h2⟩)
 ·exact .inr ⟨go,_,λσ2 H2 n=>⟨0,Nat.zero_lt_one,.inr ⟨rfl,n⟩⟩,h⟩
 ·exact .inl ⟨h1,h2⟩
theorem Bf(h:H d=some u):upd (upd H d o) d u=H:=by
 funext c
 by_cases z:c=d
 ·rw [z,aC,h]
 ·rw [aI z,aI z]
end _L
namespace _K
open PySem _L
section
variable{P:OR}{w:OV}{K:N5}{mg:Str->Option OL}{base:Heap}{C:CA}
structure StP where
 c:GC
 s:SC
 ta:Addr
 sa:Addr
 x:Addr
 l:Int
 e1:Addr
 e2:Addr
def tq(C:CA):Sp:=spG (A:=StP) (λa=>[.ref a.c.g,.ref a.ta,.ref a.sa]) (λa H=>GoZ C H a.c/\a.c.t=none/\a.c.s=some a.s/\H a.ta=some (.tup [])/\H a.sa=some (.tup [.ref a.x])/\H a.x=some (.tup [.int a.l,.ref a.e1,.ref a.e2])/\H a.e1=some (.tup [])/\H a.e2=some (.tup [])) (λa H v H'=>v= .non/\∃g p,H g=none/\H p=none/\FrG [a.s.a] H H'/\GoZ C H' (a.c.sS (some ⟨a.s.a,g,p,a.l,a.s.m⟩)))
theorem zm(D:MethAt K C.g "stand" "Goods.stand" jW ["self","tools","stores"])(J0:Cls K C.g)(J6:NoAttr K C.g "by_tool")(J7:NoAttr K C.g "by_store")(Kj:Cls K C.t)(KC:NoAttr K C.t "free")(Kh:NoAttr K C.t "held")(Kr:NoAttr K C.t "queue")(JV:Cls K C.s)(JX:NoAttr K C.s "level")(J1:NoAttr K C.s "getters")(J2:NoAttr K C.s "putters")(Lv:mg "zip" =none)(Kq:mg "dict" =none)(J9:mg "list" =none):OkM P w K mg base 1 C.g "stand" ["self","tools","stores"] (tq C):=by
 refine D.okG J0 cU (λ_=>rfl) λa f cdv A outer s0 H Q E hr p q=>?_
 obtain⟨⟨g,dt,ds,t,s⟩,sc,ta,sa,x,l,e1,e2⟩:=a
 dsimp only at p q⊢
 obtain⟨G,rfl,rfl,p1,p2,p3,p4,p5⟩:=p
 obtain⟨⟨dx,g1⟩,ht,hs,⟨dxs,k1⟩,k2,k3⟩:=G
 dsimp only at g1 hs
 have ht:H dt=some (.dK []):=ht
 refine⟨_,(aa (uT O1.never rfl (uU rfl Lv (aA (mG (aj J0 J6 (pvM 0))) (pvM 1))) (bF 2 rfl (aE (aX 3 cU) (aE (aX 4 cU) bq))) (aa (aD Kj KC (pvM 3) (ar (pvM 4) ab)) (aa (aD Kj Kh (pvM 3) (bK cL Kq (aB (ar (pvM 4) ab)))) (ac (aD Kj Kr (pvM 3) (bK cb J9 (aB (ar (pvM 4) ab)))))))) (ac (uT O1.never rfl (uU rfl Lv (aA (mG (aj J0 J7 (pvM 0))) (pvM 2))) (bF 2 rfl (aE (aX 5 cU) (aE (aX 4 cU) bq))) (aa (aD JV JX (pvM 5) (ar (pvM 4) ab)) (aa (aD JV J1 (pvM 5) (bK cb J9 (aB (ar (pvM 4) ab)))) (ac (aD JV J2 (pvM 5) (bK cb J9 (aB (ar (pvM 4) ab)))))))))),?_⟩
 symm
 unfold nW
 apply cI
 simp only [wz]
 symm
 simp only [nV]
 symm
 intro v1 H1 n1 s1 h1
 have t1:=s1 _ _ ht
 have q1:=s1 _ _ p1
 symm
 refine⟨dt,rfl,[],t1,⟨_,SqT.of q1⟩,λo nf=>lu ⟨aC,[],SqT.of (by rw [aI (λz=>by rw [z,t1] at q1;cases q1)];exact q1),.inl (Nat.le_refl _)⟩ ⟨dt,o,[],nf,aC,?_⟩⟩
 rw [Bf t1]
 have g1':=s1 _ _ g1
 have hs1:=s1 _ _ hs
 have p21:=s1 _ _ p2
 clear h1 t1 q1
 symm
 unfold nW
 apply cI
 simp only [wz]
 symm
 simp only [nV]
 symm
 intro v2 H2 n2 s2 h2
 have s12:=ah s1 s2
 have t2:=s2 _ _ hs1
 have q2:=s2 _ _ p21
 symm
 refine⟨ds,rfl,_,t2,⟨_,SqT.of q2⟩,λo nf=>?_⟩
 have nsa:sa≠ds:=λz=>by rw [z,t2] at q2;cases q2
 refine GE ⟨Nat.zero_lt_one,aC,[.ref x],.ref x,SqT.of (by rw [aI nsa];exact q2),rfl⟩ λv H3 y=>?_
 obtain⟨p6,k6,x6,y6,rfl,n6,s3,e6,ek,ey⟩:=y
 cases ek
 cases ey [.ref x] (SqT.of (by rw [aI nsa];exact q2))
 have k3':∀c u,c≠ds->H c=some u->H3 c=some u:=λc u nc h=>s3 _ _ (by rw [aI nc];exact s12 _ _ h)
 have ne:∀{c:Addr} {u:HO},H c=some u->u≠.dK [(Sum.inr "bin",.ref sc.a)]->c≠ds:=λh n z=>by rw [z,hs] at h;exact n (Option.some.inj h).symm
 have f3:=s3 _ _ aC
 have x3:=k3' _ _ (ne p3 (by intro z;cases z)) p3
 have a3:=k3' _ _ (ne p4 (by intro z;cases z)) p4
 have b3:=k3' _ _ (ne p5 (by intro z;cases z)) p5
 have o3:=k3' _ _ (ne k1 (by intro z;cases z)) k1
 have sa3:=k3' _ _ nsa p2
 clear h2 t2 q2 hs1 p21 g1'
 symm
 intro H4 m4
 have nx:x≠sc.a:=λz=>by rw [z,o3] at x3;cases x3
 have na:e1≠sc.a:=λz=>by rw [z,o3] at a3;cases a3
 have nb:e2≠sc.a:=λz=>by rw [z,o3] at b3;cases b3
 have nd:ds≠sc.a:=λz=>by rw [z,o3] at f3;cases f3
 have ns:sa≠sc.a:=λz=>by rw [z,o3] at sa3;cases sa3
 have o4:=m4.at_
 have x4:=m4.old x3 nx
 have a4:=m4.old a3 na
 have e64:=m4.old e6 λz=>by rw [z,o3] at e6;cases e6
 symm
 intro l5 H5 n5 s5 e5
 have o5:=s5 _ _ o4
 have x5:=s5 _ _ x4
 clear o4 x4 a4
 symm
 intro H6 m6
 have o6:=m6.at_
 have x6:=m6.old x5 nx
 have b6:=m6.old (s5 _ _ (m4.old b3 nb)) nb
 have e66:=m6.old (s5 _ _ e64) λz=>by rw [z,o3] at e6;cases e6
 symm
 intro l7 H7 n7 s7 e7
 have o7:=s7 _ _ o6
 have x7:=s7 _ _ x6
 clear o5 x5 o6 x6 b6
 symm
 intro H8 m8
 have all:∀c u,c≠sc.a->H3 c=some u->H8 c=some u:=λc u nc h=>m8.old (s7 _ _ (m6.old (s5 _ _ (m4.old h nc)) nc)) nc
 refine⟨⟨all _ _ nd f3,[.ref x],SqT.of (all _ _ ns sa3),.inl (Nat.le_refl _)⟩,ds,o,_,nf,all _ _ nd f3,?_⟩
 have fr4:∀c,H4 c=none->H c=none:=λc h=>by
  cases z:H c with
  | none=>rfl
  | some u=>
   by_cases e:c=ds
   ·rw [e,m4.old f3 nd] at h;cases h
   ·by_cases e':c=sc.a
    ·rw [e',m4.at_] at h;cases h
    ·rw [m4.old (k3' c u e z) e'] at h;cases h
 have n7':H4 l7=none:=by
  have e':=(av m6.at_ n7).symm
  rw [m6.else_ l7 e'] at n7
  exact s5.free n7
 have l5a:=(av m4.at_ n5).symm
 have l7a:=(av m6.at_ n7).symm
 have l5d:=(av (m4.old f3 nd) n5).symm
 have l7d:=(av (m4.old f3 nd) n7').symm
 have F:FrG [sc.a] H (upd H8 ds (.dK [(Sum.inr "bin",.ref sc.a)])):=λc u nc h=>by
  by_cases e:c=ds
  ·rw [e,aC];rw [e,hs] at h;exact h
  ·rw [aI e]
   exact all c u (λz=>nc (by rw [z];exact Nb _)) (k3' c u e h)
 have nF:∀{c:Addr} {u:HO},H c=some u->(∀fs,u= .ins C.s dxs fs->fs.length≠4)->c∉[sc.a]:=λh n z=>by
  rw [List.mem_singleton.mp z,k1] at h
  exact n _ (Option.some.inj h).symm rfl
 refine q _ _ ⟨rfl,l5,l7,fr4 _ n5,fr4 _ n7',F,⟨dx,F _ _ (λz=>?_) g1⟩,F _ _ (nF ht λfs z=>by cases z) ht,aC,⟨dxs,?_⟩,?_,?_⟩
 ·have z:g=sc.a:=List.mem_singleton.mp z
  rw [z,k1] at g1
  have:=congrArg List.length (HO.ins.inj (Option.some.inj g1)).2.2
  simp at this
 ·show upd H8 ds _ sc.a=_
  rw [aI nd.symm];exact m8.at_
 ·show upd H8 ds _ l5=_
  rw [aI l5d];exact m8.old (s7 _ _ (m6.old e5 l5a)) l5a
 ·show upd H8 ds _ l7=_
  rw [aI l7d];exact m8.old e7 l7a
end
end _K
namespace _K.Ag
open PySem _L
section
variable{P:OR}{w:OV}{K:N5}{mg:Str->Option OL}{base:Heap}
def spLSt0(CL:Addr):Sp:=spG (A:=Addr×Addr×Addr×Addr) (λx=>[.ref x.1,.ref x.2.2.2]) (λx H=>H x.1=some (.ins CL x.2.1 [("things",.ref x.2.2.1)])/\H x.2.2.2=some (.lst [])) (λx H v H'=>v= .non/\∃l,H l=none/\(∀c u,c≠x.1->H c=some u->H' c=some u)/\H' x.1=some (.ins CL x.2.1 [("things",.ref l)])/\H' l=some (.lst []))
theorem ok_LStand(D:MethAt K CL "stand" "ListAgenda.stand" gb ["self","kept"])(JN:Cls K CL)(JI:NoAttr K CL "things"):OkM P w K mg base 1 CL "stand" ["self","kept"] (spLSt0 CL):=by
 refine D.okG JN dB (λ_=>rfl) λx f cdv A outer s0 H Q E hr p q=>?_
 obtain⟨a,dx,l,lk⟩:=x
 dsimp only at p q⊢
 obtain⟨h1,h2⟩:=p
 refine⟨_,(aa (aD JN JI (pv 0) (aq aL)) (ac (cB O1.never rfl (bM (pv 1)) (bF 2 rfl (aE (aX 2 dB) (aE (aX 3 dB) bq))) bS))),?_⟩
 symm
 intro l1 H1 n1 g1 e1
 have h1':=g1 _ _ h1
 have h2':=g1 _ _ h2
 have nl:=(av h1 n1).symm
 clear h1
 symm
 intro H2 m2
 have nk:lk≠a:=λz=>by rw [z,h1'] at h2';cases h2'
 have h3:=m2.old h2' nk
 clear h2 h2'
 symm
 apply cI
 simp only [cF]
 symm
 exact⟨⟨_,SqL.of h3⟩,lu (over_list.stop 0 _ h3 (Nat.le_refl _)) (q _ _ ⟨rfl,l1,n1,λc u nc h=>m2.old (g1 _ _ h) nc,m2.at_,m2.old e1 nl⟩)⟩
def spHSt0(CH:Addr):Sp:=spG (A:=Addr×Addr×Addr×Addr×Int) (λx=>[.ref x.1,.ref x.2.2.2.1]) (λx H=>H x.1=some (.ins CH x.2.1 [("heap",.ref x.2.2.1),("turn",.int x.2.2.2.2)])/\H x.2.2.2.1=some (.lst [])) (λx H v H'=>v= .non/\∃l,H l=none/\(∀c u,c≠x.1->H c=some u->H' c=some u)/\H' x.1=some (.ins CH x.2.1 [("heap",.ref l),("turn",.int x.2.2.2.2)])/\H' l=some (.lst []))
theorem ok_HStand(D:MethAt K CH "stand" "HeapAgenda.stand" gh ["self","kept"])(JG:Cls K CH)(JH:NoAttr K CH "heap"):OkM P w K mg base 1 CH "stand" ["self","kept"] (spHSt0 CH):=by
 refine D.okG JG dC (λ_=>rfl) λx f cdv A outer s0 H Q E hr p q=>?_
 obtain⟨a,dx,l,lk,tn⟩:=x
 dsimp only at p q⊢
 obtain⟨h1,h2⟩:=p
 refine⟨_,(aa (aD JG JH (pv 0) (aq aL)) (ac (cB O1.never rfl (bM (pv 1)) (bF 2 rfl (aE (aX 2 dC) (aE (aX 3 dC) bq))) bS))),?_⟩
 symm
 intro l1 H1 n1 g1 e1
 have h1':=g1 _ _ h1
 have h2':=g1 _ _ h2
 have nl:=(av h1 n1).symm
 clear h1
 symm
 intro H2 m2
 have nk:lk≠a:=λz=>by rw [z,h1'] at h2';cases h2'
 have h3:=m2.old h2' nk
 clear h2 h2'
 symm
 apply cI
 simp only [cF]
 symm
 exact⟨⟨_,SqL.of h3⟩,lu (over_list.stop 0 _ h3 (Nat.le_refl _)) (q _ _ ⟨rfl,l1,n1,λc u nc h=>m2.old (g1 _ _ h) nc,m2.at_,m2.old e1 nl⟩)⟩
theorem AO.nil(h1:(c=true/\∃dx,H a=some (.ins CL dx [("things",.ref l)]))\/(c=false/\∃dx tn,H a=some (.ins CH dx [("heap",.ref l),("turn",.int tn)])))(h2:H l=some (.lst [])):AO CL CH H c a l []:=by
 have hl:HL H l []:=⟨h2,λ_ h=>absurd h MT⟩
 refine⟨[],[],h1.imp (λz=>?_) λz=>?_,.nil,⟨.refl _,.nil⟩,rfl⟩
 ·obtain⟨e,dx,h⟩:=z
  exact⟨e,dx,[],[],h,hl,⟨.refl _,.nil⟩,rfl⟩
 ·obtain⟨e,dx,tn,h⟩:=z
  exact⟨e,tn,dx,[],h,hl,.refl _,λi _ h=>absurd h (Nat.not_lt_zero _),λ_ h=>absurd h MT⟩
end
end _K.Ag
namespace _K
open PySem _L
noncomputable def Ce.sDh(c:Ce)(a:Addr):Ce:={c with dh:=a}
noncomputable def Ce.sDp(c:Ce)(a:Addr):Ce:={c with dp:=a}
noncomputable def Ce.sLl(c:Ce)(a:Addr):Ce:={c with ll:=a}
noncomputable def YS.again(P:Pr)(s:YS)(l m:Int)(b:Nat)(left:Int):YS:=⟨(P.out.length-left).toNat,b,0,0,s.stm,[],some (l,m),[],[],none⟩
def vz(C:CA)(K:N5):Sp:=spY C K (B:=Addr×Int×Int×Int×Nat×Int) (λb=>[.ref b.1]) (λb g H=>Fz K H (.ref b.1) (.tuple [.tuple [],.tuple [],.tuple [ftl b.2.1],.tuple [],.tuple [],.int b.2.2.2.2.1,.int b.2.2.2.2.2])/\g.P.tl=none/\g.s.sl=some (b.2.2.1,b.2.2.2.1)/\0<=b.2.2.2.2.2/\b.2.2.2.2.2<=g.P.out.length) (λ_ _=>.non) (λb g=>g.s.again g.P b.2.1 b.2.2.2.1 b.2.2.2.2.1 b.2.2.2.2.2)
section
variable{C:CA}{K:N5}{P:OR}{w:OV}{mg:Str->Option OL}{base:Heap}
theorem Bg{t:TA}(A:Ag.AO CL CH H b a l O)(ht:∀R:List V->Hp->Prop,(∀lk H',H lk=none->Same H H'->H' lk=some (.lst [])->R [.ref lk] H')->t σ H R)(k:∀H' l',(∀c u,c≠a->H c=some u->H' c=some u)->H l'=none->Ag.AO CL CH H' b a l' []->Q .non H'):(∃dx fs,H a=some (.ins CL dx fs)/\List.lookup (α:=Str) "stand" fs=none/\t σ H λvs H2=>Ag.spLSt0 CL (.ref a::vs) H2 Q E)\/∃dx fs,H a=some (.ins CH dx fs)/\List.lookup (α:=Str) "stand" fs=none/\t σ H λvs H2=>Ag.spHSt0 CH (.ref a::vs) H2 Q E':=by
 obtain⟨kt,ok,⟨e,dx,ps,ok2,g1,_⟩ | ⟨e,tn,dx,ps,g1,_⟩,_⟩:=A
 ·refine .inl ⟨dx,_,g1,rfl,ht _ λlk H1 n1 s1 e1=>⟨(a,dx,l,lk),rfl,⟨s1 _ _ g1,e1⟩,λv H2 po=>?_⟩⟩
  obtain⟨rfl,l',n2,f2,a2,e2⟩:=po
  exact k H2 l' (λc u n h=>f2 c u n (s1 _ _ h)) (s1.free n2) (Ag.AO.nil (.inl ⟨e,dx,a2⟩) e2)
 ·refine .inr ⟨dx,_,g1,rfl,ht _ λlk H1 n1 s1 e1=>⟨(a,dx,l,lk,tn),rfl,⟨s1 _ _ g1,e1⟩,λv H2 po=>?_⟩⟩
  obtain⟨rfl,l',n2,f2,a2,e2⟩:=po
  exact k H2 l' (λc u n h=>f2 c u n (s1 _ _ h)) (s1.free n2) (Ag.AO.nil (.inr ⟨e,dx,tn,a2⟩) e2)
theorem Bh(D:MethAt K C.y "stand" "Yard.stand" kJ ["self","kept"])(eq:Cls K C.y)(JK:NoAttr K C.y "hands")(JR:NoAttr K C.y "goods")(Ka:NoAttr K C.y "places")(JD:NoAttr K C.y "agenda")(JQ:NoAttr K C.y "begun")(JO:NoAttr K C.y "outer")(JE:NoAttr K C.y "outer_done")(JF:NoAttr K C.y "now")(JJ:NoAttr K C.y "happenings")(J8:NoAttr K C.y "laid")(JC:NoAttr K C.y "stopped")(Lm:OkM P w K mg base 1 C.g "stand" ["self","tools","stores"] (tq C))(K1:OkM P w K mg base 1 C.l "stand" ["self","kept"] (Ag.spLSt0 C.l))(K2:OkM P w K mg base 1 C.h "stand" ["self","kept"] (Ag.spHSt0 C.h))(Kq:mg "dict" =none)(Lv:mg "zip" =none)(J9:mg "list" =none)(JZ:mg "len" =none):OkM P w K mg base 2 C.y "stand" ["self","kept"] (vz C K):=by
 refine D.okG eq bU (λ_=>rfl) λa f cdv A outer s0 H Q E hr p q=>?_
 obtain⟨⟨ka,l,l0,m,b,left⟩,g⟩:=a
 dsimp only at p q⊢
 obtain⟨Y,fk,z1,z2,z3,z4⟩:=p
 have hu:=cn hr
 have h0:=Y.obj
 obtain⟨_,ks,ek,kk,rk⟩:=bm fk
 cases ek
 cases rk with | cons r1 rk=>cases rk with | cons r2 rk=>cases rk with | cons r3 rk=>cases rk with | cons r4 rk=>cases rk with | cons r5 rk=>cases rk with | cons r6 rk=>cases rk with | cons r7 rk=>
 cases rk;cases r6;cases r7
 obtain⟨t1,_,rfl,k1,u1⟩:=bm r1
 obtain⟨t2,_,rfl,k2,u2⟩:=bm r2
 obtain⟨t3,_,rfl,k3,u3⟩:=bm r3
 obtain⟨t4,_,rfl,k4,u4⟩:=bm r4
 obtain⟨t5,_,rfl,k5,u5⟩:=bm r5
 cases u1;cases u2;cases u4;cases u5
 refine⟨_,(aa (cr (pvM 1) (bF 7 rfl (aE (aX 2 bU) (aE (aX 3 bU) (aE (aX 4 bU) (aE (aX 5 bU) (aE (aX 6 bU) (aE (aX 7 bU) (aE (aX 8 bU) bq))))))))) (aa (aD eq JK (pvM 0) (bK cL Kq (aB (cE 1 ["hand"] [] (xp (pvM 2)) (λn _ _ _ _=>(cO 0 n)) (λ_ _ _ _=>bv) (λ_ _ _ _=>Aq))))) (aa (aO (bj Lm hr (aj eq JR (pvM 0)) (aA (pvM 3) (pvM 4)))) (aa (aD eq Ka (pvM 0) (lP rfl Kq rfl Lv (aA (bK nT J9 (aB (aj eq Ka (pvM 0)))) (pvM 5)))) (aa (aO (kC K1 K2 hr (aj eq JD (pvM 0)) (aB (bK cb J9 (aB (pvM 6)))))) (aa (aD eq JQ (pvM 0) (pvM 7)) (aa (aD eq JE (pvM 0) (aw cC (iF iK rfl JZ PM (aB (aj eq JO (pvM 0)))) (pvM 8))) (aa (aD eq JF (pvM 0) ab) (aa (aD eq JJ (pvM 0) ab) (aa (aD eq J8 (pvM 0) (aq aL)) (ac (aD eq JC (pvM 0) bp)))))))))))),?_⟩
 symm
 apply bA
 simp only [El]
 symm
 refine⟨⟨_,SqT.of k1⟩,gX rK (λH g=>g _ _ k1) λD1 H1 n1 g1 e1=>?_⟩
 have h01:=g1 _ _ h0
 clear h0
 symm
 refine⟨[],.nil,by decide,λdh H2 n2 g2 e2=>?_⟩
 have h02:=g2 _ _ h01
 clear h01 e1
 symm
 intro H3 m3
 have g12:=ah g1 g2
 have h03:H3 g.c.y=some (.ins C.y g.c.dx (aS (g.c.sDh dh) g.s)):=m3.at_
 have k13:∀c u,c≠g.c.y->H c=some u->H3 c=some u:=λc u n h=>m3.old (g12 _ _ h) n
 have ny:∀{c:Addr} {xs:List V},H c=some (.tup xs)->c≠g.c.y:=λh z=>by rw [z,Y.obj] at h;cases h
 obtain⟨sc,es,el⟩:∃sc,g.c.gc.s=some sc/\(sc.l,sc.m)=(l0,m):=by
  have:=Y.se
  rw [z2] at this
  cases z:g.c.gc.s with
  | none=>rw [z] at this;cases this
  | some sc=>rw [z] at this;exact⟨sc,rfl,Option.some.inj this⟩
 cases el
 have tn:g.c.gc.t=none:=by
  have:=Y.ts
  rw [z1] at this
  cases z:g.c.gc.t with
  | none=>rfl
  | some t=>rw [z] at this;cases this
 have G3:GoZ C H3 g.c.gc:=Y.go.grow λc hc u e=>k13 c u (λz=>by have:=Y.tg.g c hc;rw [z,Y.tg.y] at this;cases this) e
 obtain⟨⟨gdx,hg3⟩,_⟩:=id G3
 have hg3:H3 (g.c.sDh dh).gc.g=_:=hg3
 cases u3 with | cons v3 u3=>
 cases u3
 obtain⟨x,xs,rfl,x1,ux⟩:=bm v3
 cases ux with | cons w1 ux=>cases ux with | cons w2 ux=>cases ux with | cons w3 ux=>
 cases ux;cases w1
 obtain⟨y1,_,rfl,y2,uy⟩:=bm w2
 obtain⟨y3,_,rfl,y4,uz⟩:=bm w3
 cases uy;cases uz
 symm
 refine⟨⟨g.c.gc,sc,t2,t3,x,l,y1,y3⟩,rfl,⟨G3,tn,es,k13 _ _ (ny k2) k2,k13 _ _ (ny k3) k3,k13 _ _ (ny x1) x1,k13 _ _ (ny y2) y2,k13 _ _ (ny y4) y4⟩,λv H4 po=>?_⟩
 obtain⟨rfl,gg,gp,ng,np,F4,G4⟩:=po
 dsimp only at ng np F4 G4
 have nya:g.c.y∉[sc.a]:=λz=>by
  have z:=List.mem_singleton.mp z
  have:=Y.tg.g sc.a (by unfold GC.cs;rw [es];exact M9 _ (MV _ MU))
  rw [<-z,Y.tg.y] at this;cases this
 have h04:=F4 _ _ nya h03
 clear h03 hg3
 have k14:∀c u,c≠g.c.y->c≠sc.a->H c=some u->H4 c=some u:=λc u n n' h=>F4 c u (λz=>n' (List.mem_singleton.mp z)) (k13 c u n h)
 have ta:g.tg sc.a=6:=Y.tg.g sc.a (by unfold GC.cs;rw [es];exact M9 _ (MV _ MU))
 have k14t:∀c u,g.tg c≠1->g.tg c≠6->H c=some u->H4 c=some u:=λc u n n' h=>k14 c u (λz=>n (by rw [z];exact Y.tg.y)) (λz=>n' (by rw [z];exact ta)) h
 have t14:∀{c:Addr} {xs:List V},H c=some (.tup xs)->H4 c=some (.tup xs):=λh=>k14t _ _ (by rw [Y.tg.tup h];decide) (by rw [Y.tg.tup h];decide) h
 have dp4:H4 (g.c.sDh dh).dp=some (.dK []):=show H4 g.c.dp=_ from k14t _ _ (by rw [Y.tg.p];decide) (by rw [Y.tg.p];decide) Y.pl
 symm
 intro lp H5 n5 g5 e5
 have h05:=g5 _ _ h04
 have e5:H5 lp=some (.lst []):=e5
 have t45:=g5 _ _ (t14 k4)
 clear h04 dp4
 symm
 refine⟨[],.inr ⟨SqL.of e5,SqT.of t45⟩,λdp H6 n6 g6 e6=>?_⟩
 have e6:H6 dp=some (.dK []):=e6
 have h06:=g6 _ _ h05
 clear h05 e5 t45
 symm
 intro H7 m7
 have h07:H7 g.c.y=some (.ins C.y g.c.dx (aS ((g.c.sDh dh).sDp dp) g.s)):=m7.at_
 have g46:=ah g5 g6
 have k47:∀c u,c≠g.c.y->H4 c=some u->H7 c=some u:=λc u n h=>m7.old (g46 _ _ h) n
 have t57:=k47 _ _ (ny k5) (t14 k5)
 clear h06
 symm
 have A7:Ag.AO C.l C.h H7 g.c.kd g.c.ag g.c.al g.s.ag:=lx Y.ag λc u h e=>by
  rcases h with rfl | rfl | ⟨xs,rfl⟩
  ·exact k47 _ _ (λz=>by have:=Y.tg.a.1;rw [z,Y.tg.y] at this;cases this) (k14t _ _ (by rw [Y.tg.a.1];decide) (by rw [Y.tg.a.1];decide) e)
  ·exact k47 _ _ (λz=>by have:=Y.tg.a.2;rw [z,Y.tg.y] at this;cases this) (k14t _ _ (by rw [Y.tg.a.2];decide) (by rw [Y.tg.a.2];decide) e)
  ·exact k47 _ _ (ny e) (t14 e)
 refine Bg A7 (λR hR=>?_) λH8 al8 f8 n8 A8=>?_
 ·symm
  intro lk H8 n8 s8 e8
  exact hR lk H8 n8 s8 e8
 have nya2:g.c.y≠g.c.ag:=λz=>by have:=Y.tg.a.1;rw [<-z,Y.tg.y] at this;cases this
 have h08:=f8 _ _ nya2 h07
 clear h07 t57
 symm
 intro H9 m9
 have h09:H9 g.c.y=some (.ins C.y g.c.dx (aS ((g.c.sDh dh).sDp dp) (g.s.sBeg b))):=m9.at_
 obtain⟨vo,to1,to2⟩:=Y.to
 have lo:=bG to2
 rw [MQ] at lo
 have o9:H9 ((g.c.sDh dh).sDp dp).to=some (.tup vo):=m9.old (f8 _ _ (λz=>by have z:g.c.to=g.c.ag:=z;have:=Y.tg.a.1;rw [<-z,Y.tg.tup to1] at this;cases this) (k47 _ _ (ny to1) (t14 to1))) (ny to1)
 clear h08
 symm
 intro HA mA
 obtain⟨n,en⟩:∃n:Nat,(vo.length:Int)-left=n:=⟨((vo.length:Int)-left).toNat,by lia⟩
 have hA:HA g.c.y=some (.ins C.y g.c.dx (aS ((g.c.sDh dh).sDp dp) ((g.s.sBeg b).sDone n))):=by
  have:=mA.at_
  dsimp only at this
  rw [en] at this
  exact this
 clear h09 o9
 symm
 intro HB mB
 have hB:HB g.c.y=some (.ins C.y g.c.dx (aS ((g.c.sDh dh).sDp dp) (((g.s.sBeg b).sDone n).sNow 0))):=mB.at_
 clear hA
 symm
 intro HC mC
 have hC:HC g.c.y=some (.ins C.y g.c.dx (aS ((g.c.sDh dh).sDp dp) ((((g.s.sBeg b).sDone n).sNow 0).sHap 0))):=mC.at_
 clear hB
 symm
 intro ll _D nD gD eD
 have hD:=gD _ _ hC
 clear hC
 symm
 intro HE mE
 have hE:HE g.c.y=some (.ins C.y g.c.dx (aS (((g.c.sDh dh).sDp dp).sLl ll) ((((g.s.sBeg b).sDone n).sNow 0).sHap 0))):=mE.at_
 clear hD
 symm
 intro HF mF
 have hF:HF g.c.y=some (.ins C.y g.c.dx (aS ((((g.c.sDh dh).sDp dp).sLl ll).sSv .non) ((((g.s.sBeg b).sDone n).sNow 0).sHap 0))):=mF.at_
 -- what is there stays there
 have D4:∀c,H4 c=none->H c=none:=λc h=>by
  cases z:H c with
  | none=>rfl
  | some u=>
   by_cases e:c=g.c.y
   ·rw [e] at h
    rw [F4 _ _ nya m3.at_] at h;cases h
   ·by_cases e':c=sc.a
    ·obtain⟨_,_,_,⟨_,q4⟩,_⟩:=G4
     have q4:H4 sc.a=_:=q4
     rw [e',q4] at h;cases h
    ·rw [k14 c u e e' z] at h;cases h
 have D7:∀c,H7 c=none->H4 c=none:=λc h=>by
  have e:c≠g.c.y:=(av m7.at_ h).symm
  rw [m7.else_ c e] at h
  exact g46.free h
 obtain⟨⟨_,_,aag⟩,_,aal⟩:=A8.ins
 have D8:∀c,H8 c=none->H7 c=none:=λc h=>by
  cases z:H7 c with
  | none=>rfl
  | some u=>rw [f8 c u ((av aag h).symm) z] at h;cases h
 have DC:∀c,HC c=none->H8 c=none:=λc h=>by
  have e:c≠g.c.y:=(av mC.at_ h).symm
  rw [mC.else_ c e,mB.else_ c e,mA.else_ c e,m9.else_ c e] at h
  exact h
 have dh0:H dh=none:=g1.free n2
 have dp0:H dp=none:=D4 _ (g5.free n6)
 have al0:H al8=none:=D4 _ (D7 _ n8)
 have ll0:H ll=none:=D4 _ (D7 _ (D8 _ (DC _ nD)))
 have gg0:H gg=none:=by
  have e:gg≠g.c.y:=(av m3.at_ ng).symm
  rw [m3.else_ gg e] at ng
  exact g12.free ng
 have gp0:H gp=none:=by
  have e:gp≠g.c.y:=(av m3.at_ np).symm
  rw [m3.else_ gp e] at np
  exact g12.free np
 -- what lies where at the end
 have K8:∀c u,c≠g.c.y->H8 c=some u->HF c=some u:=λc u e h=>mF.old (mE.old (gD _ _ (mC.old (mB.old (mA.old (m9.old h e) e) e) e)) e) e
 have K4:∀c u,c≠g.c.y->c≠g.c.ag->H4 c=some u->HF c=some u:=λc u e e' h=>K8 c u e (f8 c u e' (k47 c u e h))
 have KT:∀c u,g.tg c≠1->g.tg c≠5->g.tg c≠6->H c=some u->HF c=some u:=λc u t1 t5 t6 h=>K4 c u (λz=>t1 (by rw [z];exact Y.tg.y)) (λz=>t5 (by rw [z];exact Y.tg.a.1)) (k14t c u t1 t6 h)
 have kt:Kt H HF:=λc xs h=>KT c _ (by rw [Y.tg.tup h];decide) (by rw [Y.tg.tup h];decide) (by rw [Y.tg.tup h];decide) h
 obtain⟨s1,s2,s3⟩:=Y.tg.st
 obtain⟨⟨_,_,ag0⟩,_⟩:=Y.ag.ins
 have nn:∀{c:Addr},H c=none->c≠g.c.y/\c≠g.c.ag/\c≠sc.a:=λh=>⟨(av Y.obj h).symm,(av ag0 h).symm,λz=>by
  obtain⟨_,_,st⟩:=Y.go
  rw [es] at st
  obtain⟨_,⟨_,q4⟩,_⟩:=st
  rw [z,q4] at h;cases h⟩
 have dhF:HF dh=some (.dK []):=K4 _ _ (nn dh0).1 (nn dh0).2.1 (F4 _ _ (λz=>(nn dh0).2.2 (List.mem_singleton.mp z)) (m3.old e2 (nn dh0).1))
 have dpF:HF dp=some (.dK []):=K8 _ _ (nn dp0).1 (f8 _ _ (nn dp0).2.1 (m7.old e6 (nn dp0).1))
 have llF:HF ll=some (.lst []):=mF.old (mE.old eD (nn ll0).1) (nn ll0).1
 have y8:H8 g.c.y=_:=f8 _ _ nya2 m7.at_
 have AF:Ag.AO C.l C.h HF g.c.kd g.c.ag al8 []:=lx A8 λc u h e=>K8 c u (λz=>by
  rcases h with rfl | rfl | ⟨xs,rfl⟩
  ·exact nya2 z.symm
  ·exact(nn al0).1 z
  ·rw [z,y8] at e;cases e) e
 have cg:∀c∈(g.c.gc.sS (some ⟨sc.a,gg,gp,l,sc.m⟩)).cs,g.tg c=6\/c=gg\/c=gp:=λc hc=>by
  unfold GC.cs GC.sS at hc
  rcases List.mem_append.mp hc with hc | hc
  ·exact .inl (Y.tg.g c (by unfold GC.cs;exact NA _ hc))
  ·simp only [scs,SC.cs,Na,MT,or_false] at hc
   rcases hc with rfl | rfl | rfl | rfl
   ·exact .inl (Y.tg.g _ (by unfold GC.cs;exact M9 _ MU))
   ·exact .inl ta
   ·exact .inr (.inl rfl)
   ·exact .inr (.inr rfl)
 have GF:GoZ C HF (g.c.gc.sS (some ⟨sc.a,gg,gp,l,sc.m⟩)):=G4.grow λc hc u e=>by
  rcases cg c hc with t | rfl | rfl
  ·exact K4 c u (λz=>by rw [z,Y.tg.y] at t;cases t) (λz=>by rw [z,Y.tg.a.1] at t;cases t) e
  ·exact K4 _ u (nn gg0).1 (nn gg0).2.1 e
  ·exact K4 _ u (nn gp0).1 (nn gp0).2.1 e
 -- the new cells are apart
 obtain⟨_,_,_,⟨_,sa4⟩,gg4,gp4⟩:=id G4
 have gg4:H4 gg=some (.lst []):=gg4
 have gp4:H4 gp=some (.lst []):=gp4
 have dh3:H3 dh=some (.dK []):=m3.old e2 (nn dh0).1
 have dh4:H4 dh=some (.dK []):=F4 _ _ (λz=>(nn dh0).2.2 (List.mem_singleton.mp z)) dh3
 have dp7:H7 dp=some (.dK []):=m7.old e6 (nn dp0).1
 have a1:gg≠dh/\gp≠dh:=⟨(av dh3 ng).symm,(av dh3 np).symm⟩
 have dpn:H4 dp=none:=g5.free n6
 have a2:dp≠dh/\dp≠gg/\dp≠gp:=⟨(av dh4 dpn).symm,(av gg4 dpn).symm,(av gp4 dpn).symm⟩
 have aln:=D7 _ n8
 have a3:al8≠dh/\al8≠gg/\al8≠gp/\al8≠dp:=⟨(av dh4 aln).symm,(av gg4 aln).symm,(av gp4 aln).symm,(av dp7 n8).symm⟩
 have ll8:=DC _ nD
 have lln:=D7 _ (D8 _ ll8)
 have a4:ll≠dh/\ll≠gg/\ll≠gp/\ll≠dp/\ll≠al8:=⟨(av dh4 lln).symm,(av gg4 lln).symm,(av gp4 lln).symm,(av dp7 (D8 _ ll8)).symm,(av aal ll8).symm⟩
 have told:∀a,(∃u,H a=some u)->(if a=dh then 7 else if a=gg\/a=gp then 6 else if a=dp then 3 else if a=al8 then 5 else if a=ll then 4 else g.tg a)=g.tg a:=λa h=>by
  obtain⟨u,h⟩:=h
  have q:∀{c:Addr},H c=none->a≠c:=λhc=>av h hc
  rw [Tf (q dh0),Tf (λz=>z.elim (q gg0) (q gp0)),Tf (q dp0),Tf (q al0),Tf (q ll0)]
 have town:∀a,g.tg a≠0->∃u,H a=some u:=λa h=>by obtain⟨o,e,_⟩:=Y.tg.own a h;exact⟨o,e⟩
 have tgg:∀c,c=gg\/c=gp->(if c=dh then 7 else if c=gg\/c=gp then 6 else if c=dp then 3 else if c=al8 then 5 else if c=ll then 4 else g.tg c)=6:=λc h=>by
  rw [Tf (λz=>h.elim (λe=>a1.1 (e.symm.trans z)) (λe=>a1.2 (e.symm.trans z))),Th h]
 have Sn:∃kv,HF g.c.dn=some (.dK kv)/\TbL K HF (λl:List Str=>l.map .str) kv g.P.nms:=by
  obtain⟨kv,k,r⟩:=Y.nm
  exact⟨kv,KT _ _ (by rw [s1];decide) (by rw [s1];decide) (by rw [s1];decide) k,r.kt kt⟩
 have Sb:∃kv,HF g.c.db=some (.dK kv)/\TbL K HF bdD kv g.P.bds:=by
  obtain⟨kv,k,r⟩:=Y.bd
  exact⟨kv,KT _ _ (by rw [s3];decide) (by rw [s3];decide) (by rw [s3];decide) k,r.kt kt⟩
 have en':n=((g.P.out.length:Int)-left).toNat:=by rw [<-lo];lia
 subst en'
 refine q _ _ ⟨rfl,{g.c with dh:=dh,dp:=dp,ll:=ll,al:=al8,hs:=[],gc:=g.c.gc.sS (some ⟨sc.a,gg,gp,l,sc.m⟩),sv:=.non},(λa=>if a=dh then 7 else if a=gg\/a=gp then 6 else if a=dp then 3 else if a=al8 then 5 else if a=ll then 4 else g.tg a),rfl,⟨hF,Sn,KT _ _ (by rw [s2];decide) (by rw [s2];decide) (by rw [s2];decide) Y.dr,Sb,⟨vo,kt _ _ to1,a0 kt to2⟩,dpF,AF,GF,Y.ts,rfl,dhF,.nil,⟨[],llF,.nil⟩,.non,⟨?_,⟨?_,?_,?_⟩,?_,?_,⟨?_,?_⟩,λa ha=>?_,?_,λ_ h=>absurd h MT,λa ha=>?_⟩⟩,⟨λa o t h=>KT a o (by rw [t];decide) (by rw [t];decide) (by rw [t];decide) h,λa ha=>?_⟩,λx _ hd=>?_⟩
 ·exact(told _ (town _ (by rw [Y.tg.y];decide))).trans Y.tg.y
 ·exact(told _ (town _ (by rw [s1];decide))).trans s1
 ·exact(told _ (town _ (by rw [s2];decide))).trans s2
 ·exact(told _ (town _ (by rw [s3];decide))).trans s3
 ·show(if dp=dh then 7 else if dp=gg\/dp=gp then 6 else if dp=dp then 3 else if dp=al8 then 5 else if dp=ll then 4 else g.tg dp)=3
  rw [Tf a2.1,Tf (λz=>z.elim a2.2.1 a2.2.2),Th rfl]
 ·show(if ll=dh then 7 else if ll=gg\/ll=gp then 6 else if ll=dp then 3 else if ll=al8 then 5 else if ll=ll then 4 else g.tg ll)=4
  obtain⟨z1,z2,z3,z4,z5⟩:=a4
  rw [Tf z1,Tf (λz=>z.elim z2 z3),Tf z4,Tf z5,Th rfl]
 ·exact(told _ (town _ (by rw [Y.tg.a.1];decide))).trans Y.tg.a.1
 ·show(if al8=dh then 7 else if al8=gg\/al8=gp then 6 else if al8=dp then 3 else if al8=al8 then 5 else if al8=ll then 4 else g.tg al8)=5
  obtain⟨z1,z2,z3,z4⟩:=a3
  rw [Tf z1,Tf (λz=>z.elim z2 z3),Tf z4,Th rfl]
 ·rcases cg a ha with t | t
  ·exact(told _ (town _ (by rw [t];decide))).trans t
  ·exact tgg a t
 ·exact Th rfl
 ·by_cases z1:a=dh
  ·rw [z1];exact⟨_,dhF,trivial⟩
  by_cases z2:a=gg\/a=gp
  ·rcases z2 with z | z
   ·rw [z];exact⟨_,K4 _ _ (nn gg0).1 (nn gg0).2.1 gg4,trivial⟩
   ·rw [z];exact⟨_,K4 _ _ (nn gp0).1 (nn gp0).2.1 gp4,trivial⟩
  by_cases z3:a=dp
  ·rw [z3];exact⟨_,dpF,trivial⟩
  by_cases z4:a=al8
  ·rw [z4];exact⟨_,K8 _ _ (nn al0).1 aal,trivial⟩
  by_cases z5:a=ll
  ·rw [z5];exact⟨_,llF,trivial⟩
  have ha:=ha
  rw [Tf z1,Tf z2,Tf z3,Tf z4,Tf z5] at ha
  obtain⟨o,ho,no⟩:=Y.tg.own a ha
  by_cases w1:a=g.c.y
  ·rw [w1];exact⟨_,hF,trivial⟩
  by_cases w2:a=g.c.ag
  ·obtain⟨⟨_,_,e⟩,_⟩:=AF.ins
   rw [w2];exact⟨_,e,trivial⟩
  by_cases w3:a=sc.a
  ·rw [w3];exact⟨_,K4 _ _ (λz=>w1 (w3.trans z)) (λz=>w2 (w3.trans z)) sa4,trivial⟩
  exact⟨o,K4 _ _ w1 w2 (k14 _ _ w1 w3 ho),no⟩
 ·by_cases z1:a=dh
  ·exact .inr (z1▸dh0)
  by_cases z2:a=gg\/a=gp
  ·exact z2.elim (λz=>.inr (z▸gg0)) (λz=>.inr (z▸gp0))
  by_cases z3:a=dp
  ·exact .inr (z3▸dp0)
  by_cases z4:a=al8
  ·exact .inr (z4▸al0)
  by_cases z5:a=ll
  ·exact .inr (z5▸ll0)
  have ha:(if a=dh then 7 else if a=gg\/a=gp then 6 else if a=dp then 3 else if a=al8 then 5 else if a=ll then 4 else g.tg a)≠0:=ha
  rw [Tf z1,Tf z2,Tf z3,Tf z4,Tf z5] at ha
  exact .inl ha
 ·obtain⟨_,h⟩:=hd
  exact absurd h MT
end
def St(y:Addr)(H H':Hp):Prop:=(∃C dx fs,H y=some (.ins C dx fs))/\∀a o,a≠y->H a=some o->H' a=some o
theorem St.kt(s:St y H H'):Kt H H':=λc xs h=>s.2 c _ (λz=>by
 obtain⟨C,dx,fs,e⟩:=s.1
 rw [<-z,h] at e;cases e) h
structure Bn(H0 H:Hp)(y:Addr)(tg:Addr->Nat)(F:Hp->Prop):Prop where
 s0:Same H0 H
 ty:tg y=1
 ins:∃C dx fs,H y=some (.ins C dx fs)
 own:∀a,tg a≠0->∃o,H a=some o/\nt o
 new:∀a,tg a≠0->H0 a=none
 fs:∀G G',St y G G'->F G->F G'
 f:F H
section
variable{H0 H H':Hp}{y:Addr}{tg:Addr->Nat}{F F2:Hp->Prop}
theorem Bn.same(b:Bn H0 H y tg F)(g:Same H H'):Bn H0 H' y tg F:=by
 obtain⟨C,dx,fs,e⟩:=b.ins
 exact⟨b.s0.trans g,b.ty,⟨C,dx,fs,g _ _ e⟩,(λa h=>by obtain⟨o,h1,h2⟩:=b.own a h;exact⟨o,g _ _ h1,h2⟩),b.new,b.fs,b.fs H H' ⟨b.ins,λa o _ h=>g _ _ h⟩ b.f⟩
theorem Bn.mu(b:Bn H0 H y tg F){fs:List (Str×V)}(m:Mu H y (.ins C dx fs) H'):Bn H0 H' y tg F:=by
 have ny:=b.new y (by rw [b.ty];decide)
 exact⟨λa o h=>m.old (b.s0 _ _ h) (λz=>by (rw [z,ny] at h;cases h)),b.ty,⟨_,_,_,m.at_⟩,(λa h=>by
  by_cases c:a=y
  ·rw [c];exact⟨_,m.at_,trivial⟩
  ·obtain⟨o,h1,h2⟩:=b.own a h;exact⟨o,m.old h1 c,h2⟩),b.new,b.fs,b.fs H H' ⟨b.ins,λa o h e=>m.old e h⟩ b.f⟩
theorem Bn.add(b:Bn H0 H y tg F)(g:Same H H')(n:H a=none)(e:H' a=some o)(t:nt o)(hk:k≠0)(s2:∀G G',St y G G'->F2 G->F2 G')(f2:F2 H'):∃tg',Bn H0 H' y tg' (λG=>F G/\F2 G)/\tg' a=k/\∀c,tg c≠0->tg' c=tg c:=by
 have old:∀c,tg c≠0->c≠a:=λc h z=>by
  obtain⟨o,h1,_⟩:=b.own c h
  rw [z,n] at h1;cases h1
 have b':=b.same g
 have ya:=old y (by rw [b.ty];decide)
 refine⟨λc=>if c=a then k else tg c,⟨b'.s0,by (rw [Tf ya];exact b.ty),b'.ins,λc h=>?_,λc h=>?_,λG G' s z=>⟨b.fs G G' s z.1,s2 G G' s z.2⟩,⟨b'.f,f2⟩⟩,Th rfl,λc h=>Tf (old c h)⟩
 ·by_cases z:c=a
  ·rw [z];exact⟨o,e,t⟩
  ·rw [Tf z] at h;exact b'.own c h
 ·by_cases z:c=a
  ·rw [z];exact b.s0.free n
  ·rw [Tf z] at h;exact b.new c h
end
theorem lF{a:Addr}{o:HO}(h:a≠y):∀G G',St y G G'->G a=some o->G' a=some o:=λ_ _ s e=>s.2 a o h e
section
variable{H0 H H':Hp}{y:Addr}{tg:Addr->Nat}{F F2:Hp->Prop}
theorem Bn.more(b:Bn H0 H y tg F)(s2:∀G G',St y G G'->F2 G->F2 G')(f2:F2 H):Bn H0 H y tg (λG=>F G/\F2 G):=⟨b.s0,b.ty,b.ins,b.own,b.new,λG G' s z=>⟨b.fs G G' s z.1,s2 G G' s z.2⟩,b.f,f2⟩
theorem Bn.many(b:Bn H0 H y tg F)(g:Same H H'){l:List Addr}(n:∀a∈l,H a=none)(e:∀a∈l,∃o,H' a=some o/\nt o)(s2:∀G G',St y G G'->F2 G->F2 G')(f2:F2 H'):∃tg',Bn H0 H' y tg' (λG=>F G/\F2 G)/\(∀c∈l,tg' c=k)/\∀c,tg c≠0->tg' c=tg c:=by
 have old:∀c,tg c≠0->c∉l:=λc h z=>by
  obtain⟨o,h1,_⟩:=b.own c h
  rw [n c z] at h1;cases h1
 have b':=b.same g
 have ya:=old y (by rw [b.ty];decide)
 refine⟨λc=>if c∈l then k else tg c,⟨b'.s0,by (rw [Tf ya];exact b.ty),b'.ins,λc h=>?_,λc h=>?_,λG G' s z=>⟨b.fs G G' s z.1,s2 G G' s z.2⟩,⟨b'.f,f2⟩⟩,λc h=>Th h,λc h=>Tf (old c h)⟩
 ·by_cases z:c∈l
  ·exact e c z
  ·rw [Tf z] at h;exact b'.own c h
 ·by_cases z:c∈l
  ·exact b.s0.free (n c z)
  ·rw [Tf z] at h;exact b.new c h
end
structure Hn where
 x:Str
 ns:List Str
 sm:List Sm
def HnO(K:N5)(H:Hp)(v:V)(h:Hn):Prop:=∃ph pn pb bd,v= .ref ph/\H ph=some (.tup [.str h.x,.ref pn,.ref pb])/\H pn=some (.lst (h.ns.map V.str))/\h.ns.length<=9/\Rp K H (.ref pb) (.list bd)/\Sz 7 (.list bd)/\frz (.list bd)= .tuple (bdD h.sm)
inductive HnL (K:N5) (H:Hp):List V->List Hn->Prop
 | nil:HnL K H [] []
 | cons {v:V} {h:Hn} {vs:List V} {hs:List Hn}:HnO K H v h->HnL K H vs hs->HnL K H (v::vs) (h::hs)
theorem HnL.get{hs:List Hn}(t:HnL K H vs hs):∀{i:Nat} {v:V},vs[i]? =some v->∃h,hs[i]? =some h/\HnO K H v h:=by
 induction t with
 | nil=>intro i v h;cases h
 | cons a _ ih=>
  intro i v h
  cases i with
  | zero=>cases h;exact⟨_,rfl,a⟩
  | succ i=>exact ih h
theorem HnL.length{hs:List Hn}(t:HnL K H vs hs):vs.length=hs.length:=by
 induction t with
 | nil=>rfl
 | cons _ _ ih=>simp only [M8,ih]
def PrgH(K:N5)(H:Hp)(pp:Addr)(t:Option (Addr×Int))(s:Option (Addr×Int×Int))(hs:List Hn):Prop:=∃p0 p1 p2 p3 vs,H pp=some (.tup [.ref p0,.ref p1,.ref p2,.ref p3])/\PtO H p0 t/\PsO H p1 s/\H p2=some (.lst [])/\H p3=some (.lst vs)/\HnL K H vs hs/\hs.length<=9/\(hs.map (·.x)).Nodup
theorem TbL.snoc{F:α->List OQ}(e:Fz K H v (.tuple (F a)))(t:TbL K H F kv l):TbL K H F (kv++[(Sum.inr x,v)]) (l++[(x,a)]):=by
 induction t with
 | nil=>exact .cons e .nil
 | cons b _ ih=>exact .cons b ih
theorem TbL.keys{F:α->List OQ}(t:TbL K H F kv l):kv.map (·.1)=(l.map (·.1)).map Sum.inr:=by
 induction t with
 | nil=>rfl
 | cons _ _ ih=>simp only [Ng,ih]
theorem _root_._L.PrK.snoc{H:Hp}{p:Addr}{k:Key}{v:V}(e:H p=some (.tup [kV k,v])){ys:List V}{kv:List (Key×V)}(t:PrK H ys kv):PrK H (ys++[.ref p]) (kv++[(k,v)]):=by
 induction t with
 | nil=>exact .cons e .nil
 | cons b _ ih=>exact .cons b ih
theorem _root_._L.PrK.kt{H H':Hp}(k:Kt H H'){ys:List V}{kv:List (Key×V)}(t:PrK H ys kv):PrK H' ys kv:=by
 induction t with
 | nil=>exact .nil
 | cons b _ ih=>exact .cons (k _ _ b) ih
theorem _root_._L.PrK.length{H:Hp}{ys:List V}{kv:List (Key×V)}(t:PrK H ys kv):ys.length=kv.length:=by
 induction t with
 | nil=>rfl
 | cons _ _ ih=>simp only [M8,ih]
theorem qw:∀(ps:List (Key×V)) (c:List (Key×V)),((c++ps).map (·.1)).Nodup->ps.foldl (λc p=>cD c p.1 p.2) c=c++ps
 | [],c,_=>(Nv c).symm
 | p::ps,c,nd=>by
  have no:¬(c.any λkv=>decide (kv.1=p.1))=true:=λz=>by
   obtain⟨x,hx,e⟩:=List.any_eq_true.mp z
   rw [MX,List.nodup_append] at nd
   exact nd.2.2 x.1 (Nr hx) p.1 (by simp) (of_decide_eq_true e)
  have e:cD c p.1 p.2=c++[p]:=by unfold cD;rw [Tf no]
  rw [Os,e,qw ps (c++[p]) (by rw [Nj];exact nd),Nj];rfl
theorem GG{xs:List Str}(h:xs.Nodup):(xs.map (Sum.inr:Str->Key)).Nodup:=by
 induction xs with
 | nil=>exact .nil
 | cons x r ih=>
  rw [Oo] at h
  rw [Ng,Oo]
  refine⟨λz=>?_,ih h.2⟩
  obtain⟨y,hy,e⟩:=List.mem_map.mp z
  cases e
  exact h.1 hy
def TbP{α:Type}(K:N5)(F:α->List OQ)(l:List (Str×α))(i:Nat)(ys:List V)(σ:_L.St)(H':Hp):Prop:=(∃v0,σ= [v0])/\∃kv,PrK H' ys kv/\TbL K H' F kv (l.take i)
theorem TbP.all{F:α->List OQ}(h:TbP K F l n ys σ H)(e:n=l.length)(nd:(l.map (·.1)).Nodup):∃kv,PrK H ys kv/\TbL K H F kv l/\kA kv=kv:=by
 obtain⟨_,kv,h1,h2⟩:=h
 rw [e,List.take_length] at h2
 refine⟨kv,h1,h2,qw kv [] ?_⟩
 rw [NO,h2.keys]
 exact GG nd
theorem tu:∀l:List Str,FzL K H (l.map V.str) (l.map OQ.str)
 | []=>.nil
 | _::l=>.cons (.str _) (tu l)
theorem Iz(h:GoZ C H c):∀x∈c.cs,∃o,H x=some o/\nt o:=λx hx=>by
 obtain⟨⟨dx,h1⟩,h2,h3⟩:=h
 obtain⟨g,dt,ds,t,s⟩:=c
 unfold GC.cs at hx
 cases t<;>cases s<;>simp only [tcs,scs,TC.cs,SC.cs,NN,NO,Na,MT,or_false] at hx
 ·rcases hx with rfl | rfl | rfl
  ·exact⟨_,h1,trivial⟩
  ·exact⟨_,h2,trivial⟩
  ·exact⟨_,h3,trivial⟩
 ·obtain⟨h3,⟨dx3,h4⟩,h5,h6⟩:=h3
  rcases hx with rfl | rfl | rfl | rfl | rfl | rfl
  ·exact⟨_,h1,trivial⟩
  ·exact⟨_,h2,trivial⟩
  ·exact⟨_,h3,trivial⟩
  ·exact⟨_,h4,trivial⟩
  ·exact⟨_,h5,trivial⟩
  ·exact⟨_,h6,trivial⟩
 ·obtain⟨h2,⟨dx3,h4⟩,h5,h6⟩:=h2
  rcases hx with rfl | rfl | rfl | rfl | rfl | rfl
  ·exact⟨_,h1,trivial⟩
  ·exact⟨_,h2,trivial⟩
  ·exact⟨_,h4,trivial⟩
  ·exact⟨_,h5,trivial⟩
  ·exact⟨_,h6,trivial⟩
  ·exact⟨_,h3,trivial⟩
 ·obtain⟨h2,⟨dx3,h4⟩,h5,h6⟩:=h2
  obtain⟨h3,⟨dx4,h7⟩,h8,h9⟩:=h3
  rcases hx with rfl | rfl | rfl | rfl | rfl | rfl | rfl | rfl | rfl
  ·exact⟨_,h1,trivial⟩
  ·exact⟨_,h2,trivial⟩
  ·exact⟨_,h4,trivial⟩
  ·exact⟨_,h5,trivial⟩
  ·exact⟨_,h6,trivial⟩
  ·exact⟨_,h3,trivial⟩
  ·exact⟨_,h7,trivial⟩
  ·exact⟨_,h8,trivial⟩
  ·exact⟨_,h9,trivial⟩
noncomputable def B5(c:Ce):List (Str×V):=[("names",.ref c.dn),("drawn",.ref c.dd),("places",.ref c.dp),("outer",.ref c.to),("outer_done",.int 0),("agenda",.ref c.ag),("goods",.ref c.gc.g),("hands",.ref c.dh),("begun",.int 0),("now",.int 0),("happenings",.int 0),("statements",.int 0),("laid",.ref c.ll),("stopped",.non)]
def YF(C:CA)(K:N5)(nms:List (Str×List Str))(out:List Ot)(c:Ce)(G:Hp):Prop:=(((((((Ag.AO C.l C.h G c.kd c.ag c.al []/\∃kv,G c.dn=some (.dK kv)/\TbL K G (λl:List Str=>l.map .str) kv nms)/\G c.dd=some (.dK []))/\G c.dp=some (.dK []))/\∃vs,G c.to=some (.tup vs)/\FzL K G vs (out.map Ot.D))/\GoZ C G c.gc)/\G c.dh=some (.dK []))/\G c.ll=some (.lst []))
structure YT(c:Ce)(tg:Addr->Nat):Prop where
 y:tg c.y=1
 st:tg c.dn=2/\tg c.dd=2
 p:tg c.dp=3
 l:tg c.ll=4
 a:tg c.ag=5/\tg c.al=5
 g:∀a∈c.gc.cs,tg a=6
 dh:tg c.dh=7
structure YA where
 y:Addr
 dx:Addr
 pp:Addr
 po:Addr
 ag:Addr
 al:Addr
 kd:Bool
 H0:Hp
 t:Option (Addr×Int)
 s:Option (Addr×Int×Int)
 hs:List Hn
 out:List Ot
 od:List OQ
 tg:Addr->Nat
def YaP(C:CA)(K:N5)(a:YA)(H:Hp):Prop:=Bn a.H0 H a.y a.tg (λG=>Ag.AO C.l C.h G a.kd a.ag a.al [])/\H a.y=some (.ins C.y a.dx [])/\a.tg a.ag=5/\a.tg a.al=5/\PrgH K a.H0 a.pp a.t a.s a.hs/\Rp K a.H0 (.ref a.po) (.list a.od)/\Sz 7 (.list a.od)/\frz (.list a.od)= .tuple (a.out.map Ot.D)
def YaQ(C:CA)(K:N5)(a:YA)(v:V)(H':Hp)(fl:Ce->List (Str×V))(F:Ce->Hp->Prop)(T:Ce->(Addr->Nat)->Prop):Prop:=v= .non/\∃(c:Ce) (tg:Addr->Nat),c.y=a.y/\c.dx=a.dx/\Bn a.H0 H' a.y tg (F c)/\H' a.y=some (.ins C.y a.dx (fl c))/\T c tg/\c.hs= []/\c.sv= .non/\c.gc.t.map (·.n)=a.t.map (·.2)/\c.gc.s.map (λs=>(s.l,s.m))=a.s.map (·.2)
def GH(C:CA)(K:N5):Sp:=spG (A:=YA) (λa=>[.ref a.y,.ref a.pp,.ref a.po,.ref a.ag]) (λa H=>YaP C K a H) (λa _ v H'=>YaQ C K a v H' B5 (YF C K (a.hs.map λh=>(h.x,h.ns)) a.out) YT)
section
variable{P:OR}{w:OV}{K:N5}{mg:Str->Option OL}{base:Heap}
structure InitAt(K:N5)(mg:Str->Option OL)(x:Str)(st:Stmt)(q:Str)(ps:List Str):Prop where
 ex:∃C f fd,mg x=some (.ref C)/\Qm K (.ref C)=some (.type "type")/\PySem.W.nsIn K QJ "thirdparty.any" =some none/\mj K C "__init__" f/\Fun K "__init__" q st f fd/\Binds K fd ps []
theorem InitAt.okG{args:A->List V}(D:InitAt K mg x st q ps)(sc:au N ps (ai st))(hl:∀a,(args a).length=ps.length)
 (body:∀(a:A) (f:Addr) (cdv:OL) (A':OY) (outer:List Env) (s:OO) (H:Hp) (Q:VK) (E:XK),Room k (A'.deeper (Pl q (ai st) s.heap.objs.size f cdv))->pre a H->(∀v H',post a H v H'->Q v H')->∃t,PSs (eT CX0 P w K mg base N q (ai st) f cdv A' outer s H E).nox (b7 st) t/\t {nx:=λ_ H'=>Q V.non H',rt:=Q} (start N (args a)) H):
 OkI P w K mg base (k+1) x ps (spG args pre post):=by
 obtain⟨C,f,fd,h1,h2,h3,h4,F,h5⟩:=D.ex
 refine⟨C,f,fd,h1,h2,h3,h4,h5,F.ok sc (λvs H Q E h=>?_) (λcdv A' outer s H vs Q E hr h=>?_)⟩
 ·obtain⟨a,rfl,_⟩:=h;exact hl a
 ·obtain⟨a,rfl,p,q⟩:=h;exact body a f cdv A' outer s H Q E hr p q
theorem tgU{tg tg':Addr->Nat}(o:∀c,tg c≠0->tg' c=tg c)(e:tg c=k)(nk:k≠0):tg' c=k:=by rw [o c (by rw [e];exact nk),e]
theorem IA(D:InitAt K mg "Yard" iO "Yard.__init__" ["self","program","outer","agenda"])(eq:Cls K C.y)(Ku:NoAttr K C.y "names")(K3:NoAttr K C.y "drawn")(Ka:NoAttr K C.y "places")(JO:NoAttr K C.y "outer")(JE:NoAttr K C.y "outer_done")(JD:NoAttr K C.y "agenda")(JR:NoAttr K C.y "goods")(JK:NoAttr K C.y "hands")(JQ:NoAttr K C.y "begun")(JF:NoAttr K C.y "now")(JJ:NoAttr K C.y "happenings")(JP:NoAttr K C.y "statements")(J8:NoAttr K C.y "laid")(JC:NoAttr K C.y "stopped")(Kq:mg "dict" =none)(KH:mg "tuple" =none)(KG:OkD P w K mg base 9 "frozen" ["thing"] (pM K 7))(LS:OkC P w K mg base 4 "Goods" C.g ["self","program"] (sI C)):OkI P w K mg base 10 "Yard" ["self","program","outer","agenda"] (GH C K):=by
 refine D.okG mO (λ_=>rfl) λa f cdv A outer s0 H Q E hr p q=>?_
 obtain⟨b,hy,ta,tl,prg,po,pz,pf⟩:=p
 obtain⟨p0,p1,p2,p3,vs0,k1,k2,k3,k6,k7,k8,k9,k10⟩:=id prg
 have big:100000<=ON:=by unfold ON;decide
 have h1:=b.s0 _ _ k1
 have h7:=b.s0 _ _ k7
 refine⟨_,(aa (aD eq Ku (pvM 0) (bK cL Kq (aB (cE 1 ["hand"] [] (bM (ar (pvM 1) ab)) (λn _ _ _ _=>(cO 0 n)) (λ_ _ _ _=>bv) (λ_ _ _ _=>(ad (aA (ar (pvM 0) ab) (bK kD KH (aB (ar (pvM 0) ab)))))))))) (aa (aD eq K3 (pvM 0) (bK cL Kq (aB (cE 1 ["row"] [] (bM (ar (pvM 1) ab)) (λn _ _ _ _=>(cO 0 n)) (λ_ _ _ _=>bv) (λ_ _ _ _=>(ad (aA (ar (pvM 0) ab) (bK kD KH (aB (ar (pvM 0) ab)))))))))) (aa (aD eq Ka (pvM 0) (bK cL Kq (aB (cE 1 ["row"] [] (bM (ar (pvM 1) ab)) (λn _ _ _ _=>(cO 0 n)) (λ_ _ _ _=>bv) (λ_ _ _ _=>(ad (aA (ar (pvM 0) ab) ab))))))) (aa (aD eq JO (pvM 0) (aH KG hr rfl (aB (pvM 2)))) (aa (aD eq JE (pvM 0) ab) (aa (aD eq JD (pvM 0) (pvM 3)) (aa (aD eq JR (pvM 0) (fJ LS hr rfl (aB (pvM 1)))) (aa (aD eq JK (pvM 0) rH) (aa (aD eq JQ (pvM 0) ab) (aa (aD eq JF (pvM 0) ab) (aa (aD eq JJ (pvM 0) ab) (aa (aD eq JP (pvM 0) ab) (aa (aD eq J8 (pvM 0) (aq aL)) (ac (aD eq JC (pvM 0) bp))))))))))))))),?_⟩
 symm
 apply bA
 simp only [cF]
 symm
 refine⟨⟨_,SqL.of h7⟩,jJ h7 (by rw [k8.length];unfold ON;lia) (TbP K (λl:List Str=>l.map .str) (a.hs.map λh=>(h.x,h.ns))) (λ_ _=>⟨⟨_,rfl⟩,[],.nil,.nil⟩) ?_ ?_⟩
 ·rintro D' i x ys σ1 H1 hx at1 ⟨⟨v0,rfl⟩,kv,pk,tb⟩
  obtain⟨h,ih,ph,pn,pb,bd,rfl,q1,q2,q3,_⟩:=k8.get hx
  have h8':=at1.same _ _ (b.s0 _ _ q1)
  have h9':=at1.same _ _ (b.s0 _ _ q2)
  have lD:=at1.lst
  have at1':=PLift.up at1
  clear at1 hx
  symm
  intro u H2 n2 g2 e2
  have h8'':=g2 _ _ h8'
  symm
  intro t H3 n3 g3 e3
  have nD:∀{c:Addr} {xs:List V},H3 c=some (.tup xs)->c≠D':=λe z=>by rw [z,(g2.trans g3) _ _ lD] at e;cases e
  refine at1'.down.put (g2.trans g3) λH5 mu=>?_
  have kt:Kt H1 H5:=λc xs e=>mu.old ((g2.trans g3) _ _ e) (nD ((g2.trans g3) _ _ e))
  refine⟨⟨_,rfl⟩,kv++[(Sum.inr h.x,.ref u)],(pk.kt kt).snoc (mu.old e3 (nD e3)),?_⟩
  have e:(a.hs.map λh=>(h.x,h.ns)).take (i+1)=(a.hs.map λh=>(h.x,h.ns)).take i++[(h.x,h.ns)]:=by rw [List.take_add_one,M4,ih];rfl
  rw [e]
  exact(tb.kt kt).snoc (.tup (dj (mu.old (g3 _ _ e2) (nD (g3 _ _ e2)))) (tu _))
 ·rintro D1 ys σ1 H1 hD1 g1 hys JZ tp
  obtain⟨kv,pk,tb,pa⟩:=tp.all (by rw [k8.length,MQ]) (by rw [NK];exact k10)
  symm
  refine⟨kv,pk,by (have:=pk.length;have:=k8.length;lia),λdn H2 n2 g2 e2=>?_⟩
  rw [pa] at e2
  have ny1:dn≠a.y:=λz=>by
   rw [z,g1 _ _ hy] at n2;cases n2
  obtain⟨tg2,b2,t2,o2⟩:=(b.same g1).add g2 (k:=2) (F2:=λG=>∃kv,G dn=some (.dK kv)/\TbL K G (λl:List Str=>l.map .str) kv (a.hs.map λh=>(h.x,h.ns))) n2 e2 trivial (by decide) (λG G' s z=>by
   obtain⟨v,z1,z2⟩:=z
   exact⟨v,s.2 _ _ ny1 z1,z2.kt s.kt⟩) ⟨_,e2,tb.kt (Kt.of g2)⟩
  have hy2:=g2 _ _ (g1 _ _ hy)
  symm
  intro H3 m3
  have b3:=b2.mu m3
  have hy3:=m3.at_
  have h13:=b3.s0 _ _ k1
  have h63:=b3.s0 _ _ k6
  clear hy2 h1 h7 e2 hy
  symm
  apply bA
  simp only [cF]
  symm
  refine⟨⟨_,SqL.of h63⟩,gX over_list (λH g=>g _ _ h63) λD4 H4 n4 g4 e4=>?_⟩
  symm
  refine⟨[],.nil,by simp,λdd H5 n5 g5 e5=>?_⟩
  have e5:=e5
  have hy5:=g5 _ _ (g4 _ _ hy3)
  obtain⟨tg5,b5,t5,o5⟩:=(b3.same g4).add g5 (k:=2) (F2:=λG=>G dd=some (.dK [])) n5 e5 trivial (by decide) (lF (λz=>by rw [z,g4 _ _ hy3] at n5;cases n5)) e5
  clear hy3 h13 h63
  symm
  intro H6 m6
  have b6:=b5.mu m6
  have hy6:=m6.at_
  have h16:=b6.s0 _ _ k1
  have h66:=b6.s0 _ _ k6
  clear hy5 e5
  symm
  apply bA
  simp only [cF]
  symm
  refine⟨⟨_,SqL.of h66⟩,gX over_list (λH g=>g _ _ h66) λD7 H7 n7 g7 e7=>?_⟩
  symm
  refine⟨[],.nil,by simp,λdp H8 n8 g8 e8=>?_⟩
  have e8:=e8
  have hy8:=g8 _ _ (g7 _ _ hy6)
  obtain⟨tg8,b8,t8,o8⟩:=(b6.same g7).add g8 (k:=3) (F2:=λG=>G dp=some (.dK [])) n8 e8 trivial (by decide) (lF (λz=>by rw [z,g7 _ _ hy6] at n8;cases n8)) e8
  clear hy6 h16 h66
  symm
  intro H9 m9
  have b9:=b8.mu m9
  have hy9:=m9.at_
  have po9:=Rp.mono b9.s0 po
  clear hy8 e8
  symm
  refine⟨.ref a.po,.list a.od,rfl,po9,pz,λH10 v10 g10 z10=>?_⟩
  rw [pf] at z10
  have hy10:=g10 _ _ hy9
  have b10:=b9.same g10
  clear hy9 po9
  cases z10 with
  | @tup to vs _ ht rt=>
   have ht:=gM _ _ ht
   have yto:to≠a.y:=λz=>by rw [z,hy10] at ht;cases ht
   have b10':=b10.more (F2:=λG=>∃vs,G to=some (.tup vs)/\FzL K G vs (a.out.map Ot.D)) (λG G' s z=>by
    obtain⟨vs,z1,z2⟩:=z
    exact⟨vs,s.2 _ _ yto z1,a0 s.kt z2⟩) ⟨vs,ht,rt⟩
   clear ht
   symm
   intro H11 m11
   have b11:=b10'.mu m11
   have hy11:=m11.at_
   clear hy10
   symm
   intro H12 m12
   have b12:=b11.mu m12
   have hy12:=m12.at_
   clear hy11
   symm
   intro H13 m13
   have b13:=b12.mu m13
   have hy13:=m13.at_
   clear hy12
   symm
   intro g gx H14 ng ngx g14 hg hgx
   have b14:=b13.same g14
   refine⟨(g,gx,a.pp,p0,p1,.ref p2,.ref p3,a.t,a.s),rfl,⟨hg,b14.s0 _ _ k1,k2.same b14.s0,k3.same b14.s0⟩,λv15 H15 po15=>?_⟩
   obtain⟨rfl,gc,eg,fr,go,me,ms,nc⟩:=po15
   have S15:=λc u h=>fr c u (λz=>by rw [z,ng] at h;cases h) (g14 _ _ h)
   have nn:∀c∈gc.cs,H13 c=none:=λc hc=>by
    by_cases z:c=g
    ·rw [z];exact ng
    ·exact g14.free (nc c hc z)
   have gy:∀c∈gc.cs,c≠a.y:=λc hc z=>by
    rw [z] at hc
    rw [nn _ hc] at hy13;cases hy13
   have hy15:=S15 _ _ hy13
   obtain⟨tg15,b15,t15,o15⟩:=b13.many S15 (k:=6) (F2:=λG=>GoZ C G gc) nn (λx hx=>Iz go x hx) (λG G' s z=>z.grow λc hc u hu=>s.2 c u (gy c hc) hu) go
   clear hy13 hg hgx
   symm
   intro H16 m16
   have b16:=b15.mu m16
   have hy16:=m16.at_
   clear hy15
   symm
   intro dh H17 n17 g17 e17
   have hy17:=g17 _ _ hy16
   obtain⟨tg17,b17,t17,o17⟩:=b16.add g17 (k:=7) (F2:=λG=>G dh=some (.dK [])) n17 e17 trivial (by decide) (lF (λz=>by rw [z,hy16] at n17;cases n17)) e17
   clear hy16 e17
   symm
   intro H18 m18
   have b18:=b17.mu m18
   have hy18:=m18.at_
   clear hy17
   symm
   intro H19 m19
   have b19:=b18.mu m19
   have hy19:=m19.at_
   clear hy18
   symm
   intro H20 m20
   have b20:=b19.mu m20
   have hy20:=m20.at_
   clear hy19
   symm
   intro H21 m21
   have b21:=b20.mu m21
   have hy21:=m21.at_
   clear hy20
   symm
   intro H22 m22
   have b22:=b21.mu m22
   have hy22:=m22.at_
   clear hy21
   symm
   intro ll H23 n23 g23 e23
   have hy23:=g23 _ _ hy22
   obtain⟨tg23,b23,t23,o23⟩:=b22.add g23 (k:=4) (F2:=λG=>G ll=some (.lst [])) n23 e23 trivial (by decide) (lF (λz=>by rw [z,hy22] at n23;cases n23)) e23
   clear hy22 e23
   symm
   intro H24 m24
   have b24:=b23.mu m24
   have hy24:=m24.at_
   clear hy23
   symm
   intro H25 m25
   have b25:=b24.mu m25
   have hy25:=m25.at_
   have eg:gc.g=g:=eg
   rw [<-eg] at hy25
   refine q _ _ ⟨rfl,⟨a.y,a.dx,dn,dd,dp,0,to,a.kd,a.ag,a.al,gc,dh,ll,[],.non⟩,tg23,rfl,rfl,b25,hy25,⟨b25.ty,⟨tgU o23 (tgU o17 (tgU o15 (tgU o8 (tgU o5 t2 (by decide)) (by decide)) (by decide)) (by decide)) (by decide),tgU o23 (tgU o17 (tgU o15 (tgU o8 t5 (by decide)) (by decide)) (by decide)) (by decide)⟩,tgU o23 (tgU o17 (tgU o15 t8 (by decide)) (by decide)) (by decide),t23,⟨tgU o23 (tgU o17 (tgU o15 (tgU o8 (tgU o5 (tgU o2 ta (by decide)) (by decide)) (by decide)) (by decide)) (by decide)) (by decide),tgU o23 (tgU o17 (tgU o15 (tgU o8 (tgU o5 (tgU o2 tl (by decide)) (by decide)) (by decide)) (by decide)) (by decide)) (by decide)⟩,λc hc=>tgU o23 (tgU o17 (t15 c hc) (by decide)) (by decide),tgU o23 t17 (by decide)⟩,rfl,rfl,me,ms⟩
noncomputable def dO(hs:List Hn)(t:Option (Addr×Int))(out:List Ot):Pr:=⟨hs.map λh=>(h.x,h.ns),hs.map λh=>(h.x,h.sm),out,t.map (·.2)⟩
noncomputable def ys0(s:Option (Addr×Int×Int)):YS:=⟨0,0,0,0,0,[],s.map (·.2),[],[],none⟩
def Bi(C:CA)(K:N5):Sp:=spG (A:=YA) (λa=>[.ref a.y,.ref a.pp,.ref a.po,.ref a.ag]) (λa H=>YaP C K a H) (λa _ v H'=>v= .non/\Same a.H0 H'/\∃c tg,c.y=a.y/\Yd C K (dO a.hs a.t a.out) H' c (ys0 a.s) tg/\∀x,tg x≠0->a.H0 x=none)
theorem IB(D:MakeAt K mg "PlainYard" C.y "PlainYard.__init__" fm ["self","program","outer","agenda"])(eq:Cls K C.y)(Kp:NoAttr K C.y "bodies")(Kq:mg "dict" =none)(KG:OkD P w K mg base 9 "frozen" ["thing"] (pM K 7))(Lz:OkI P w K mg base 10 "Yard" ["self","program","outer","agenda"] (GH C K)):OkC P w K mg base 11 "PlainYard" C.y ["self","program","outer","agenda"] (Bi C K):=by
 refine MakeAt.okG D jp (λ_=>rfl) λa f cdv A outer s0 H Q E hr p q=>?_
 refine⟨_,(aa (aO (CS Lz hr rfl (aU (pvM 0) (pvM 1) (pvM 2) (pvM 3)))) (ac (aD eq Kp (pvM 0) (bK cL Kq (aB (cE 1 ["hand"] [] (bM (ar (pvM 1) ab)) (λn _ _ _ _=>(cO 0 n)) (λ_ _ _ _=>bv) (λ_ _ _ _=>(ad (aA (ar (pvM 0) ab) (aH KG hr rfl (aB (ar (pvM 0) ab)))))))))))),?_⟩
 symm
 refine⟨a,rfl,p,λv H1 q1=>?_⟩
 obtain⟨_,_,_,_,prg,_⟩:=p
 obtain⟨p0,p1,p2,p3,vs0,k1,k2,k3,k6,k7,k8,k9,k10⟩:=id prg
 obtain⟨rfl,c,tg,ey,ex,b,hy,T,ehs,esv,et1,es1⟩:=q1
 have h1:=b.s0 _ _ k1
 have h7:=b.s0 _ _ k7
 symm
 apply bA
 simp only [cF]
 symm
 refine⟨⟨_,SqL.of h7⟩,jJ h7 (by rw [k8.length];unfold ON;lia) (TbP K bdD (a.hs.map λh=>(h.x,h.sm))) (λ_ _=>⟨⟨_,rfl⟩,[],.nil,.nil⟩) ?_ ?_⟩
 ·rintro D' i x ys σ1 H1 hx at1 ⟨⟨v0,rfl⟩,kv,pk,tb⟩
  obtain⟨h,ih,ph,pn,pb,bd,rfl,q1,_,_,q4,q5,q6⟩:=k8.get hx
  have h8':=at1.same _ _ (b.s0 _ _ q1)
  have h10':=Rp.mono at1.same (Rp.mono b.s0 q4)
  have lD:=at1.lst
  have at1':=PLift.up at1
  clear at1 hx
  symm
  refine⟨.ref pb,.list bd,rfl,h10',q5,λH2 v2 g2 z2=>?_⟩
  rw [q6] at z2
  cases z2 with
  | @tup u vs _ hu ru=>
   symm
   intro t H3 n3 g3 e3
   have nD:∀{c:Addr} {xs:List V},H3 c=some (.tup xs)->c≠D':=λe z=>by rw [z,(g2.trans g3) _ _ lD] at e;cases e
   refine at1'.down.put (g2.trans g3) λH5 mu=>?_
   have kt3:Kt H3 H5:=λc xs e=>mu.old e (nD e)
   have kt:=(Kt.of (g2.trans g3)).trans kt3
   refine⟨⟨_,rfl⟩,kv++[(Sum.inr h.x,.ref u)],(pk.kt kt).snoc (mu.old e3 (nD e3)),?_⟩
   have e:(a.hs.map λh=>(h.x,h.sm)).take (i+1)=(a.hs.map λh=>(h.x,h.sm)).take i++[(h.x,h.sm)]:=by rw [List.take_add_one,M4,ih];rfl
   rw [e]
   exact(tb.kt kt).snoc (a8 ((Kt.of g3).trans kt3) (.tup hu ru))
 ·rintro D1 ys σ1 H2 hD1 g2 hys JZ tp
  obtain⟨kv,pk,tb,pa⟩:=tp.all (by rw [k8.length,MQ]) (by rw [NK];exact k10)
  symm
  refine⟨kv,pk,by (have:=pk.length;have:=k8.length;lia),λdb H3 n3 g3 e3=>?_⟩
  rw [pa] at e3
  have ny3:db≠a.y:=λz=>by
   rw [z,g2 _ _ hy] at n3;cases n3
  have hy3:=g3 _ _ (g2 _ _ hy)
  obtain⟨tg3,b3,t3,o3⟩:=(b.same g2).add g3 (k:=2) (F2:=λG=>∃kv,G db=some (.dK kv)/\TbL K G bdD kv (a.hs.map λh=>(h.x,h.sm))) n3 e3 trivial (by decide) (λG G' s z=>by
   obtain⟨v,z1,z2⟩:=z
   exact⟨v,s.2 _ _ ny3 z1,z2.kt s.kt⟩) ⟨_,e3,tb.kt (Kt.of g3)⟩
  clear e3
  unfold B5 at hy3
  symm
  intro H4 m4
  have b4:=b3.mu m4
  have hy4:=m4.at_
  obtain⟨⟨⟨⟨⟨⟨⟨⟨ao,vn,en,zn⟩,ed⟩,ep⟩,vo,eo,zo⟩,go⟩,edh⟩,el⟩,vb,eb,zb⟩:=b4.f
  have ob:H4 c.y=some (HO.ins C.y c.dx (aS {c with db:=db} (ys0 a.s))):=by
   rw [ey,ex,hy4]
   unfold aS
   dsimp only
   rw [esv]
   rfl
  refine q _ _ ⟨rfl,b4.s0,{c with db:=db},tg3,ey,⟨ob,⟨_,en,zn⟩,ed,⟨_,eb,zb⟩,⟨vo,eo,zo⟩,ep,ao,go,et1,es1,by show H4 c.dh=some (.dK (c.hs.map _));rw [ehs];exact edh,by show HdL C H4 c.hs _;rw [ehs];exact .nil,⟨_,el,.nil⟩,by show Fz K H4 c.sv _;rw [esv];exact .non,?_⟩,b4.new⟩
  exact⟨tgU o3 T.y (by decide),⟨tgU o3 T.st.1 (by decide),tgU o3 T.st.2 (by decide),t3⟩,tgU o3 T.p (by decide),tgU o3 T.l (by decide),⟨tgU o3 T.a.1 (by decide),tgU o3 T.a.2 (by decide)⟩,λx hx=>tgU o3 (T.g x hx) (by decide),tgU o3 T.dh (by decide),λh hh=>by (have:h∈c.hs:=hh;rw [ehs] at this;cases this),b4.own⟩
def iw:Sp:=λvs H Q _=>∃c k:Int,vs= [.int c,.int k]/\0<=k/\k<=1000/\∀m:Int,0<=m->m<2^28->Q (.int m) H
theorem DG(D:DefAt K mg "_law_stir" lZ ["cell","k"])(Kk:mg "range" =none):OkD P w K mg base 1 "_law_stir" ["cell","k"] iw:=by
 refine D.ok cW (λvs H Q E h=>?_) (λf cdv A outer s H vs Q E hr h=>?_)
 ·obtain⟨c,k,rfl,_⟩:=h;rfl
 obtain⟨c,k,rfl,h0,h1,q⟩:=h
 refine⟨_,(aa (aJ (aM Hu (pv 0) (aw Ep ab ab)) (aa (cB O1.never rfl (bT rfl Kk (aB (aw br (pv 1) ab))) (aX 2 cW) (ac (aP 0 cW (aw jc (pv 0) ab)))) (ac (az (aw br (pv 0) ab)))) aG) (aa (aP 3 cW (aw br (aw eS (aw aY (aw aY (pv 0) (aw eS ab (pv 1))) ab) ab) ab)) (aa (aP 3 cW (aw br (aw eS (pv 3) (pv 3)) ab)) (aa (aP 3 cW (aw br (aw aY (aw eS (pv 3) ab) (aw eS ab (pv 1))) ab)) (ac (az (aw jc (aw br (aw eS (pv 3) (pv 3)) ab) ab))))))),?_⟩
 walk_at "rd"
 refine dI (λc1=>?_) λc1=>?_
 ·apply cI
  simp only [vQ]
  walk_at "rd"
  refine⟨by lia,by lia,iC (λi σ H'=>H'=H/\∃(c':Int) (v2:Option V),σ= [some (.int c'),some (.int k),v2,none]) ⟨rfl,c,_,rfl⟩ ?_ ?_⟩
  ·rintro i σ H' hi ⟨rfl,c',v2,rfl⟩
   walk_at "rd"
  ·rintro σ H' ⟨rfl,c',v2,rfl⟩
   walk_at "rd"
   exact q _ (N9 _ (by decide)) (Int.lt_trans (NF _ (by decide)) (by decide))
 ·have e1:=N9 ((c+977*k+1)*48271) (show(2147483647:Int)≠0 by decide)
  have e2:=NF ((c+977*k+1)*48271) (show(0:Int)<2147483647 by decide)
  generalize (c+977*k+1)*48271%2147483647=x at e1 e2
  have e3:=N9 (x*x%2147483629*69621+13*k) (show(2147483587:Int)≠0 by decide)
  have e4:=NF (x*x%2147483629*69621+13*k) (show(0:Int)<2147483587 by decide)
  generalize (x*x%2147483629*69621+13*k)%2147483587=y at e3 e4
  refine⟨.inl ⟨by lia,by lia⟩,.inl ⟨by lia,by lia⟩,q _ ?_ ?_⟩
  ·have:=N9 (y*y) (show(2147483579:Int)≠0 by decide)
   lia
  ·have:=NF (y*y) (show(0:Int)<2147483579 by decide)
   lia
end
structure Rn where
 pp:Addr
 po:Addr
 hp:Bool
 mo:Nat
 t:Option (Addr×Int)
 s:Option (Addr×Int×Int)
 hs:List Hn
 out:List Ot
 od:List OQ
 I:Nat->YS->Prop
def Rn.P(a:Rn):Pr:=dO a.hs a.t a.out
structure RnP(K:N5)(N M:Nat)(a:Rn)(H:Hp):Prop where
 prg:PrgH K H a.pp a.t a.s a.hs
 ou:Rp K H (.ref a.po) (.list a.od)
 sz:Sz 7 (.list a.od)
 fz:frz (.list a.od)= .tuple (a.out.map Ot.D)
 i0:a.I 0 (ys0 a.s)
 st:∀n s,n<a.mo->a.I n s->io a.P N M s/\(s.next a.P≠none->a.I (n+1) (s.step a.P))
def RnQ(C:CA)(K:N5)(a:Rn)(H:Hp)(v:V)(H':Hp):Prop:=Same H H'/\∃r c s tg n,v= .ref r/\H' r=some (.lst [.ref c.y,.int (n:Nat)])/\tg r=0/\Yd C K a.P H' c s tg/\a.I n s/\(n=a.mo\/n<a.mo/\s.next a.P=none)/\∀x,tg x≠0->H x=none
def jx(C:CA)(K:N5)(N M:Nat):Sp:=spG (A:=Rn) (λa=>[.ref a.pp,.ref a.po,.bl a.hp,.int a.mo]) (λa H=>RnP K N M a H) (λa H v H'=>RnQ C K a H v H')
def DnI(C:CA)(K:N5)(a:Rn)(ag y:Addr)(H:Hp)(m:Nat)(σ:_L.St)(H':Hp):Prop:=∃n,n+m=a.mo/\σ= [some (.ref a.pp),some (.ref a.po),some (.bl a.hp),some (.int a.mo),some (.ref ag),some (.ref y),some (.int (n:Nat))]/\Same H H'/\∃c s tg,c.y=y/\Yd C K a.P H' c s tg/\a.I n s/\∀x,tg x≠0->H x=none
def AgZ(C:CA)(a:Rn)(H:Hp)(σ:_L.St)(H':Hp):Prop:=∃ag al kd,σ= [some (.ref a.pp),some (.ref a.po),some (.bl a.hp),some (.int a.mo),some (.ref ag),none,none]/\Same H H'/\Ag.AO C.l C.h H' kd ag al []/\H ag=none/\H al=none
section
variable{C:CA}{P:OR}{w:OV}{K:N5}{mg:Str->Option OL}{base:Heap}
theorem tw(g1:Same H H1)(ao:Ag.AO C.l C.h H1 kd ag al [])(na:H ag=none)(nl:H al=none)(ny:H1 y=none)(g2:Same H1 H2)(hy:H2 y=some (.ins C.y dx [])):∃tg,Bn H H2 y tg (λG=>Ag.AO C.l C.h G kd ag al [])/\tg ag=5/\tg al=5:=by
 have nt1:=wT ao
 obtain⟨o1,e1,_⟩:=nt1 ag MU
 obtain⟨o2,e2,_⟩:=nt1 al (MV _ MU)
 have n1:ag≠y:=λz=>by rw [z,ny] at e1;cases e1
 have n2:al≠y:=λz=>by rw [z,ny] at e2;cases e2
 have ao2:=lx ao λc u _ h=>g2 _ _ h
 refine⟨λa=>if a=y then 1 else if a=ag\/a=al then 5 else 0,⟨g1.trans g2,Th rfl,⟨_,_,_,hy⟩,λa h=>?_,λa h=>?_,λG G' s z=>lx z λc u hc hu=>?_,ao2⟩,(Tf n1).trans (Th (.inl rfl)),(Tf n2).trans (Th (.inr rfl))⟩
 ·by_cases c:a=y
  ·rw [c];exact⟨_,hy,trivial⟩
  ·by_cases c2:a=ag\/a=al
   ·exact wT ao2 a (by rcases c2 with rfl | rfl<;>simp)
   ·rw [Tf c,Tf c2] at h;exact absurd rfl h
 ·by_cases c:a=y
  ·rw [c];exact g1.free ny
  ·by_cases c2:a=ag\/a=al
   ·rcases c2 with rfl | rfl
    ·exact na
    ·exact nl
   ·rw [Tf c,Tf c2] at h;exact absurd rfl h
 ·rcases hc with rfl | rfl | ⟨xs,rfl⟩
  ·exact s.2 _ _ n1 hu
  ·exact s.2 _ _ n2 hu
  ·exact s.kt _ _ hu
theorem DH(D:DefAt K mg "_law_goes" ma ["program","outer","heap","most"])(KI:OkC P w K mg base 1 "ListAgenda" C.l ["self"] (Ag.spLI C.l))(Ls:OkC P w K mg base 1 "HeapAgenda" C.h ["self"] (Ag.spHI C.h))(KR:OkC P w K mg base 11 "PlainYard" C.y ["self","program","outer","agenda"] (Bi C K))(JL:OkM P w K mg base 3 C.y "next_moment" ["self"] (spR C K (λg=>g.s.done<=g.P.out.length) λg=>eE (g.s.next g.P)))(Kg:OkM P w K mg base (M+N+11) C.y "step" ["self"] (tm C K N M)):OkD P w K mg base (M+N+20) "_law_goes" ["program","outer","heap","most"] (jx C K N M):=by
 refine D.okG cX (λ_=>rfl) λa f cdv A outer s0 H Q E hr p q=>?_
 refine⟨_,(aa (aP 4 cX (kx KI hr rfl)) (aa (ls (aJ (bX (pvM 2)) (ac (aP 4 cX (kx Ls hr rfl))) aG)) (aa (aP 5 cX (fJ KR hr rfl (bc (pvM 0) (pvM 1) (pvM 4)))) (aa (aP 6 cX ab) (aa (cZ O1.never (PW.pt (dG (aM jF (pvM 6) (pvM 3)) (cR (aM fD (aW JL hr (pvM 5)) bp)))) (aa (aO (aW Kg hr (pvM 5))) (ac (aP 6 cX (aw aY (pvM 6) ab))))) (ac (az (aq (aA (pvM 5) (pvM 6)))))))))),?_⟩
 symm
 intro a1 dx1 H1 n1 nd1 g1 h1 hd1
 refine⟨a1,dx1,rfl,h1,λl1 H2 n2 k2 la=>⟨rfl,?_⟩⟩
 have S2:Same H H2:=λc u h=>k2 c u (λz=>by rw [z,n1] at h;cases h) (g1 _ _ h)
 symm
 refine⟨AgZ C a H,?_,?_⟩
 ·by_cases c:a.hp=true
  ·apply di c
   clear c
   symm
   intro a2 dx2 H3 n3 nd3 g3 h3 hd3
   refine⟨a2,dx2,rfl,h3,λl2 H4 n4 k4 ha=>⟨rfl,?_⟩⟩
   have S4:=λc u h=>k4 c u (λz=>by rw [z,S2.free n3] at h;cases h) (g3 _ _ (S2 _ _ h))
   have e4:=(S2.trans g3).free n4
   symm
   exact⟨a2,l2,false,rfl,S4,Ag.HA.ao ha,S2.free n3,e4⟩
  ·apply bz c
   clear c
   symm
   exact⟨a1,l1,true,rfl,S2,Ag.LA.ao la,n1,g1.free n2⟩
 ·rintro σ H3 ⟨ag,al,kd,rfl,S3,ao,na,nl⟩
  symm
  intro y dx H4 ny ndx g4 hy hdx
  obtain⟨tg0,b,t1,t2⟩:=tw S3 ao na nl ny g4 hy
  refine⟨⟨y,dx,a.pp,a.po,ag,al,kd,H,a.t,a.s,a.hs,a.out,a.od,tg0⟩,rfl,⟨b,hy,t1,t2,p.prg,p.ou,p.sz,p.fz⟩,λv H5 w5=>?_⟩
  obtain⟨rfl,S5,c,tg,ey,Y,nw⟩:=w5
  refine⟨rfl,?_⟩
  dsimp only at S5 ey Y nw
  symm
  refine⟨DnI C K a ag y H,⟨a.mo,0,Ol _,rfl,S5,c,_,tg,ey,Y,p.i0,nw⟩,λm σ H6 z=>?_⟩
  obtain⟨n,em,rfl,S6,c6,s6,tg6,ey6,Y6,i6,nw6⟩:=z
  subst ey6
  have h06:=Y6.obj
  have tz:∀{x:Addr},H6 x=none->tg6 x=0:=λ{x} hx=>by
   rcases Np (tg6 x) with z | z
   ·exact z
   ·obtain⟨o,e,_⟩:=Y6.tg.own x (Nw z)
    rw [hx] at e;cases e
  have fin:∀r H7,(n=a.mo\/n<a.mo/\s6.next a.P=none)->H6 r=none->Same H6 H7->H7 r=some (.lst [.ref c6.y,.int (n:Nat)])->Q (.ref r) H7:=λr H7 o nr g7 er=>q _ _ ⟨S6.trans g7,r,c6,s6,tg6,n,rfl,er,tz nr,Y6.same g7,i6,o,nw6⟩
  have q:=PLift.up q
  have fin:=PLift.up fin
  symm
  refine dI (λlt=>?_) λnl=>?_
  ·have lt:n<a.mo:=by lia
   obtain⟨so,sn⟩:=p.st n s6 lt i6
   symm
   refine⟨⟨a.P,c6,s6,tg6⟩,rfl,⟨Y6,so.1⟩,λv H7 w7=>?_⟩
   obtain⟨rfl,e7⟩:=w7
   have two:s6.next a.P=none\/∃k,s6.next a.P=some k:=by
    cases s6.next a.P with
    | none=>exact .inl rfl
    | some k=>exact .inr ⟨k,rfl⟩
   rcases two with en | ⟨k,en⟩
   ·have fin':=PLift.up λr H7=>fin.down r H7 (.inr ⟨lt,en⟩)
    simp only [en,eE]
    symm
    intro r H7 nr g7 er
    exact fin'.down r H7 nr g7 er
   ·have i':=sn (by rw [en];simp)
    simp only [en,eE]
    refine⟨DnI C K a ag c6.y H (m-1),λσ' H' z=>⟨m-1,by lia,z⟩,?_⟩
    symm
    refine⟨⟨a.P,c6,s6,tg6⟩,rfl,⟨Y6,so⟩,λv H8 w8=>?_⟩
    obtain⟨rfl,c8,tg8,ey8,Y8,gr8⟩:=w8
    symm
    refine⟨n+1,by lia,rfl,λx o h=>gr8.1 x o ?_ (S6 _ _ h),c8,_,tg8,ey8,Y8,i',λx h=>?_⟩
    ·rcases Np (tg6 x) with z | z
     ·exact z
     ·rw [nw6 x (Nw z)] at h;cases h
    ·rcases gr8.2 x h with z | z
     ·exact nw6 x z
     ·exact S6.free z
  ·have e:n=a.mo:=by lia
   symm
   intro r H7 nr g7 er
   exact fin.down r H7 (.inl e) nr g7 (by rw [e];exact er)
end
section
variable{C:CA}{K:N5}{P:OR}{w:OV}{mg:Str->Option OL}{base:Heap}
theorem Bj(D:MethAt K C.y "step" "Yard.step" iX ["self"])(eq:Cls K C.y)(JF:NoAttr K C.y "now")(JJ:NoAttr K C.y "happenings")(JC:NoAttr K C.y "stopped")(JP:NoAttr K C.y "statements")(JK:NoAttr K C.y "hands")(JD:NoAttr K C.y "agenda")(JL:OkM P w K mg base 3 C.y "next_moment" ["self"] (spR C K (λg=>g.s.done<=g.P.out.length) λg=>eE (g.s.next g.P)))(JW:OkM P w K mg base 2 C.y "outer_is_next" ["self"] (spR C K (λg=>g.s.done<=g.P.out.length) λg=>.bl (g.s.outNext g.P)))(Ki:OkM P w K mg base 5 C.y "do_outer" ["self"] (pK C K))(Kw:OkM P w K mg base (M+N+10) C.y "go_on" ["self","hand"] (Be C K N M))(Ky:OkM P w K mg base 1 C.l "take" ["self"] (Ag.spLTake C.l))(Kz:OkM P w K mg base 3 C.h "take" ["self"] (Ag.spHTake C.h))(MG:mg "MOST_HAPPENINGS" =some (.int 500 tk)):OkM P w K mg base (M+N+11) C.y "step" ["self"] (spR C K (λg=>g.s.done<=g.P.out.length/\g.s.next g.P=none) λ_=>.non):=by
 refine D.okG eq fh (λ_=>rfl) λg f cdv A outer s0 H Q E hr p q=>?_
 obtain⟨Y,sd,en⟩:=p
 have hu:=cn hr
 have h0:=Y.obj
 refine⟨_,(aa (aP 1 fh (aW JL hr (pvM 0))) (aa (aJ (aM je (pvM 1) bp) (ac jb) aG) (aa (ls (aJ (aM gH (pvM 1) (aj eq JF (pvM 0))) (aa (aD eq JF (pvM 0) (pvM 1)) (ac (aD eq JJ (pvM 0) ab))) aG)) (aa (aJ (aM bi (aj eq JJ (pvM 0)) (fC (v:=.int 500) rfl MG ⟨_,rfl⟩)) (aa (aD eq JC (pvM 0) (ad (aB ae))) (ac jb)) aG) (aa (aD eq JJ (pvM 0) (aw aY (aj eq JJ (pvM 0)) ab)) (ac (aJ (bX (aW JW hr (pvM 0))) (ac (aO (aW Ki hr (pvM 0)))) (aa (aD eq JP (pvM 0) ab) (ac (aO (bj Kw hr (pvM 0) (aB (dJ hu (aj eq JK (pvM 0)) (ar (eY Ky Kz hr (aj eq JD (pvM 0))) ab) (λ_ _=>rfl)))))))))))))),?_⟩
 symm
 refine⟨g,rfl,⟨Y,sd⟩,λv H1 w1=>?_⟩
 obtain⟨rfl,rfl⟩:=w1
 dsimp only
 rw [en]
 unfold eE
 symm
theorem vA(hx:Rp K H x d)(hy:Rp K H y d)(sh:SeqAt.shaped d=true)(k:Kx (.bl false) H):EJ K x y H Kx:=by
 refine⟨d,d,hx,hy,sh,sh,?_⟩
 have h:=sh
 unfold SeqAt.shaped at h
 rw [M0] at h
 rw [Rb d h.1]
 exact k
theorem fR(hx:Rp K H x d)(hy:Rp K H y d)(sh:SeqAt.shaped d=true)(k:Kx (.bl true) H):EI K x y H Kx:=by
 refine⟨d,d,hx,hy,sh,sh,?_⟩
 have h:=sh
 unfold SeqAt.shaped at h
 rw [M0] at h
 rw [Rb d h.1]
 exact k
theorem xb(h:Fz K H v d):Rp K H v d:=Rp.mono gM h
theorem jy(e:H l=some (.lst vs))(h:FzL K H vs ds):Rp K H (.ref l) (.list ds):=.lst e (RpL.mono gM h)
structure SdP(C:CA)(K:N5)(a:Gy×V×Addr×List OQ)(H:Hp):Prop where
 y:Yd C K a.1.P H a.1.c a.1.s a.1.tg
 dn:a.1.s.done<=a.1.P.out.length
 st:a.1.s.st=some a.2.2.2
 fs:Fz K H a.2.1 (.tuple a.2.2.2)
 lg:Rp K H (.ref a.2.2.1) (.list a.1.s.lg)
 vw:iq a.1.s
 s1:SeqAt.shaped (.tuple a.2.2.2)=true
 s2:SeqAt.shaped (.list a.1.s.lg)=true
 s3:SeqAt.shaped (.tuple (.int a.1.s.now::fw a.1.P a.1.s))=true
def fS(C:CA)(K:N5):Sp:=spG (A:=Gy×V×Addr×List OQ) (λa=>[.ref a.1.c.y,a.2.1,.ref a.2.2.1]) (λa H=>SdP C K a H) (λ_ H v H'=>v= .bl true/\Same H H')
theorem zp(D:DefAt K mg "_law_stands" jZ ["yard","stop","log"])(KW:OkM P w K mg base 1 C.y "end" ["self"] (spR C K (λ_=>True) λg=>g.c.sv))(JL:OkM P w K mg base 3 C.y "next_moment" ["self"] (spR C K (λg=>g.s.done<=g.P.out.length) λg=>eE (g.s.next g.P)))(KY:OkM P w K mg base 1 C.y "log" ["self"] (B3 C K))(JS:OkM P w K mg base 3 C.y "view" ["self"] (ir C K))(Kg:OkM P w K mg base (M+N+11) C.y "step" ["self"] (spR C K (λg=>g.s.done<=g.P.out.length/\g.s.next g.P=none) λ_=>.non))(Mt:mg "Yard" =some (.ref aYd))(kYd:OP K (.ref C.y) (.ref aYd)=some true)(Kl:mg "isinstance" =none):OkD P w K mg base (M+N+20) "_law_stands" ["yard","stop","log"] (fS C K):=by
 refine D.okG jr (λ_=>rfl) λa f cdv A outer s0 H Q E hr p q=>?_
 obtain⟨g,st,la,D0⟩:=a
 obtain⟨Y,dn,est,fs,lg,vw,s1,s2,s3⟩:=p
 dsimp only at Y dn est fs lg vw s1 s2 s3 q⊢
 have hu64:=hr.units
 have h0:=Y.obj
 have sv:Fz K H g.c.sv (.tuple D0):=by
  have:=Y.sv
  rw [est] at this;exact this
 have nx:g.s.next g.P=none:=by unfold YS.next;rw [est];rfl
 have fs:=xb fs
 have sv:=xb sv
 refine⟨_,(aa (aJ (PW.pt (kW (aM (xO hu64) (aW KW hr (pvM 0)) (pvM 1)) (kW (aM fD (aW JL hr (pvM 0)) bp) (j5 (aM (xO hu64) (aW KY hr (pvM 0)) (pvM 2)))))) (ac (az ci)) aG) (aa (aJ (dv (bX (fM sf Kl (aA (pvM 0) (fC (v:=.ref aYd) rfl Mt rfl))))) (ac (az ci)) aG) (aa (aP 3 jr (aW JS hr (pvM 0))) (aa (aO (aW Kg hr (pvM 0))) (ac (az (j6 (cv (gT hu64) (aW KW hr (pvM 0)) (pvM 1)) (j6 (cv (gT hu64) (aW KY hr (pvM 0)) (pvM 2)) (nE (cv (gT hu64) (aW JS hr (pvM 0)) (pvM 3))))))))))),?_⟩
 symm
 refine⟨g,rfl,⟨Y,trivial⟩,λv H1 w1=>?_⟩
 obtain⟨rfl,rfl⟩:=w1
 dsimp only
 apply vA sv fs s1
 symm
 refine⟨g,rfl,⟨Y,dn⟩,λv H2 w2=>?_⟩
 obtain⟨rfl,rfl⟩:=w2
 dsimp only
 apply bz (by simp [nx,eE])
 symm
 refine⟨g,rfl,Y,λv H3 w3=>?_⟩
 obtain⟨r3,vs3,rfl,n3,g3,e3,z3⟩:=w3
 apply vA (jy e3 z3) (Rp.mono g3 lg) s2
 have h03:=g3 _ _ h0
 symm
 refine⟨g,rfl,⟨Y.same g3,vw⟩,λv H4 w4=>?_⟩
 obtain⟨g4,r4⟩:=w4
 have h04:=g4 _ _ h03
 have Y4:=Y.same (g3.trans g4)
 clear h03
 symm
 refine⟨g,rfl,⟨Y4,dn,nx⟩,λv5 H5 w5=>?_⟩
 obtain⟨rfl,rfl⟩:=w5
 symm
 refine⟨g,rfl,⟨Y4,trivial⟩,λv6 H6 w6=>?_⟩
 obtain⟨rfl,rfl⟩:=w6
 dsimp only
 apply fR (Rp.mono (g3.trans g4) sv) (Rp.mono (g3.trans g4) fs) s1
 symm
 refine⟨g,rfl,Y4,λv7 H7 w7=>?_⟩
 obtain⟨r7,vs7,rfl,n7,g7,e7,z7⟩:=w7
 apply fR (jy e7 z7) (Rp.mono ((g3.trans g4).trans g7) lg) s2
 have h07:=g7 _ _ h04
 clear h04
 symm
 refine⟨g,rfl,⟨Y4.same g7,vw⟩,λv8 H8 w8=>?_⟩
 obtain⟨g8,r8⟩:=w8
 apply fR r8 (Rp.mono (g7.trans g8) r4) s3
 have q':=q _ _ ⟨rfl,((g3.trans g4).trans g7).trans g8⟩
 symm
end
section
variable{K:N5}{H0:Hp}{σ:_L.St}
structure Rv(R:Hp->Hp)(H0:Hp):Prop where
 m:∀{H H':Hp},Same H H'->Same (R H) (R H')
 s:∀{H:Hp},Same (R H) H
 t:∀{H H':Hp} {p:Addr} {xs:List V},Same H0 H->H p=none->H' p=some (.tup xs)->R H' p=some (.tup xs)
structure Rl(R:Hp->Hp)(H0:Hp):Prop extends Rv R H0 where
 n:∀{H H':Hp} {p:Addr} {o:HO},Same H0 H->H p=none->H' p=some o->R H' p=some o
theorem xc:Rv tp H0:=⟨λh=>(Kt.of h).tp,gM,λ_ _ h=>dj h⟩
theorem rl_id:Rl id H0:=⟨⟨λh=>h,λ_ _ h=>h,λ_ _ h=>h⟩,λ_ _ h=>h⟩
theorem rl_nw:Rl (nw H0) H0:=⟨⟨uK λ_ _ h=>h,iH,λg n h=>cq (g.free n) h⟩,λg n h=>cq (g.free n) h⟩
theorem gP{l:Addr}{o:HO}(e:H0 l=some o):Rl (dA l) H0:=by
 have n:∀{H H':Hp} {p:Addr} {o:HO},Same H0 H->H p=none->H' p=some o->dA l H' p=some o:=λg n h=>fI (λz=>by rw [z,g _ _ e] at n;cases n) h
 exact⟨⟨kr,ji,n⟩,n⟩
def DE(K:N5)(R:Hp->Hp)(H0:Hp)(σ:_L.St)(te:TE)(d:OQ):Prop:=∀H Q,Same H0 H->(∀v H',Same H H'->Rp K (R H') v d->Q v H')->te σ H Q
def DA(K:N5)(R:Hp->Hp)(H0:Hp)(σ:_L.St)(ta:TA)(ds:List OQ):Prop:=∀H Q,Same H0 H->(∀vs H',Same H H'->RpL K (R H') vs ds->Q vs H')->ta σ H Q
variable{R:Hp->Hp}
theorem GI:DE K R H0 σ (tC (.str s)) (.str s):=λ_ _ _ q=>q _ _ (λ_ _ h=>h) (.str _)
theorem GJ:DE K R H0 σ (tC (.int i)) (.int i):=λ_ _ _ q=>q _ _ (λ_ _ h=>h) (.int _)
theorem vB(e:σ[i]? =some (some (.int n))):DE K R H0 σ (dF i) (.int n):=λ_ _ _ q=>⟨_,e,q _ _ (λ_ _ h=>h) (.int _)⟩
theorem gv(r:Rv R H0)(e:σ[i]? =some (some v))(h:Rp K (R H0) v d):DE K R H0 σ (dF i) d:=λ_ _ g q=>⟨v,e,q _ _ (λ_ _ h=>h) (Rp.mono (r.m g) h)⟩
theorem GK(h:DE K R H0 σ ta (.int a))(h':DE K R H0 σ tb (.int b)):DE K R H0 σ (tOp (rI0 λi j=>.int (i+j)) ta tb) (.int (a+b)):=λH Q g q=>h H _ g λv H1 g1 r1=>h' H1 _ (g.trans g1) λw H2 g2 r2=>by
 cases r1;cases r2
 exact⟨_,_,rfl,rfl,q _ _ (g1.trans g2) (.int _)⟩
theorem GL(h:DE K R H0 σ ta (.int a))(h':DE K R H0 σ tb (.int b)):DE K R H0 σ (tOp (rI0 λi j=>.int (i-j)) ta tb) (.int (a-b)):=λH Q g q=>h H _ g λv H1 g1 r1=>h' H1 _ (g.trans g1) λw H2 g2 r2=>by
 cases r1;cases r2
 exact⟨_,_,rfl,rfl,q _ _ (g1.trans g2) (.int _)⟩
theorem GM(c:0<b)(h:DE K R H0 σ ta (.int a))(h':DE K R H0 σ tb (.int b)):DE K R H0 σ (tOp (rI (λ_ j=>0<j) λi j=>.int (i%j)) ta tb) (.int (a%b)):=λH Q g q=>h H _ g λv H1 g1 r1=>h' H1 _ (g.trans g1) λw H2 g2 r2=>by
 cases r1;cases r2
 exact⟨_,_,rfl,rfl,c,q _ _ (g1.trans g2) (.int _)⟩
theorem oJ:DA K R H0 σ fF []:=λ_ _ _ q=>q _ _ (λ_ _ h=>h) .nil
theorem eM(r:Rv R H0)(h:DE K R H0 σ te d)(h':DA K R H0 σ ta ds):DA K R H0 σ (cP te ta) (d::ds):=λH Q g q=>h H _ g λ_ H1 g1 r1=>h' H1 _ (g.trans g1) λ_ H2 g2 r2=>q _ H2 (g1.trans g2) (.cons (Rp.mono (r.m g2) r1) r2)
theorem bw(h:RpL K H vs ds):vs.length=ds.length:=by
 induction vs generalizing ds with
 | nil=>cases h;rfl
 | cons v vs ih=>cases h with | cons _ h=>rw [M8,M8,ih h]
theorem jA(h:RpL K H vs ds)(n:ds.length<=1000):vs.length<=ON:=by rw [bw h];exact Nat.le_trans n (by unfold ON;decide)
theorem oK(r:Rv R H0)(n:ds.length<=1000)(h:DA K R H0 σ ta ds):DE K R H0 σ (wk ta) (.tuple ds):=λH Q g q=>h H _ g λvs H1 g1 r1=>⟨jA r1 n,λp H2 np g2 e=>q _ H2 (g1.trans g2) (.tup (r.t (g.trans g1) np e) (RpL.mono (r.m g2) r1))⟩
theorem tD(r:Rl R H0)(n:ds.length<=1000)(h:DA K R H0 σ ta ds):DE K R H0 σ (jI ta) (.list ds):=λH Q g q=>h H _ g λvs H1 g1 r1=>⟨jA r1 n,λp H2 np g2 e=>q _ H2 (g1.trans g2) (.lst (r.n (g.trans g1) np e) (RpL.mono (r.m g2) r1))⟩
theorem gQ(h:RpL K H vs ds)(h':RpL K H ws es):RpL K H (vs++ws) (ds++es):=by
 induction vs generalizing ds with
 | nil=>cases h;exact h'
 | cons v vs ih=>cases h with | cons a h=>exact .cons a (ih h)
theorem jB(r:Rl R H0)(n:ds.length+es.length<=1000)(h:DE K R H0 σ ta (.list ds))(h':DE K R H0 σ tb (.list es)):DE K R H0 σ (tOp qR ta tb) (.list (ds++es)):=λH Q g q=>h H _ g λv H1 g1 r1=>h' H1 _ (g.trans g1) λw H2 g2 r2=>by
 cases Rp.mono (r.m g2) r1 with | lst e1 l1=>
 cases r2 with | lst e2 l2=>
 refine⟨_,_,_,_,rfl,rfl,r.s _ _ e1,r.s _ _ e2,?_,λp H3 np g3 e3=>q _ _ ((g1.trans g2).trans g3) (.lst (r.n ((g.trans g1).trans g2) np e3) (RpL.mono (r.m g3) (gQ l1 l2)))⟩
 rw [bw l1,bw l2];exact Nat.le_trans n (by unfold ON;decide)
theorem vC(r:Rv R H0)(n:(d::ds).length+(e::es).length<=1000)(h:DE K R H0 σ ta (.tuple (d::ds)))(h':DE K R H0 σ tb (.tuple (e::es))):DE K R H0 σ (tOp (BD K) ta tb) (.tuple (d::ds++e::es)):=λH Q g q=>h H _ g λv H1 g1 r1=>h' H1 _ (g.trans g1) λw H2 g2 r2=>by
 cases Rp.mono (r.m g2) r1 with | tup e1 l1=>
 cases r2 with | tup e2 l2=>
 refine⟨_,_,_,_,rfl,rfl,SqT.of (r.s _ _ e1),SqT.of (r.s _ _ e2),(by cases l1;exact NU _ _),?_,(λz=>by rw [z] at l2;cases l2),λ_ p np=>q _ _ ((g1.trans g2).trans (aZ np _)) (.tup (r.t ((g.trans g1).trans g2) np aC) (RpL.mono (r.m (aZ np _)) (gQ l1 l2)))⟩
 rw [bw l1,bw l2];exact Nat.le_trans n (by unfold ON;decide)
def CpI(K:N5)(H1:Hp)(cs:_L.St)(F:Nat->OQ)(D:Addr)(i:Nat)(ys:List V)(σ:_L.St)(H:Hp):Prop:=H1 D=none/\(∃o,σ=cs.set 0 o)/\RpL K (dA D (nw H1 H)) ys ((List.range i).map F)
theorem mX(h:Rp K H v d)(r:RpL K H vs ds):RpL K H (vs++[v]) (ds++[d]):=gQ r (.cons h .nil)
theorem tE{cs:_L.St}{n:Nat}(z:cs.set 0 none=cs)(sz:n<=1000)(hs:∀i<n,∀G,DE K (nw G) G (cs.set 0 (some (.int i))) te (F i))(q:∀D H2,Same H1 H2->Rp K (nw H1 H2) (.ref D) (.list ((List.range n).map F))->Q (.ref D) H2):eW (Itr 0 n) (bW 0) rJ te cs H1 Q:=by
 refine rM (by lia) (CpI K H1 cs F) (λD H' nD _ _=>⟨nD,⟨none,z.symm⟩,.nil⟩) ?_ ?_
 ·rintro D i ys σ1 H2 hi at1 ⟨nD,⟨o,rfl⟩,el⟩
  dsimp only [bW,rJ]
  rw [List.set_set,Th rfl]
  refine hs i hi H2 H2 _ (λ_ _ h=>h) λv H3 g3 r3=>at1.put g3 λH4 mu=>⟨nD,⟨_,rfl⟩,?_⟩
  have hh:∀{G:Hp},Same G H3->Same (dA D (nw H1 G)) (dA D (nw H1 H4)):=λ{G} g c u e=>by
   obtain⟨e1,e2⟩:=eB e
   obtain⟨e3,e4⟩:=eX e2
   exact fI e1 (cq e3 (mu.old (g _ _ e4) e1))
  rw [NE,MX]
  refine mX (Rp.mono (λc u e=>?_) r3) (RpL.mono (hh g3) el)
  obtain⟨e1,e2⟩:=eX e
  have nc:c≠D:=λz=>by rw [z,at1.lst] at e1;cases e1
  exact fI nc (cq (at1.same.free e1) (mu.old e2 nc))
 ·rintro D ys σ1 H2 nD g2 eD _ ⟨_,_,el⟩
  exact q _ _ g2 (.lst (cq nD eD) (RpL.mono ji el))
theorem Rl.nw(r:Rl R H0)(g:Same H0 H):Same (_L.nw H H') (R H'):=λc u e=>by
 obtain⟨e1,e2⟩:=eX e
 exact r.n g e1 e2
theorem eN(r:Rl R H0){n:Nat}(h:DA K R H0 σ ta [.int n])(sz:n<=1000)(hs:∀i<n,∀G,DE K (nw G) G ((fW 1 σ cap).set 0 (some (.int i))) te (F i)):DE K R H0 σ (jh 1 cap (vQ ta) (bW 0) rJ te) (.list ((List.range n).map F)):=λH Q g q=>by
 refine bA (h H _ g λvs H1 g1 r1=>?_)
 cases r1 with | cons a r1=>
 cases a;cases r1
 exact⟨n,rfl,by lia,by lia,by rw [NB];exact tE rfl sz hs λD H2 g2 r2=>q _ _ (g1.trans g2) (Rp.mono (r.nw (g.trans g1)) r2)⟩
theorem DE.use(h:DE K R H0 σ te d)(q:∀v H',Same H0 H'->Rp K (R H') v d->Q v H'):te σ H0 Q:=h H0 Q (λ_ _ h=>h) q
theorem DA.use(h:DA K R H0 σ ta ds)(q:∀vs H',Same H0 H'->RpL K (R H') vs ds->Q vs H'):ta σ H0 Q:=h H0 Q (λ_ _ h=>h) q
end
end _K
local  macro_rules | `(tactic| infer_instance) => `(tactic| first | exact _K.GI | exact _K.GJ | exact _K.oJ | exact _K.vB rfl | exact _K.gv _K.xc rfl (by assumption) | exact _K.gv _K.rl_id.toRv rfl (by assumption) | exact _K.gv (_K.gP (by assumption)).toRv rfl (by assumption) | refine _K.eM _K.xc ?_ ?_ | refine _K.oK _K.xc (MP rfl) ?_ | refine _K.eM _K.rl_id.toRv ?_ ?_ | refine _K.oK _K.rl_id.toRv (MP rfl) ?_ | refine _K.tD _K.rl_id (MP rfl) ?_ | refine _K.eM _K.rl_nw.toRv ?_ ?_ | refine _K.oK _K.rl_nw.toRv (MP rfl) ?_ | refine _K.tD _K.rl_nw (MP rfl) ?_ | refine _K.eM (_K.gP (by assumption)).toRv ?_ ?_ | refine _K.oK (_K.gP (by assumption)).toRv (MP rfl) ?_ | refine _K.tD (_K.gP (by assumption)) (MP rfl) ?_ | refine _K.jB _K.rl_id (MP rfl) ?_ ?_ | refine _K.GK ?_ ?_ | refine _K.GL ?_ ?_ | refine _K.GM (by lia) ?_ ?_ | refine _K.vC _K.rl_id.toRv (MP rfl) ?_ ?_ | refine _K.vC (_K.gP (by assumption)).toRv (MP rfl) ?_ ?_)
namespace _K
open PySem _L
section
variable{C:CA}{K:N5}{P:OR}{w:OV}{mg:Str->Option OL}{base:Heap}
def nuD(n:Int):OQ:=.tuple [.str "number",.int n]
def naD(x:Str):OQ:=.tuple [.str "name",.str x]
def opD(o:Str)(a b:OQ):OQ:=.tuple [.str o,a,b]
noncomputable def Bk(n:Int):List OQ:=[.tuple [naD "z",.tuple [.str "unknown",.int 1,.str "z"]],.tuple [opD "*" (nuD n) (nuD 1000),.tuple [.str "big",.int 1]],.tuple [opD "+" (nuD 1) (opD "-" (nuD 0) (opD "*" (nuD n) (nuD 1000))),.tuple [.str "big",.int 1]],.tuple [opD "+" (naD "b") (opD "*" (nuD n) (nuD n)),.tuple [.str "unknown",.int 1,.str "b"]],.tuple [opD "+" (opD "*" (nuD n) (nuD n)) (naD "b"),.tuple [.str "big",.int 1]]]
def B6(K:N5):Sp:=spG (A:=Int) (λc=>[.int c]) (λ_ _=>True) (λ_ H v H'=>Same H H'/\∃n d,1001<=n/\n<=999999/\d∈Bk n/\Fz K H' v d)
theorem oM:∀{vs:List V} {ds:List OQ},RpL K H vs ds->∀{i:Nat} {v:V},vs[i]? =some v->∃d∈ds,Rp K H v d
 | _,_,.nil,_,_,e=>by cases e
 | _,_,.cons a _,0,_,e=>by cases e;exact⟨_,MU,a⟩
 | _,_,.cons _ r,_+1,_,e=>by
  obtain⟨d,m,h⟩:=oM r e
  exact⟨d,MV _ m,h⟩
theorem ix(hv:σ[i]? =some (some (.ref l)))(el:H l=some (.lst xs))(r:RpL K (tp H) xs ds)(n:ds.length<1000)(h:DE K tp H σ te d)(q:∀ys H',H' l=some (.lst ys)->RpL K (tp H') ys (ds++[d])->(∀c u,c≠l->H c=some u->H' c=some u)->Kt H H'->Q .non H'):qP (dF i) te σ H Q:=by
 refine⟨.ref l,hv,l,xs,rfl,el,DE.use h λv H1 g1 r1=>⟨xs,g1 _ _ el,?_,λH2 m=>?_⟩⟩
 ·rw [bw r];unfold ON;lia
 ·have k2:Kt H1 H2:=λc ys e=>m.old e λz=>by rw [z,g1 _ _ el] at e;cases e
  have k:=(Kt.of g1).trans k2
  refine q _ H2 m.at_ ?_ (λc u nc e=>m.old (g1 _ _ e) nc) k
  have r:=a0 k r
  have r1:=a8 k2 r1
  exact mX r1 r
theorem GN(D:DefAt K mg "_law_bad" oC ["cell"])(JT:OkD P w K mg base 1 "_law_stir" ["cell","k"] iw):OkD P w K mg base 2 "_law_bad" ["cell"] (B6 K):=by
 refine D.okG i8 (λ_=>rfl) λa f cdv A outer s0 H Q E hr p q=>?_
 refine⟨_,(aa (aP 1 i8 (ad (aA ae (aw aY ab (aw br (aH JT hr rfl (aA (pv 0) ab)) ab))))) (aa (aP 2 i8 (aq (aA (ad (aA (ad (aA ae ae)) (ad (bc ae ab ae)))) (ad (aA (ad (bc ae (pv 1) (ad (aA ae ab)))) (ad (aA ae ab))))))) (aa (aO (cy (pv 2) (ad (aA (ad (bc ae (ad (aA ae ab)) (ad (bc ae (ad (aA ae ab)) (ad (bc ae (pv 1) (ad (aA ae ab)))))))) (ad (aA ae ab)))))) (aa (aO (cy (pv 2) (ad (aA (ad (bc ae (ad (aA ae ae)) (ad (bc ae (pv 1) (pv 1))))) (ad (bc ae ab ae)))))) (aa (aO (cy (pv 2) (ad (aA (ad (bc ae (ad (bc ae (pv 1) (pv 1))) (ad (aA ae ae)))) (ad (aA ae ab)))))) (ac (az (ar (pv 2) (aw br (aH JT hr rfl (aA (pv 0) ab)) ab))))))))),?_⟩
 symm
 refine⟨a,3,rfl,by decide,by decide,λm a1 b1=>?_⟩
 obtain⟨n,en,n1,n2⟩:∃n,1001+m%998999=n/\1001<=n/\n<=999999:=⟨_,rfl,by lia,by lia⟩
 symm
 intro p1 H1 c1 g1 e1
 have e1:H1 p1=some (.tup [.str "number",.int n]):=by rw [<-en];exact e1
 have f1:Rp K (tp H1) (.ref p1) (nuD n):=.tup (dj e1) (.cons (.str _) (.cons (.int _) .nil))
 clear e1
 dsimp +zetaDelta only [bW,cS,cG,dQ]
 change jI _ [some (.int a),some (.ref p1),none] H1 _
 refine DA.use (K:=K) (ds:=(Bk n).take 2) (by repeat infer_instance) λvs H2 g2 r2=>⟨by rw [bw r2];exact MP rfl,λl H3 nl g3 el=>?_⟩
 have S3:=(g1.trans g2).trans g3
 have nl0:=(g1.trans g2).free nl
 have f3:=a8 (Kt.of (g2.trans g3)) f1
 have r3:=a0 (Kt.of g3) r2
 clear f1 r2 nl
 dsimp only
 refine ix (σ:=[some (.int a),some (.ref p1),some (.ref l)]) (d:=.tuple [opD "+" (nuD 1) (opD "-" (nuD 0) (opD "*" (nuD n) (nuD 1000))),.tuple [.str "big",.int 1]]) rfl el r3 (MP rfl) (by repeat infer_instance) λys4 H4 e4 r4 o4 k4=>?_
 have f4:=a8 k4 f3
 refine ix (σ:=[some (.int a),some (.ref p1),some (.ref l)]) (d:=.tuple [opD "+" (naD "b") (opD "*" (nuD n) (nuD n)),.tuple [.str "unknown",.int 1,.str "b"]]) rfl e4 r4 (MP rfl) (by repeat infer_instance) λys5 H5 e5 r5 o5 k5=>?_
 have f5:=a8 k5 f4
 refine ix (σ:=[some (.int a),some (.ref p1),some (.ref l)]) (d:=.tuple [opD "+" (opD "*" (nuD n) (nuD n)) (naD "b"),.tuple [.str "big",.int 1]]) rfl e5 r5 (MP rfl) (by repeat infer_instance) λys6 H6 e6 r6 o6 k6=>?_
 have S6:Same H H6:=λc u h=>by
  have nc:c≠l:=λz=>by rw [z,nl0] at h;cases h
  exact o6 c u nc (o5 c u nc (o4 c u nc (S3 _ _ h)))
 have r6:=r6
 clear r4 r5 r3 f3 f4 f5 e4 e5 el
 symm
 refine⟨a,4,rfl,by decide,by decide,λm2 a2 b2=>?_⟩
 have l6:ys6.length=5:=bw r6
 symm
 obtain⟨k,ek,lk⟩:∃k:Nat,m2%5=(k:Int)/\k<ys6.length:=⟨(m2%5).toNat,by lia,by lia⟩
 obtain⟨d,hd,rd⟩:=oM r6 (MR lk)
 refine⟨ys6[k],?_,q _ _ ⟨S6,n,d,n1,n2,hd,rd⟩⟩
 rw [ek]
 exact cH (MR lk)
end
theorem mY(l:List (Int×Hd)):(_K.setH n x l).map (·.1)=l.map (·.1):=by
 induction l with
 | nil=>rfl
 | cons p r ih=>
  unfold _K.setH
  split
  ·rfl
  ·rw [Ng,Ng,ih]
theorem mZ(h:bI n l=some d):bI n (_K.setH n x l)=some x:=by
 induction l with
 | nil=>cases h
 | cons p r ih=>
  unfold _K.setH
  unfold bI at h
  by_cases c:p.1=n
  ·rw [Th c];unfold bI;exact Th c
  ·rw [Tf c] at h⊢;unfold bI;rw [Tf c];exact ih h
theorem HN.fst(e:l'.map (·.1)=l.map (·.1))(h:HN l):HN l':=⟨by rw [e];exact h.nd,λp hp=>by
 have:p.1∈l.map (·.1):=e▸Nr hp
 obtain⟨q,hq,z⟩:=List.mem_map.mp this
 rw [<-z];exact h.ps q hq⟩
section
variable{P:Pr}{N M f:Nat}{h m t:Int}{s:YS}{p:bB}{d:Hd}{x:Sm}
theorem nh(g:bI h s.hd=some d)(c:¬s.stm=100):s.enter h k=(s.sStm (s.stm+1)).sHd (_K.setH h (d.sRow k) s.hd):=by unfold YS.enter;rw [g];exact Tf c
theorem YB.setH(B:YB s):YB ((s.sStm k).sHd (_K.setH n y s.hd)):=⟨B.hn.fst (mY _),B.ag,B.bg,λq hq=>by
 have:q.1∈s.hd.map (·.1):=mY s.hd▸Nr hq
 obtain⟨r,hr,z⟩:=List.mem_map.mp this
 rw [<-z];exact B.nb r hr⟩
structure Tb(P:Pr)(s:YS)(p:bB):Prop where
 pa:PaO p
 pl:p.length<=1000
 yb:YB s
 nb:Wo.Bd s.now
 lg:s.lg.length+500<16000000
structure Sb(P:Pr)(N:Nat)(x:Sm):Prop where
 ok:dq x
 es:∀e∈x.es,e.depth<N/\e.good
 dk:∀w k ns es xs,x= .pl w k ns es->xs.length=es.length->gm P w ns xs
theorem jC(T:Tb P s p)(e:cN p=some x)(g:bI h s.hd=some d)(c:¬s.stm=100)(ok:dq x)(es:∀e∈x.es,e.depth<N/\e.good)(dk:∀w k ns es xs,x= .pl w k ns es->bP s.now h es []= .ok xs->gm P w ns xs)(r:let r:=((s.sStm (s.stm+1)).sHd (_K.setH h (d.sRow x.k) s.hd)).doS h (bR p) x;r.1=true->fQ P N h f r.2.1 r.2.2):fQ P N h (f+1) s p:=by
 unfold fQ
 refine⟨T.pa,T.pl,T.yb.hn,d,g,λz=>by (rw [e] at z;cases z),λm' e' _=>?_⟩
 rw [e] at e'
 cases e'
 rw [nh g c]
 refine⟨⟨mT (mZ g),ok,es,T.nb,?_,T.yb.setH,dk,T.lg⟩,r⟩
 have:=T.yb.hn.ps _ (mT g)
 unfold Wo.Bd;lia
theorem GO(T:Tb P s p)(e:cN p=none)(g:bI h s.hd=some d):fQ P N h (f+1) s p:=by
 unfold fQ
 exact⟨T.pa,T.pl,T.yb.hn,d,g,λ_=>by (have:=T.lg;unfold wY;lia),λm' e'=>by (rw [e] at e';cases e')⟩
theorem DJ(T:Tb P s p)(g:bI h s.hd=some d)(c:s.stm=100):fQ P N h (f+1) s p:=by
 unfold fQ
 exact⟨T.pa,T.pl,T.yb.hn,d,g,λ_=>by (have:=T.lg;unfold wY;lia),λm' _ c'=>absurd c c'⟩
noncomputable def trB:Tr->Bool
 | .name _=>false
 | .num n=>decide (-(2^64)<n)&&decide (n<2^64)
 | .bin _ _ _=>false
 | _=>true
noncomputable def plB(P:Pr)(w:Str):List Str->List Tr->Bool
 | [],[e]=>decide (w= "wait")&&trB e
 | [_],[e]=>decide (w= "say")&&trB e
 | [x],[]=>decide (w= "start")&&match eC x P.nms with
  | some []=>true
  | _=>false
 | _,_=>false
mutual
def smB(P:Pr):Sm->Bool
 | .pl w _ ns es=>plB P w ns es
 | .fi _ _ _ _ _ _=>false
 | .wh _ sg a b x=>(decide (sg= "<") || decide (sg= "="))&&trB a&&trB b&&bdB P x
def bdB(P:Pr):List Sm->Bool
 | []=>true
 | s::r=>smB P s&&bdB P r
end
theorem oN(h:trB e=true):e.depth<4/\e.good:=by
 cases e with
 | name=>cases h
 | num n=>
  unfold trB at h
  rw [M0] at h
  exact⟨(by decide:0<4),of_decide_eq_true h.1,of_decide_eq_true h.2⟩
 | bin=>cases h
 | now=>exact⟨(by decide:0<4),trivial⟩
 | own=>exact⟨(by decide:0<4),trivial⟩
theorem GP(h:plB P w ns es=true):Sb P 4 (.pl w k ns es):=by
 have one:∀{xs:List Int} {e:Tr},xs.length= [e].length->∃x,xs= [x]:=λ{xs} _ z=>by
  match xs,z with
  | [x],_=>exact⟨x,rfl⟩
 unfold plB at h
 split at h
 ·rw [M0] at h
  have e:=of_decide_eq_true h.1
  subst e
  refine⟨Shp.wait,λe he=>?_,λw k ns es xs e z=>?_⟩
  ·cases List.mem_singleton.mp he;exact oN h.2
  ·cases e;obtain⟨x,rfl⟩:=one z;exact .wait
 ·rw [M0] at h
  have e:=of_decide_eq_true h.1
  subst e
  refine⟨Shp.one (by decide),λe he=>?_,λw k ns es xs e z=>?_⟩
  ·cases List.mem_singleton.mp he;exact oN h.2
  ·cases e;obtain⟨x,rfl⟩:=one z;exact .say
 ·rw [M0] at h
  have e:=of_decide_eq_true h.1
  subst e
  refine⟨Shp.start (Nk _),λe he=>absurd he MT,λw k ns es xs e z=>?_⟩
  cases e
  cases List.eq_nil_of_length_eq_zero z
  refine .start ?_
  have h2:=h.2
  split at h2
  ·assumption
  ·cases h2
 ·cases h
mutual
theorem zr:∀x:Sm,smB P x=true->Sb P 4 x
 | .pl w k ns es,h=>GP (by unfold smB at h;exact h)
 | .fi ..,h=>by unfold smB at h;cases h
 | .wh k sg a b y,h=>by
  unfold smB at h
  simp only [M0,Bool.or_eq_true,decide_eq_true_eq] at h
  refine⟨⟨h.1.1.1,tF y h.2⟩,λe he=>?_,λw k ns es xs e=>by cases e⟩
  have he:e∈[a,b]:=he
  simp only [Na,MT,or_false] at he
  rcases he with rfl | rfl
  ·exact oN h.1.1.2
  ·exact oN h.1.2
theorem tF:∀l:List Sm,bdB P l=true->ig l
 | [],_=>by unfold ig;trivial
 | s::r,h=>by
  unfold bdB at h
  rw [M0] at h
  unfold ig
  exact⟨(zr s h.1).ok,tF r h.2⟩
end
def xf:Int->List (Int×Hd)->Bool
 | _,[]=>true
 | a,p::r=>decide (a<p.1)&&xf p.1 r
theorem DK(h:xf a l=true):(l.map (·.1)).Pairwise (· < ·)/\∀p∈l,a<p.1:=by
 induction l generalizing a with
 | nil=>exact⟨.nil,λ_ h=>absurd h MT⟩
 | cons p r ih=>
  unfold xf at h
  rw [M0] at h
  obtain⟨h1,h2⟩:=ih h.2
  have h0:=of_decide_eq_true h.1
  refine⟨.cons (λx hx=>?_) h1,λq hq=>?_⟩
  ·obtain⟨q,hq,rfl⟩:=List.mem_map.mp hx;exact h2 q hq
  ·rcases List.mem_cons.mp hq with rfl | hq
   ·exact h0
   ·have:=h2 q hq;lia
noncomputable def ybB(s:YS):Bool:=xf 0 s.hd&&(s.hd.all λp=>decide (p.1<=s.beg))&&decide (s.ag.length<=60)&&decide (s.beg<=60)&&decide (0<=s.now)&&decide (s.now<2^64)
theorem tG(b:ybB s=true):YB s/\Wo.Bd s.now/\(s.hd.map (·.1)).Pairwise (· < ·)/\s.ag.length<=60:=by
 unfold ybB at b
 simp only [M0,decide_eq_true_eq,Oj] at b
 obtain⟨⟨⟨⟨⟨b1,b2⟩,b3⟩,b4⟩,b5⟩,b6⟩:=b
 obtain⟨i1,i2⟩:=DK b1
 have nb:=b2
 refine⟨⟨⟨i1.imp λz=>Int.ne_of_lt z,λp hp=>?_⟩,by lia,b4,nb⟩,⟨by lia,b6⟩,i1,b3⟩
 have:=i2 p hp
 have:=nb p hp
 lia
def paB(p:bB):Bool:=(p.all λx=>decide (x.2<=x.1.length))&&decide (p.length<=1000)
theorem IC(b:ybB s=true)(c:paB p=true)(h3:s.lg.length+500<16000000):Tb P s p:=by
 obtain⟨h1,h2,_⟩:=tG b
 unfold paB at c
 simp only [M0,decide_eq_true_eq,Oj] at c
 exact⟨c.1,c.2,h1,h2,h3⟩
noncomputable def goB(P:Pr)(h:Int):Nat->YS->bB->Bool
 | 0,_,_=>false
 | f+1,s,p=>ybB s&&paB p&&match bI h s.hd with
  | none=>false
  | some d=>match cN p with
   | none=>true
   | some x=>if s.stm=100 then true else smB P x&&match ((s.sStm (s.stm+1)).sHd (_K.setH h (d.sRow x.k) s.hd)).doS h (bR p) x with
    | (true,s',p')=>goB P h f s' p'
    | (false,_,_)=>true
theorem tH:(s.begin nm).lg.length<=s.lg.length+1:=by
 unfold YS.begin
 split
 ·exact N8 _
 ·exact NJ MW
theorem Bl:(s.bring n).lg.length<=s.lg.length+1:=by
 unfold YS.bring
 split
 ·exact N8 _
 ·exact NJ MW
theorem zt:(s.doS h p x).2.1.lg.length<=s.lg.length+1:=by
 unfold YS.doS
 split
 ·exact N8 _
 ·split
  ·show(s.deed _ _ _ _).2.lg.length<=_
   unfold YS.deed
   dsimp only
   split
   ·exact NJ MW
   ·split
    ·exact NJ MW
    ·exact tH
  ·exact N8 _
  ·exact N8 _
theorem DL:(s.goOn h f p).lg.length<=s.lg.length+f:=by
 induction f generalizing s p with
 | zero=>exact Nat.le_refl _
 | succ f ih=>
  unfold YS.goOn
  split
  ·exact Nat.le_trans (NJ MW) (by show s.lg.length+1<=_;lia)
  ·exact Nn _ _
  ·split
   ·exact Nn _ _
   ·rename_i m d _ _ _
    have h1:=zt (s:=(s.sStm (s.stm+1)).sHd (_K.setH h (d.sRow m.k) s.hd)) (h:=h) (p:=bR p) (x:=m)
    have h2:((s.sStm (s.stm+1)).sHd (_K.setH h (d.sRow m.k) s.hd)).lg.length=s.lg.length:=rfl
    dsimp only
    split
    ·exact Nat.le_trans ih (by lia)
    ·lia
theorem GQ(lg:s.lg.length+f+500<16000000)(b:goB P h f s p=true):fQ P 4 h f s p:=by
 induction f generalizing s p with
 | zero=>cases b
 | succ f ih=>
  unfold goB at b
  rw [M0,M0] at b
  have T:Tb P s p:=IC b.1.1 b.1.2 (by lia)
  have b:=b.2
  cases g:bI h s.hd with
  | none=>rw [g] at b;cases b
  | some d=>
   rw [g] at b
   cases e:cN p with
   | none=>exact GO T e g
   | some x=>
    rw [e] at b
    dsimp only at b
    by_cases c:s.stm=100
    ·exact DJ T g c
    ·rw [Tf c,M0] at b
     have S:=zr x b.1
     apply jC T e g c S.ok S.es (λw k ns es xs e' z=>S.dk w k ns es xs e' (jP z |>.trans (Ol _)))
     have b:=b.2
     have l1:=zt (s:=(s.sStm (s.stm+1)).sHd (_K.setH h (d.sRow x.k) s.hd)) (h:=h) (p:=bR p) (x:=x)
     have l2:((s.sStm (s.stm+1)).sHd (_K.setH h (d.sRow x.k) s.hd)).lg.length=s.lg.length:=rfl
     dsimp only
     generalize ((s.sStm (s.stm+1)).sHd (_K.setH h (d.sRow x.k) s.hd)).doS h (bR p) x=r at b l1⊢
     obtain⟨q,s',p'⟩:=r
     intro z
     cases (z)
     exact ih (by (dsimp only at l1⊢;rw [l2] at l1;lia)) b
theorem oO(e:s.ag=(t,h)::r):s.first=some t:=by unfold YS.first;rw [e];rfl
theorem tI(e:s.now=m):s.clk m=s:=by unfold YS.clk;rw [Tf (by lia)]
theorem gw:(s.clk m).st=s.st/\(s.clk m).ag=s.ag/\(s.clk m).lg=s.lg/\(s.clk m).beg=s.beg/\(s.clk m).sl=s.sl:=by unfold YS.clk;split<;>exact⟨rfl,rfl,rfl,rfl,rfl⟩
theorem oP:(s.clk m).up.outNext P=s.outNext P:=by unfold YS.clk;split<;>rfl
theorem vD(h:s.now<=m)(e:s.hap=0):s.clk m=s.sNow m:=by
 unfold YS.clk
 split
 ·unfold YS.sHap YS.sNow;rw [<-e]
 ·have:m=s.now:=by lia
  subst this;rfl
theorem zu(B:YB s):YB (s.clk m).up:=by unfold YS.clk;split<;>exact⟨B.hn,B.ag,B.bg,B.nb⟩
theorem oQ(st:s.st=none)(eo:P.out[s.done]? =some o)(fi:∀k,s.first=some k->o.m<=k)(hp:¬(s.clk o.m).hap=500):s.next P=some o.m/\s.step P=(s.clk o.m).up.doOut P:=by
 have on:s.outNext P=true:=by
  unfold YS.outNext
  rw [eo]
  dsimp only
  cases e:s.first with
  | none=>rfl
  | some k=>exact decide_eq_true (fi k e)
 have en:s.next P=some o.m:=by unfold YS.next;rw [st,on,eo];rfl
 refine⟨en,?_⟩
 rw [gu en,Tf hp,oP,on];rfl
theorem jQ(st:s.st=none)(eo:P.out[s.done]? =some o)(fi:∀k,s.first=some k->o.m<=k)(oo:wW P s o)(B:YB s)(lg:s.lg.length+500<16000000):io P N M s:=by
 have dn:=Nat.le_of_lt (List.getElem?_eq_some_iff.mp eo).1
 refine⟨dn,λm e hp=>⟨λ_=>⟨o,by rw [show(s.clk m).up.done=(s.clk m).done from rfl,mW];exact eo,?_,zu B,by rw [show(s.clk m).up.lg=(s.clk m).lg from rfl,gw.2.2.1];exact lg⟩,λz=>?_⟩⟩
 ·cases o with
  | start=>exact oo
  | bring=>
   obtain⟨x,ex⟩:=oo
   exact⟨x,by rw [show(s.clk m).up.sl=(s.clk m).sl from rfl,gw.2.2.2.2];exact ex⟩
 ·rw [oP] at z
  unfold YS.outNext at z
  rw [eo] at z
  dsimp only at z
  cases e:s.first with
  | none=>rw [e] at z;cases z
  | some k=>rw [e] at z;exact absurd (fi k e) (of_decide_eq_false z)
theorem tJ(st:s.st=none)(ag:s.ag=(t,h)::r)(no:∀o,P.out[s.done]? =some o->t<o.m):s.outNext P=false/\s.next P=some t:=by
 have on:s.outNext P=false:=by
  unfold YS.outNext
  cases e:P.out[s.done]? with
  | none=>rfl
  | some o=>
   dsimp only
   rw [oO ag]
   exact decide_eq_false (by have:=no o e;lia)
 exact⟨on,by unfold YS.next;rw [st,on];exact oO ag⟩
theorem zv(st:s.st=none)(ag:s.ag=(t,h)::r)(no:∀o,P.out[s.done]? =some o->t<o.m)(hp:¬(s.clk t).hap=500):s.next P=some t/\s.step P=(((s.clk t).up.sAg r).sStm 0).goF P h:=by
 obtain⟨on,en⟩:=tJ st ag no
 refine⟨en,?_⟩
 rw [gu en,Tf hp,oP,on,show(s.clk t).up.ag=(s.clk t).ag from rfl,gw.2.1,ag];rfl
theorem nu(st:s.st=none)(ag:s.ag=(t,h)::r)(dn:s.done<=P.out.length)(no:∀o,P.out[s.done]? =some o->t<o.m)(B:YB s)(gp:¬(s.clk t).hap=500->GoP P N M h (((s.clk t).up.sAg r).sStm 0)):io P N M s:=by
 obtain⟨on,en⟩:=tJ st ag no
 refine⟨dn,λm e hp=>?_⟩
 rw [en] at e
 cases e
 rw [oP,on,show(s.clk t).up.ag=(s.clk t).ag from rfl,gw.2.1]
 exact⟨(λz=>by cases z),λ_=>⟨t,h,r,ag,Nat.le_trans B.ag (by decide),B.hn,gp hp⟩⟩
theorem GR(st:s.st=none)(ag:s.ag=(t,h)::r)(no:∀o,P.out[s.done]? =some o->t<o.m)(hp:(s.clk t).hap=500):s.next P=some t/\s.step P=(s.clk t).sSt (some [.str "long"]):=by
 obtain⟨_,en⟩:=tJ st ag no
 exact⟨en,by rw [gu en,Th hp]⟩
end
structure RunI(P:Pr)(N M:Nat)(s0:YS)(k:Nat)(I:Nat->YS->Prop):Prop where
 z:I 0 s0
 go:∀n s,n<k->I n s->io P N M s/\s.next P≠none/\I (n+1) (s.step P)
 en:∀s,I k s->s.done<=P.out.length/\s.st≠none
 bd:∀n s,I n s->n<=k
section
variable{P:Pr}{N M k:Nat}{h m t:Int}{s:YS}{I:Nat->YS->Prop}
theorem vE(e:s.st≠none):s.next P=none:=by
 unfold YS.next
 cases z:s.st with
 | none=>exact absurd z e
 | some=>rfl
theorem RunI.st{mo n:Nat}(R:RunI P N M s k I)(s:YS)(i:I n s):io P N M s/\(s.next P≠none->I (n+1) (s.step P)):=by
 rcases NW (R.bd n s i) with c | c
 ·obtain⟨h1,_,h3⟩:=R.go n s c i
  exact⟨h1,λ_=>h3⟩
 ·subst c
  obtain⟨h1,h2⟩:=R.en s i
  have:=vE (P:=P) h2
  exact⟨⟨h1,λm e=>by rw [this] at e;cases e⟩,λz=>absurd this z⟩
theorem RunI.last{n mo:Nat}(R:RunI P N M s k I){s':YS}(i:I n s')(c:n=mo\/n<mo/\s'.next P=none)(l:k<mo):n=k/\I k s':=by
 have:=R.bd n s' i
 rcases c with c | ⟨_,c⟩
 ·lia
 ·rcases NW this with z | z
  ·exact absurd c (R.go n s' z i).2.1
  ·subst z;exact⟨rfl,i⟩
def Bm(P:Pr)(M:Nat)(h:Int)(s:YS):Bool:=match bI h s.hd with
 | none=>false
 | some d=>match eC d.nm P.bds with
  | none=>false
  | some bd=>bdB P bd&&decide (bdp bd<M)&&goB P h 102 s (bE bd d.row)
theorem DM(lg:s.lg.length<=1000000)(b:Bm P M h s=true):GoP P 4 M h s:=by
 unfold Bm at b
 split at b
 ·cases b
 ·rename_i d g
  split at b
  ·cases b
  ·rename_i bd e
   simp only [M0,decide_eq_true_eq] at b
   exact⟨d,bd,g,e,tF bd b.1.1,b.1.2,GQ (by lia) b.2⟩
noncomputable def xg(P:Pr)(M:Nat)(s:YS):Bool:=ybB s&&decide (s.done<=P.out.length)&&match s.next P with
 | none=>false
 | some m=>match (s.clk m).up.outNext P with
  | true=>match P.out[s.done]? with
   | some (.start _ nm)=>match eC nm P.nms with
    | some []=>true
    | _=>false
   | _=>false
  | false=>match (s.clk m).up.ag with
   | []=>false
   | (_,h)::r=>Bm P M h (((s.clk m).up.sAg r).sStm 0)
theorem Bo(lg:s.lg.length<=1000000)(b:xg P M s=true):io P 4 M s/\s.next P≠none:=by
 unfold xg at b
 simp only [M0,decide_eq_true_eq] at b
 obtain⟨⟨b1,b2⟩,b3⟩:=b
 obtain⟨B,_,_,al⟩:=tG b1
 cases e:s.next P with
 | none=>rw [e] at b3;cases b3
 | some m=>
  rw [e] at b3
  dsimp only at b3
  refine⟨⟨b2,λm' e' _=>?_⟩,λz=>by cases z⟩
  rw [e] at e'
  cases e'
  refine⟨λon=>?_,λon=>?_⟩<;>rw [on] at b3
  ·dsimp only at b3
   split at b3
   ·rename_i mm nm eo
    refine⟨_,by rw [show(s.clk m).up.done=(s.clk m).done from rfl,mW];exact eo,?_,zu B,by rw [show(s.clk m).up.lg=(s.clk m).lg from rfl,gw.2.2.1];lia⟩
    split at b3
    ·assumption
    ·cases b3
   ·cases b3
  ·dsimp only at b3
   split at b3
   ·cases b3
   ·rename_i t h r ea
    refine⟨t,h,r,ea,?_,B.hn,DM (by show(s.clk m).lg.length<=_;rw [gw.2.2.1];exact lg) b3⟩
    rw [show(s.clk m).up.ag=(s.clk m).ag from rfl,gw.2.1];lia
theorem DN:(s.step P).lg.length<=s.lg.length+102:=by
 cases e:s.next P with
 | none=>rw [qv e];exact Nn _ _
 | some m=>
  have l:(s.clk m).lg.length=s.lg.length:=by rw [gw.2.2.1]
  rw [gu e]
  split
  ·exact Nat.le_trans (NJ l) (Nn _ _)
  ·split
   ·unfold YS.doOut
    split
    ·exact Nat.le_trans (NJ l) (Nn _ _)
    ·exact Nat.le_trans tH (by show(s.clk m).lg.length+1<=_;lia)
    ·exact Nat.le_trans Bl (by show(s.clk m).lg.length+1<=_;lia)
   ·split
    ·exact Nat.le_trans (NJ l) (Nn _ _)
    ·unfold YS.goF
     split
     ·exact Nat.le_trans (NJ l) (Nn _ _)
     ·exact Nat.le_trans DL (Nat.add_le_add_right (NJ l) _)
mutual
def eqD:OQ->OQ->Bool
 | .int a,.int b=>decide (a=b)
 | .str a,.str b=>decide (a=b)
 | .tuple a,.tuple b=>eqL a b
 | .list a,.list b=>eqL a b
 | _,_=>false
def eqL:List OQ->List OQ->Bool
 | [],[]=>true
 | a::x,b::y=>eqD a b&&eqL x y
 | _,_=>false
end
mutual
theorem GS:∀{a b:OQ},eqD a b=true->a=b
 | .int a,.int b,h=>congrArg _ (of_decide_eq_true (by unfold eqD at h;exact h))
 | .str a,.str b,h=>congrArg _ (of_decide_eq_true (by unfold eqD at h;exact h))
 | .tuple a,.tuple b,h=>congrArg _ (jD (by unfold eqD at h;exact h))
 | .list a,.list b,h=>congrArg _ (jD (by unfold eqD at h;exact h))
theorem jD:∀{a b:List OQ},eqL a b=true->a=b
 | [],[],_=>rfl
 | a::x,b::y,h=>by
  unfold eqL at h
  rw [M0] at h
  rw [GS h.1,jD h.2]
end
structure Fin(P:Pr)(st lg hv:List OQ)(s:YS):Prop where
 vw:iq s
 dn:s.done<=P.out.length
 st:s.st=some st
 lg:s.lg=lg
 hv:s.hd.map hdD=hv
 nw:Wo.Bd s.now
noncomputable def nA(P:Pr)(st lg hv:List OQ)(s:YS):Bool:=ybB s&&decide (s.done<=P.out.length)&&(match s.st with | none=>false | some x=>eqL x st)&&eqL s.lg lg&&eqL (s.hd.map hdD) hv
theorem DO{st lg hv:List OQ}(b:nA P st lg hv s=true):Fin P st lg hv s:=by
 unfold nA at b
 simp only [M0,decide_eq_true_eq] at b
 obtain⟨⟨⟨⟨b1,b2⟩,b3⟩,b4⟩,b5⟩:=b
 obtain⟨B,nb,so,al⟩:=tG b1
 refine⟨⟨B.hn,so,?_,by lia⟩,b2,?_,jD b4,jD b5,nb⟩
 ·have:=B0 B.hn.nd (m:=hs) λx hx=>by
   obtain⟨q,hq,rfl⟩:=List.mem_map.mp hx
   have:=B.hn.ps q hq
   exact y9 this.1 this.2
  rw [MQ] at this
  exact Nu this (by unfold hs;rw [MQ,Nh];decide)
 ·split at b3
  ·cases b3
  ·rename_i e;rw [e,jD b3]
def kR(P:Pr)(M:Nat)(F:YS->Bool):Nat->YS->Bool
 | 0,s=>F s
 | n+1,s=>xg P M s&&kR P M F n (s.step P)
def RbI(P:Pr)(M:Nat)(st lg hv:List OQ)(k n:Nat)(x:YS):Prop:=∃j,n+j=k/\kR P M (nA P st lg hv) j x=true/\x.lg.length<=102*n
theorem pN{st lg hv:List OQ}(l0:s.lg= [])(hk:k<=900)(b:kR P M (nA P st lg hv) k s=true):RunI P 4 M s k (RbI P M st lg hv k)/\∀x,RbI P M st lg hv k k x->Fin P st lg hv x:=by
 have fin:∀x,RbI P M st lg hv k k x->Fin P st lg hv x:=λx i=>by
  obtain⟨j,e,i,_⟩:=i
  cases (show j=0 by lia)
  exact DO i
 refine⟨⟨⟨k,Ol _,b,by rw [l0];exact Nk _⟩,λn x l i=>?_,λx i=>⟨(fin x i).dn,by rw [(fin x i).st];intro z;cases z⟩,λn x i=>?_⟩,fin⟩
 ·obtain⟨j,e,i,il⟩:=i
  cases j with
  | zero=>lia
  | succ j=>
   unfold kR at i
   rw [M0] at i
   obtain⟨h1,h2⟩:=Bo (by lia) i.1
   exact⟨h1,h2,j,by lia,i.2,Nat.le_trans DN (by lia)⟩
 ·obtain⟨j,e,_⟩:=i;lia
end
def rw4(a b:Int)(ws:List OQ):OQ:=.tuple (.int a::.int b::ws)
noncomputable def enS(b m:Nat)(c:Bool):List Sm:=((List.range b).map λ(k:Nat)=>.pl "say" (2+(k:Int)) ["hey"] [.num k])++[.wh (2+(b:Int)) (cond c "<" "=") (cond c (.num 1) .own) (cond c (.num 2) (.num 1)) ((List.range m).map λ(k:Nat)=>.pl "say" (3+(b:Int)+(k:Int)) ["ho"] [.now])]
noncomputable def enP(b m:Nat)(c:Bool):Pr:=dO [⟨"main",[],enS b m c⟩] none [.start 9 "main",.start 10 "main"]
noncomputable def enW(b m:Nat):Nat->List OQ->Nat->Int->List OQ×Int
 | 0,l,_,r=>(l,r)
 | f+1,l,n,r=>if n=0 then (l,r) else enW b m f (l++Nd (min (n-1) m) (rw4 9 1 [.str "says",.str "ho",.int 9])) (n-1-min (n-1) m) (if min (n-1) m=0 then 2+(b:Int) else 3+(b:Int)+((min (n-1) m-1:Nat):Int))
def enR(b m:Nat):List OQ×Int:=enW b m 100 ((List.range b).map λ(k:Nat)=>rw4 9 1 [.str "says",.str "hey",.int k]) (100-b) 0
noncomputable def enT(x:Nat×Nat×Bool):Bool:=kR (enP x.1 x.2.1 x.2.2) 3 (nA (enP x.1 x.2.1 x.2.2) [.str "endless",.int 1] (rw4 9 1 [.str "begins",.str "main"]::(enR x.1 x.2.1).1) [hdD (1,⟨"main",(enR x.1 x.2.1).2⟩)]) 2 (ys0 none)
theorem Jq:((List.range 10).all λm=>enT (0,m,true))=true:=by kernel_rfl
theorem Jr:((List.range 10).all λm=>enT (0,m,false))=true:=by kernel_rfl
theorem Js:((List.range 10).all λm=>enT (1,m,true))=true:=by kernel_rfl
theorem Jt:((List.range 10).all λm=>enT (1,m,false))=true:=by kernel_rfl
theorem Ju:((List.range 10).all λm=>enT (2,m,true))=true:=by kernel_rfl
theorem Jv:((List.range 10).all λm=>enT (2,m,false))=true:=by kernel_rfl
theorem Jw:((List.range 10).all λm=>enT (3,m,true))=true:=by kernel_rfl
theorem Jx:((List.range 10).all λm=>enT (3,m,false))=true:=by kernel_rfl
theorem Jy:((List.range 10).all λm=>enT (4,m,true))=true:=by kernel_rfl
theorem Jz:((List.range 10).all λm=>enT (4,m,false))=true:=by kernel_rfl
theorem GT{b m:Nat}(c:Bool)(hb:b<5)(hm:m<10):enT (b,m,c)=true:=by
 have hm:=List.mem_range.mpr hm
 have h:b=0\/b=1\/b=2\/b=3\/b=4:=by lia
 cases c<;>rcases h with rfl | rfl | rfl | rfl | rfl
 ·exact List.all_eq_true.mp Jr m hm
 ·exact List.all_eq_true.mp Jt m hm
 ·exact List.all_eq_true.mp Jv m hm
 ·exact List.all_eq_true.mp Jx m hm
 ·exact List.all_eq_true.mp Jz m hm
 ·exact List.all_eq_true.mp Jq m hm
 ·exact List.all_eq_true.mp Js m hm
 ·exact List.all_eq_true.mp Ju m hm
 ·exact List.all_eq_true.mp Jw m hm
 ·exact List.all_eq_true.mp Jy m hm
noncomputable def maP(r:List Ot):Pr:=dO [⟨"main",[],[.pl "say" 2 ["hey"] [.own]]⟩] none ((List.range 61).map (λ(k:Nat)=>Ot.start k "main")++r)
def maL(n:Nat):List OQ:=(List.range n).flatMap λ(k:Nat)=>[rw4 k (k+1) [.str "begins",.str "main"],rw4 k (k+1) [.str "says",.str "hey",.int (k+1)],rw4 k (k+1) [.str "ends"]]
theorem GU(r:List Ot):kR (maP r) 3 (nA (maP r) [.str "many"] (maL 60) []) 121 (ys0 none)=true:=by kernel_rfl
noncomputable def mbP:Pr:=dO [⟨"main",[],[.pl "say" 2 ["hey"] [.own],.pl "start" 3 ["main"] [],.pl "wait" 4 [] [.num 3]]⟩] none [.start 5 "main"]
noncomputable def mbL(n:Nat):List OQ:=rw4 5 1 [.str "begins",.str "main"]::(List.range n).flatMap λ(k:Nat)=>rw4 5 (k+1) [.str "says",.str "hey",.int (k+1)]::if k<59 then [rw4 5 (k+2) [.str "begins",.str "main"],rw4 5 (k+1) [.str "waits",.int 3]] else []
theorem GV:kR mbP 3 (nA mbP [.str "many"] (mbL 60) ((List.range 59).map (λ(k:Nat)=>hdD ((k:Int)+1,⟨"main",4⟩))++[hdD (60,⟨"main",3⟩)])) 61 (ys0 none)=true:=by kernel_rfl
noncomputable def Bp(n:Int):List (Tr×List OQ):=[(.name "z",[.str "unknown",.int 1,.str "z"]),(.bin .mul (.num n) (.num 1000),[.str "big",.int 1]),(.bin .add (.num 1) (.bin .sub (.num 0) (.bin .mul (.num n) (.num 1000))),[.str "big",.int 1]),(.bin .add (.name "b") (.bin .mul (.num n) (.num n)),[.str "unknown",.int 1,.str "b"]),(.bin .add (.bin .mul (.num n) (.num n)) (.name "b"),[.str "big",.int 1])]
theorem DP(n:Int):Bk n=(Bp n).map λp=>.tuple [trD p.1,.tuple p.2]:=rfl
theorem vF(h:1000000<n):Wo.bnd n= .big:=Th (by rw [Tf (by lia)];exact h)
structure Bad(e:Tr)(st:List OQ):Prop where
 ev:∀now,Wo.ev [] now 1 e= .big/\st= [.str "big",.int 1]\/∃x,Wo.ev [] now 1 e= .unk x/\st= [.str "unknown",.int 1,.str x]
 dp:e.depth<4
 gd:e.good
 st:SeqAt.shaped (.tuple st)=true
theorem DQ(h1:1001<=n)(h2:n<=999999):∀p∈Bp n,Bad p.1 p.2:=by
 have m1:Wo.bnd (n*1000)= .big:=vF (by lia)
 have m2:Wo.bnd (n*n)= .big:=vF (by
  have:=Int.mul_le_mul h1 h1 (by decide) (by lia)
  lia)
 have gn:∀k:Int,0<=k->k<=999999->Wo.Tr.good (.num k):=λk _ _=>by show Wo.Bd k;unfold Wo.Bd;lia
 have e1:∀now,Wo.ev [] now 1 (.bin .mul (.num n) (.num 1000))= .big:=λ_=>m1
 have e2:∀now,Wo.ev [] now 1 (.bin .mul (.num n) (.num n))= .big:=λ_=>m2
 have sb:SeqAt.shaped (.tuple [.str "big",.int 1])=true:=by decide
 have su:∀x∈(["z","b"]:List Str),SeqAt.shaped (.tuple [.str "unknown",.int 1,.str x])=true:=by decide
 intro p hp
 simp only [Bp,Na,MT,or_false] at hp
 rcases hp with rfl | rfl | rfl | rfl | rfl
 ·exact⟨λ_=>.inr ⟨_,rfl,rfl⟩,by decide,by show OQ.canLay0 _=true;decide,su _ (by decide)⟩
 ·exact⟨λnow=>.inl ⟨e1 now,rfl⟩,by show(1:Nat)<4;decide,⟨gn n (by lia) h2,gn 1000 (by decide) (by decide)⟩,sb⟩
 ·refine⟨λnow=>.inl ⟨?_,rfl⟩,by show(3:Nat)<4;decide,⟨gn 1 (by decide) (by decide),gn 0 (by decide) (by decide),gn n (by lia) h2,gn 1000 (by decide) (by decide)⟩,sb⟩
  have z:Wo.ev [] now 1 (.bin .sub (.num 0) (.bin .mul (.num n) (.num 1000)))= .big:=by
   unfold Wo.ev;rw [e1];rfl
  unfold Wo.ev;rw [z];rfl
 ·exact⟨λ_=>.inr ⟨_,rfl,rfl⟩,by show(2:Nat)<4;decide,⟨by show OQ.canLay0 _=true;decide,gn n (by lia) h2,gn n (by lia) h2⟩,su _ (by decide)⟩
 ·refine⟨λnow=>.inl ⟨?_,rfl⟩,by show(2:Nat)<4;decide,⟨⟨gn n (by lia) h2,gn n (by lia) h2⟩,by show OQ.canLay0 _=true;decide⟩,sb⟩
  unfold Wo.ev;rw [e2]
noncomputable def stP(e:Tr):List (OQ×Sm):=[(.tuple [.str "wait",.int 5,trD e],.pl "wait" 5 [] [e]),(.tuple [.str "take",.int 5,.str "jig",trD e],.pl "take" 5 ["jig"] [e]),(.tuple [.str "give",.int 5,.str "jig",trD e],.pl "give" 5 ["jig"] [e]),(.tuple [.str "put",.int 5,.str "bin",trD e],.pl "put" 5 ["bin"] [e]),
 (.tuple [.str "get",.int 5,.str "bin",trD e],.pl "get" 5 ["bin"] [e]),(.tuple [.str "let",.int 5,.str "a",trD e],.pl "let" 5 ["a"] [e]),(.tuple [.str "say",.int 5,.str "hey",trD e],.pl "say" 5 ["hey"] [e]),
 (.tuple [.str "start",.int 5,.str "aid",.list [nuD 1,trD e]],.pl "start" 5 ["aid"] [.num 1,e]),(.tuple [.str "if",.int 5,.str "<",trD e,nuD 1,.list [],.list []],.fi 5 "<" e (.num 1) [] []),
 (.tuple [.str "while",.int 5,.str "=",nuD 1,trD e,.list []],.wh 5 "=" (.num 1) e []),(.tuple [.str "start",.int 5,.str "aid",.list [trD e,nuD 1]],.pl "start" 5 ["aid"] [e,.num 1])]
mutual
def szB:OQ->Nat->Bool
 | .list l,n+1=>decide (l.length<=1000)&&szA l n
 | .tuple l,n+1=>decide (l.length<=1000)&&szA l n
 | .list _,0=>false
 | .tuple _,0=>false
 | .dict _,_=>false
 | _,_=>true
def szA:List OQ->Nat->Bool
 | [],_=>true
 | d::r,n=>szB d n&&szA r n
end
mutual
theorem bZ:∀{d:OQ} {n:Nat},szB d n=true->Sz n d
 | .none,_,_=>.none
 | .bool _,_,_=>.bool _
 | .int _,_,_=>.int _
 | .str _,_,_=>.str _
 | .list _,_+1,h=>by
  unfold szB at h
  rw [M0] at h
  exact .list (of_decide_eq_true h.1) (tK h.2)
 | .tuple _,_+1,h=>by
  unfold szB at h
  rw [M0] at h
  exact .tuple (of_decide_eq_true h.1) (tK h.2)
 | .list _,0,h=>by unfold szB at h;cases h
 | .tuple _,0,h=>by unfold szB at h;cases h
 | .dict _,_,h=>by unfold szB at h;cases h
theorem tK:∀{l:List OQ} {n:Nat},szA l n=true->∀x∈l,Sz n x
 | [],_,_=>λ_ h=>by cases h
 | _::_,_,h=>by
  unfold szA at h
  rw [M0] at h
  exact List.forall_mem_cons.mpr ⟨bZ h.1,tK h.2⟩
end
theorem gz(e:Tr):frz (trD e)=trD e:=by
 unfold trD
 induction e with
 | bin o l r h1 h2=>simp only [Wo.Tr.toD,frz,bC,h1,h2]
 | _=>simp only [Wo.Tr.toD,frz,bC]
theorem mn{p:OQ->Prop}:∀x∈([]:List OQ),p x:=λ_ h=>by cases h
theorem mc{p:OQ->Prop}{a:OQ}{l:List OQ}(h:p a)(r:∀x∈l,p x):∀x∈a::l,p x:=List.forall_mem_cons.mpr ⟨h,r⟩
theorem tu4{n:Nat}{a b c d:OQ}(h1:Sz n a)(h2:Sz n b)(h3:Sz n c)(h4:Sz n d):Sz (n+1) (.tuple [a,b,c,d]):=.tuple (MP rfl) (mc h1 (mc h2 (mc h3 (mc h4 mn))))
theorem qX(h:e.depth<=n):Sz (n+1) (trD e):=by
 unfold trD
 induction e generalizing n with
 | bin o l r h1 h2=>
  have h:max l.depth r.depth+1<=n:=h
  obtain⟨k,rfl⟩:∃k,n=k+1:=⟨n-1,by lia⟩
  exact .tuple (MP rfl) (mc (.str _) (mc (h1 (by lia)) (mc (h2 (by lia)) mn)))
 | _=>exact bZ rfl
structure StB(st:List OQ)(d:OQ)(x:Sm):Prop where
 fz:frz d=smD x
 sz:Sz 6 d
 ok:dq x
 dp:x.dp<=1
 k:x.k=5
 es:∀e∈x.es,e.depth<4/\e.good
 rk:∀now,bP now 1 x.es []= .error st
theorem tL(b:Bad e st)(now:Int)(r:List Tr)(a:List Int):bP now 1 (e::r) a= .error st:=by
 unfold bP
 rcases b.ev now with ⟨h,rfl⟩ | ⟨x,h,rfl⟩<;>rw [h]
theorem GW(b:Bad e st):∀p∈stP e,StB st p.1 p.2:=by
 have s4:∀{n:Nat},4<=n->Sz n (trD e):=λ{n} h=>by
  obtain⟨k,rfl⟩:∃k,n=k+1:=⟨n-1,by lia⟩
  exact qX (by have:=b.dp;lia)
 have s1:∀{n:Nat},Sz (n+1) (nuD 1):=bZ rfl
 have s0:∀{n:Nat},Sz (n+1) (.list []):=bZ rfl
 have e1:∀x∈[e],x.depth<4/\x.good:=λx hx=>by cases List.mem_singleton.mp hx;exact⟨b.dp,b.gd⟩
 have n1:Wo.Tr.depth (.num 1)<4/\Wo.Tr.good (.num 1):=⟨by decide,by show Wo.Bd 1;unfold Wo.Bd;decide⟩
 have e2:∀x∈[e,.num 1],x.depth<4/\x.good:=λx hx=>by
  rcases List.mem_cons.mp hx with rfl | hx
  ·exact⟨b.dp,b.gd⟩
  ·cases List.mem_singleton.mp hx;exact n1
 have e3:∀x∈[.num 1,e],x.depth<4/\x.good:=λx hx=>by
  rcases List.mem_cons.mp hx with rfl | hx
  ·exact n1
  ·cases List.mem_singleton.mp hx;exact⟨b.dp,b.gd⟩
 have r1:∀now,bP now 1 [e] []= .error st:=λnow=>tL b now _ _
 have r2:∀now,bP now 1 [e,.num 1] []= .error st:=λnow=>tL b now _ _
 have r3:∀now,bP now 1 [.num 1,e] []= .error st:=λnow=>tL b now _ _
 have one:∀(w x:Str),w∈(["take","give","put","get","let","say"]:List Str)->(w== "start")=false->StB st (.tuple [.str w,.int 5,.str x,trD e]) (.pl w 5 [x] [e]):=λw x hw hs=>by
  refine⟨?_,tu4 (.str _) (.int _) (.str _) (s4 (by decide)),Shp.one hw,Nk _,rfl,e1,r1⟩
  simp only [frz,bC,gz,smD,plD]
  rw [Tf (by simpa using hs)];rfl
 have sta:∀(l:List Tr),(∀x∈l,x=e\/x= .num 1)->l.length<=2->(∀x∈l,x.depth<4/\x.good)->(∀now,bP now 1 l []= .error st)->StB st (.tuple [.str "start",.int 5,.str "aid",.list (l.map trD)]) (.pl "start" 5 ["aid"] l):=λl hl h2 he hr=>by
  refine⟨?_,tu4 (.str _) (.int _) (.str _) (.list (by rw [MQ];lia) λz hz=>?_),Shp.start (by lia),Nk _,rfl,he,hr⟩
  ·have:bC (l.map trD)=l.map trD:=by
    rw [du,NK];exact NV λx _=>gz x
   simp only [frz,bC,this,smD,plD]
   rfl
  ·obtain⟨x,hx,rfl⟩:=List.mem_map.mp hz
   exact qX (Nat.le_of_lt_succ (he x hx).1)
 intro p hp
 simp only [stP,Na,MT,or_false] at hp
 rcases hp with rfl | rfl | rfl | rfl | rfl | rfl | rfl | rfl | rfl | rfl | rfl
 ·refine⟨?_,.tuple (MP rfl) (mc (.str _) (mc (.int _) (mc (s4 (by decide)) mn))),Shp.wait,Nk _,rfl,e1,r1⟩
  simp only [frz,bC,gz,smD,plD]
  rw [Tf (by decide)];rfl
 ·exact one _ _ (by decide) (by decide)
 ·exact one _ _ (by decide) (by decide)
 ·exact one _ _ (by decide) (by decide)
 ·exact one _ _ (by decide) (by decide)
 ·exact one _ _ (by decide) (by decide)
 ·exact one _ _ (by decide) (by decide)
 ·exact sta [.num 1,e] (by simp) (by simp) e3 r3
 ·refine⟨?_,.tuple (MP rfl) (mc (.str _) (mc (.int _) (mc (.str _) (mc (s4 (by decide)) (mc s1 (mc s0 (mc s0 mn))))))),⟨.inl rfl,trivial,trivial⟩,by show 0+1<=1;decide,rfl,e2,r2⟩
  simp only [frz,bC,gz,smD,bdD];rfl
 ·refine⟨?_,.tuple (MP rfl) (mc (.str _) (mc (.int _) (mc (.str _) (mc s1 (mc (s4 (by decide)) (mc s0 mn)))))),⟨.inr rfl,trivial⟩,by show 0+1<=1;decide,rfl,e3,r3⟩
  simp only [frz,bC,gz,smD,bdD];rfl
 ·exact sta [e,.num 1] (by simp) (by simp) e2 r2
noncomputable def byS(x:Sm):List Sm:=[.pl "say" 4 ["hey"] [.num 7],x]
noncomputable def byH(x:Sm):List Hn:=[⟨"main",[],byS x⟩,⟨"aid",["a","c"],[]⟩]
def byO(mo:Int):List Ot:=[.start mo "main",.bring mo 1]
noncomputable def byL(mo:Int):List OQ:=[rw4 mo 1 [.str "begins",.str "main"],rw4 mo 0 [.str "brings",.str "bin",.int 1],rw4 mo 1 [.str "says",.str "hey",.int 7]]
noncomputable def byY(mo:Int)(n:Nat):YS:=⟨n,1,mo,n,0,[(mo,1)],some (2+n,5),[(1,⟨"main",0⟩)],(byL mo).take n,none⟩
noncomputable def byZ(mo:Int)(st:List OQ):YS:=⟨2,1,mo,3,2,[],some (4,5),[(1,⟨"main",5⟩)],byL mo,some st⟩
def byI(mo:Int)(st:List OQ)(s0:YS)(n:Nat)(s:YS):Prop:=n=0/\s=s0\/n=1/\s=byY mo 1\/n=2/\s=byY mo 2\/n=3/\s=byZ mo st
section
variable{st:List OQ}{d:OQ}{x:Sm}{mo:Int}{t:Option (Addr×Int)}{s:Option (Addr×Int×Int)}
theorem tN:HN [(1,m)]:=⟨List.nodup_cons.mpr ⟨MT,.nil⟩,λp hp=>by cases List.mem_singleton.mp hp;exact⟨of_decide_eq_true rfl,of_decide_eq_true rfl⟩⟩
theorem GX:YB (byY mo n):=⟨tN,by show 1<=600;exact of_decide_eq_true rfl,by show 1<=60;exact of_decide_eq_true rfl,λp hp=>by cases List.mem_singleton.mp hp;exact of_decide_eq_true rfl⟩
noncomputable def byG(mo:Int)(k r:Int)(l:List OQ):YS:=⟨2,1,mo,3,k,[],some (4,5),[(1,⟨"main",r⟩)],l,none⟩
theorem ID(b:StB st d x):(byG mo 0 0 ((byL mo).take 2)).goOn 1 102 (bE (byS x) 0)=byZ mo st:=by
 rw [show bE (byS x) 0= [(byS x,0)] from rfl]
 rw [jw (m:=.pl "say" 4 ["hey"] [.num 7]) rfl rfl (of_decide_eq_true rfl)]
 rw [show((byG mo 0 0 ((byL mo).take 2)).enter 1 (Sm.k (.pl "say" 4 ["hey"] [.num 7]))).doS 1 (bR [(byS x,0)]) (.pl "say" 4 ["hey"] [.num 7])=(true,byG mo 1 4 (byL mo),[(byS x,1)]) by kernel_rfl]
 dsimp only
 rw [Th rfl,jw rfl rfl (of_decide_eq_true rfl)]
 have e:((byG mo 1 4 (byL mo)).enter 1 x.k).doS 1 (bR [(byS x,1)]) x=(false,byZ mo st,bR [(byS x,1)]):=by
  rw [b.k]
  unfold YS.doS
  rw [b.rk]
  kernel_rfl
 rw [e];rfl
theorem GY(h0:0<=mo)(h1:mo<=1000)(hl:l.length<=3)(pa:PaO p)(pl:p.length<=1000):Tb P (byG mo k r l) p:=⟨pa,pl,⟨tN,by show 0<=600;exact of_decide_eq_true rfl,by show 1<=60;exact of_decide_eq_true rfl,λp hp=>by cases List.mem_singleton.mp hp;exact of_decide_eq_true rfl⟩,by show Wo.Bd mo;unfold Wo.Bd;lia,by show l.length+500<_;lia⟩
theorem IE(b:StB st d x)(h0:0<=mo)(h1:mo<=1000)(P:Pr):fQ P 4 1 102 (byG mo 0 0 ((byL mo).take 2)) (bE (byS x) 0):=by
 rw [show bE (byS x) 0= [(byS x,0)] from rfl]
 have pa:∀i:Nat,i<=2->PaO [(byS x,i)]:=λi hi y hy=>by cases List.mem_singleton.mp hy;exact hi
 refine jC (x:=.pl "say" 4 ["hey"] [.num 7]) (GY h0 h1 (of_decide_eq_true rfl) (pa 0 (of_decide_eq_true rfl)) (of_decide_eq_true rfl)) rfl rfl (of_decide_eq_true rfl) (Shp.one (by decide)) (λe he=>by cases List.mem_singleton.mp he;exact⟨of_decide_eq_true rfl,by show Wo.Bd 7;unfold Wo.Bd;exact of_decide_eq_true rfl⟩) (λw k ns es xs e z=>?_) ?_
 ·cases e;cases z;exact .say
 ·intro r _
  rw [show r=(true,byG mo 1 4 (byL mo),[(byS x,1)]) by kernel_rfl]
  dsimp only
  refine jC (GY h0 h1 (of_decide_eq_true rfl) (pa 1 (of_decide_eq_true rfl)) (of_decide_eq_true rfl)) rfl rfl (of_decide_eq_true rfl) b.ok b.es (λw k ns es xs e z=>?_) ?_
  ·have rk:=b.rk mo
   rw [e] at rk
   rw [show bP (byG mo 1 4 (byL mo)).now 1 es []=bP mo 1 es [] from rfl,show bP mo 1 es []= .error st from rk] at z
   cases z
  ·dsimp only
   intro z
   unfold YS.doS at z
   rw [show bP ((byG mo 1 4 (byL mo)).sStm ((byG mo 1 4 (byL mo)).stm+1) |>.sHd (_K.setH 1 ((Hd.mk "main" 4).sRow x.k) (byG mo 1 4 (byL mo)).hd)).now 1 x.es []= .error st from b.rk mo] at z
   cases z
theorem GZ(b:StB st d x)(h0:0<=mo)(h1:mo<=1000)(es:s.map (·.2)=some (3,5)):RunI (dO (byH x) t (byO mo)) 4 3 (ys0 s) 3 (byI mo st (ys0 s)):=by
 have e0:ys0 s=⟨0,0,0,0,0,[],some (3,5),[],[],none⟩:=by unfold ys0;rw [es]
 refine⟨.inl ⟨rfl,rfl⟩,λn y l i=>?_,λy i=>?_,λn y i=>?_⟩
 ·rcases i with ⟨rfl,rfl⟩ | ⟨rfl,rfl⟩ | ⟨rfl,rfl⟩ | ⟨rfl,_⟩
  ·rw [e0]
   have c:=vD (s:=⟨0,0,0,0,0,[],some (3,5),[],[],none⟩) h0 rfl
   obtain⟨n1,n2⟩:=oQ (s:=⟨0,0,0,0,0,[],some (3,5),[],[],none⟩) (P:=dO (byH x) t (byO mo)) rfl rfl (λk e=>by cases e) (by rw [show(Ot.start mo "main").m=mo from rfl,c];exact of_decide_eq_true rfl)
   refine⟨jQ rfl rfl (λk e=>by cases e) (by show eC _ _=_;kernel_rfl) ⟨⟨.nil,λp hp=>by cases hp⟩,of_decide_eq_true rfl,of_decide_eq_true rfl,λp hp=>by cases hp⟩ (of_decide_eq_true rfl),by rw [n1];simp,.inr (.inl ⟨rfl,?_⟩)⟩
   rw [n2,show(Ot.start mo "main").m=mo from rfl,c];kernel_rfl
  ·have c:=tI (s:=byY mo 1) (m:=mo) rfl
   have fi:∀k,(byY mo 1).first=some k->(Ot.bring mo 1).m<=k:=λk e=>by cases e;exact Int.le_refl _
   obtain⟨n1,n2⟩:=oQ (P:=dO (byH x) t (byO mo)) rfl rfl fi (by rw [show(Ot.bring mo 1).m=mo from rfl,c];exact of_decide_eq_true rfl)
   refine⟨jQ rfl rfl fi ⟨_,rfl⟩ GX (by show 1+500<_;exact of_decide_eq_true rfl),by rw [n1];simp,.inr (.inr (.inl ⟨rfl,?_⟩))⟩
   rw [n2,show(Ot.bring mo 1).m=mo from rfl,c];kernel_rfl
  ·have c:=tI (s:=byY mo 2) (m:=mo) rfl
   obtain⟨n1,n2⟩:=zv (s:=byY mo 2) (P:=dO (byH x) t (byO mo)) (r:=[]) rfl rfl (λo e=>by cases e) (by rw [c];exact of_decide_eq_true rfl)
   have g:(((byY mo 2).up.sAg []).sStm 0)=byG mo 0 0 ((byL mo).take 2):=rfl
   refine⟨nu (r:=[]) rfl rfl (of_decide_eq_true rfl) (λo e=>by cases e) GX λ_=>⟨⟨"main",0⟩,byS x,?_,by kernel_rfl,?_,?_,?_⟩,by rw [n1];simp,.inr (.inr (.inr ⟨rfl,?_⟩))⟩
   ·rw [c];rfl
   ·exact⟨Shp.one (by decide),b.ok,trivial⟩
   ·have:=b.dp
    show max 0 (max x.dp 0)<3
    lia
   ·rw [c,g];exact IE b h0 h1 _
   ·rw [n2,c,g]
    unfold YS.goF
    rw [show bI 1 (byG mo 0 0 ((byL mo).take 2)).hd=some ⟨"main",0⟩ from rfl]
    dsimp only
    rw [show eC "main" (dO (byH x) t (byO mo)).bds=some (byS x) by kernel_rfl]
    exact ID b
  ·lia
 ·rcases i with ⟨h,_⟩ | ⟨h,_⟩ | ⟨h,_⟩ | ⟨_,rfl⟩
  ·cases h
  ·cases h
  ·cases h
  ·exact⟨Nat.le_refl 2,λz=>by cases z⟩
 ·rcases i with ⟨rfl,_⟩ | ⟨rfl,_⟩ | ⟨rfl,_⟩ | ⟨rfl,_⟩<;>decide
end
noncomputable def loW:List Sm:=[.pl "wait" 4 [] [.num 0]]
noncomputable def loM(c:Bool):Sm:=.wh 3 (cond c "<" "=") (.num (cond c 1 7)) (.num (cond c 2 7)) loW
def loS(c:Bool):List Sm:=[loM c]
noncomputable def loO(h b:Nat)(mo:Int):List Ot:=Nd h (.start mo "main")++(Nd b (.bring mo 1)++if mo<1000 then [.start 1000 "main"] else [])
def loP(c:Bool)(t:Option (Addr×Int))(h b:Nat)(mo:Int):Pr:=dO [⟨"main",[],loS c⟩] t (loO h b mo)
noncomputable def loL(h b:Nat)(mo:Int)(n:Nat):List OQ:=((List.range (min n h)).map λ(k:Nat)=>rw4 mo ((k:Int)+1) [.str "begins",.str "main"])++((List.range (min n (h+b)-h)).map λ_=>rw4 mo 0 [.str "brings",.str "bin",.int 1])++((List.range (n-(h+b))).map λ(k:Nat)=>rw4 mo (1+(k:Int)%(h:Int)) [.str "waits",.int 0])
structure LoI(h b:Nat)(mo:Int)(n:Nat)(s:YS):Prop where
 hap:s.hap=n
 dn:s.done=min n (h+b)
 bg:s.beg=min n h
 now:n=0/\s.now=0\/s.now=mo
 sl:s.sl=some (((min n (h+b)-h:Nat):Int),999)
 ag:s.ag=(List.range (min n h)).map λ(i:Nat)=>(mo,1+((n-(h+b)+i:Nat):Int)%(h:Int))
 hn:s.hd.map (·.1)=(List.range (min n h)).map λ(i:Nat)=>(i:Int)+1
 rw:∀p∈s.hd,p.2.nm= "main"/\(p.2.row=0\/p.2.row=4)
 lg:s.lg=loL h b mo n
 st:s.st=none
def LoJ(h b:Nat)(mo:Int)(n:Nat)(s:YS):Prop:=n<=500/\LoI h b mo n s\/n=501/\∃s',LoI h b mo 500 s'/\s=s'.sSt (some [.str "long"])
theorem tO(h:∀p∈O,p.1<=m):Ag.insO O m x=O++[(m,x)]:=by
 induction O with
 | nil=>rfl
 | cons p r ih=>
  have ih:=ih λq hq=>h q (MV _ hq)
  have d:=decide_eq_true (h p MU)
  unfold Ag.insO at ih⊢
  rw [List.takeWhile_cons,List.dropWhile_cons,Th d,Th d,NN,ih];rfl
section
variable{h b n:Nat}{mo:Int}{s:YS}{c:Bool}{t:Option (Addr×Int)}
theorem LoI.clk(L:LoI h b mo n s)(h0:0<=mo):s.clk mo=s.sNow mo:=by
 rcases L.now with ⟨rfl,e⟩ | e
 ·exact vD (by lia) L.hap
 ·rw [tI e,<-e];rfl
theorem LoI.hn'(L:LoI h b mo n s)(h1:h<=5):HN s.hd/\(s.hd.map (·.1)).Pairwise (· < ·)/\∀p∈s.hd,p.1<=s.beg:=by
 have pw:((List.range (min n h)).map λ(i:Nat)=>(i:Int)+1).Pairwise (· < ·):=List.pairwise_map.mpr (List.pairwise_lt_range.imp λz=>by lia)
 have i1:∀p∈s.hd,1<=p.1/\p.1<=(min n h:Nat):=λp hp=>by
  have:p.1∈s.hd.map (·.1):=Nr hp
  rw [L.hn] at this
  obtain⟨i,hi,e⟩:=List.mem_map.mp this
  have:=List.mem_range.mp hi
  lia
 rw [<-L.hn] at pw
 refine⟨⟨pw.imp λz=>Int.ne_of_lt z,λp hp=>?_⟩,pw,λp hp=>?_⟩
 ·have:=i1 p hp;lia
 ·rw [L.bg];exact(i1 p hp).2
theorem LoI.yb(L:LoI h b mo n s)(h1:h<=5):YB s:=by
 obtain⟨x,_,y⟩:=L.hn' h1
 refine⟨x,?_,?_,y⟩
 ·rw [L.ag,MQ,Nh];lia
 ·rw [L.bg];lia
theorem vG(h1:h<=5)(h2:b<=3)(hn:n<=500):(loL h b mo n).length<=500:=by
 unfold loL
 simp only [MW,MQ,Nh];lia
theorem LoI.start(L:LoI h b mo n s)(h0:0<=mo)(h1:h<=5)(l:n<h):LoI h b mo (n+1) ((s.clk mo).up.doOut (loP c t h b mo)):=by
 have a1:min n h=n:=by lia
 have a2:min n (h+b)=n:=by lia
 have a3:min (n+1) h=n+1:=by lia
 have a4:min (n+1) (h+b)=n+1:=by lia
 have eo:(loO h b mo)[n]? =some (.start mo "main"):=by
  unfold loO
  rw [Nl (by rw [MY];exact l),Ny,Th l]
 rw [L.clk h0]
 have ed:((s.sNow mo).up).doOut (loP c t h b mo)=(((s.sNow mo).up).sDone (s.done+1)).begin "main":=by
  unfold YS.doOut
  rw [show(loP c t h b mo).out[((s.sNow mo).up).done]? =some (.start mo "main") by show(loO h b mo)[s.done]? =_;rw [L.dn,a2];exact eo]
  rfl
 rw [ed]
 unfold YS.begin
 rw [Tf (by show ¬s.beg=60;rw [L.bg];lia)]
 have am:∀p∈s.ag,p.1<=mo:=λp hp=>by
  rw [L.ag] at hp
  obtain⟨i,_,rfl⟩:=List.mem_map.mp hp
  exact Int.le_refl _
 refine⟨?_,?_,?_,.inr rfl,?_,?_,?_,?_,?_,L.st⟩
 ·show s.hap+1=_;rw [L.hap];rfl
 ·show s.done+1=_;rw [L.dn];lia
 ·show s.beg+1=_;rw [L.bg];lia
 ·show s.sl=_;rw [L.sl,a2,a4];congr 3;lia
 ·show Ag.insO s.ag mo ((s.beg:Int)+1)=_
  rw [tO am,L.ag,L.bg,a1,a3,NE,MX]
  rw [show n-(h+b)=0 by lia,show n+1-(h+b)=0 by lia,Ng,N0]
  rw [show((0+n:Nat):Int)%(h:Int)=n by rw [Ol];exact Int.emod_eq_of_lt (by lia) (by lia)]
  rw [Int.add_comm 1]
 ·show(s.hd++[((s.beg:Int)+1,Hd.mk "main" 0)]).map (·.1)=_
  rw [MX,L.hn,a1,a3,NE,MX,L.bg,a1];rfl
 ·intro p hp
  rcases List.mem_append.mp hp with hp | hp
  ·exact L.rw p hp
  ·cases List.mem_singleton.mp hp;exact⟨rfl,.inl rfl⟩
 ·show s.lg++[.tuple (.int mo::.int ((s.beg:Int)+1)::[.str "begins",.str "main"])]=_
  rw [L.lg,L.bg]
  unfold loL
  rw [a1,a2,a3,a4,show n-(h+b)=0 by lia,show n+1-(h+b)=0 by lia,show n-h=0 by lia,show n+1-h=0 by lia,NE,MX]
  simp only [List.range_zero,N0,Nv];rfl
theorem LoI.bring(L:LoI h b mo n s)(h0:0<=mo)(h2:b<=3)(l1:h<=n)(l2:n<h+b):LoI h b mo (n+1) ((s.clk mo).up.doOut (loP c t h b mo)):=by
 have a1:min n h=h:=by lia
 have a2:min n (h+b)=n:=by lia
 have a3:min (n+1) h=h:=by lia
 have a4:min (n+1) (h+b)=n+1:=by lia
 have eo:(loO h b mo)[n]? =some (.bring mo 1):=by
  unfold loO
  rw [No (by rw [MY];exact l1),MY,Nl (by rw [MY];lia),Ny,Th (by lia)]
 rw [L.clk h0]
 have ed:((s.sNow mo).up).doOut (loP c t h b mo)=(((s.sNow mo).up).sDone (s.done+1)).bring 1:=by
  unfold YS.doOut
  rw [show(loP c t h b mo).out[((s.sNow mo).up).done]? =some (.bring mo 1) by show(loO h b mo)[s.done]? =_;rw [L.dn,a2];exact eo]
  rfl
 rw [ed]
 unfold YS.bring
 rw [show(((s.sNow mo).up).sDone (s.done+1)).sl=some (((n-h:Nat):Int),999) by show s.sl=_;rw [L.sl,a2]]
 have bg:wP ((n-h:Nat):Int) 999 1=1:=by
  unfold wP
  rw [Tf (show ¬(999-((n-h:Nat):Int)<1) by lia)];rfl
 dsimp only
 rw [bg]
 refine⟨?_,?_,?_,.inr rfl,?_,?_,?_,L.rw,?_,L.st⟩
 ·show s.hap+1=_;rw [L.hap];rfl
 ·show s.done+1=_;rw [L.dn];lia
 ·show s.beg=_;rw [L.bg];lia
 ·show some (((n-h:Nat):Int)+1,(999:Int))=_;congr 2;lia
 ·show s.ag=_;rw [L.ag,a1,a3,show n-(h+b)=0 by lia,show n+1-(h+b)=0 by lia]
 ·show s.hd.map (·.1)=_;rw [L.hn,a1,a3]
 ·show s.lg++[.tuple (.int mo::.int 0::[.str "brings",.str "bin",.int 1])]=_
  rw [L.lg]
  unfold loL
  rw [a1,a2,a3,a4,show n-(h+b)=0 by lia,show n+1-(h+b)=0 by lia,show n+1-h=(n-h)+1 by lia,NE,MX (l₁:=List.range (n-h))]
  simp only [Nj];rfl
noncomputable def loA(y:YS)(g:Int):YS:=((y.sStm 1).sHd (_K.setH g ⟨"main",3⟩ y.hd))
noncomputable def loB(y:YS)(g:Int):YS:=(((loA y g).sStm 2).sHd (_K.setH g ⟨"main",4⟩ (loA y g).hd))
theorem vH(hr:row=0\/row=4):bR (bE (loS c) row)= [(loS c,0)]/\cN (bE (loS c) row)=some (loM c)/\PaO (bE (loS c) row)/\(bE (loS c) row).length<=1000:=by
 rcases hr with rfl | rfl
 ·rw [show bE (loS c) 0= [(loS c,0)] from rfl]
  exact⟨rfl,rfl,(λx hx=>by cases List.mem_singleton.mp hx;exact Nk _),of_decide_eq_true rfl⟩
 ·rw [show bE (loS c) 4= [(loS c,0),(loW,1)] by kernel_rfl]
  refine⟨rfl,rfl,λx hx=>?_,of_decide_eq_true rfl⟩
  rcases List.mem_cons.mp hx with rfl | hx
  ·exact Nk _
  ·cases List.mem_singleton.mp hx;exact Nat.le_refl 1
theorem zw(y:YS)(g:Int):(loA y g).doS g [(loS c,0)] (loM c)=(true,loA y g,[(loS c,0),(loW,0)]):=by cases c<;>kernel_rfl
theorem G0(y:YS)(g:Int):(loB y g).doS g [(loS c,0),(loW,0)] (.pl "wait" 4 [] [.num 0])=(false,(loB y g).wait g 0,[(loS c,0),(loW,1)]):=by kernel_rfl
theorem IF(e:bI g y.hd=some ⟨"main",row⟩)(hr:row=0\/row=4)(es:y.stm=0):y.goOn g 102 (bE (loS c) row)=(loB y g).wait g 0:=by
 obtain⟨p1,p2,_⟩:=vH hr
 have c0:¬y.stm=100:=by rw [es];decide
 have ea:y.enter g (loM c).k=loA y g:=by rw [nh e c0,es];rfl
 rw [jw p2 e c0,ea,p1,zw]
 have e1:bI g (loA y g).hd=some ⟨"main",3⟩:=mZ e
 have c1:¬(loA y g).stm=100:=of_decide_eq_true rfl
 have eb:(loA y g).enter g 4=loB y g:=by rw [nh e1 c1];rfl
 rw [Th rfl,jw (m:=.pl "wait" 4 [] [.num 0]) rfl e1 c1]
 rw [show bR [(loS c,0),(loW,0)]= [(loS c,0),(loW,0)] from rfl,show(loA y g).enter g (Sm.k (.pl "wait" 4 [] [.num 0]))=loB y g from eb,G0];rfl
theorem IG(e:bI g y.hd=some ⟨"main",row⟩)(hr:row=0\/row=4)(es:y.stm=0)(B:YB y)(nb:Wo.Bd y.now)(lg:y.lg.length+500<16000000):fQ P 4 g 102 y (bE (loS c) row):=by
 obtain⟨p1,p2,p3,p4⟩:=vH hr
 have c0:¬y.stm=100:=by rw [es];decide
 have ea:(y.sStm (y.stm+1)).sHd (_K.setH g ((Hd.mk "main" row).sRow (loM c).k) y.hd)=loA y g:=by rw [es];rfl
 have gn:∀k:Int,0<=k->k<=7->Wo.Tr.depth (.num k)<4/\Wo.Tr.good (.num k):=λk _ _=>⟨of_decide_eq_true rfl,by show Wo.Bd k;unfold Wo.Bd;lia⟩
 refine jC ⟨p3,p4,B,nb,lg⟩ p2 e c0 ⟨?_,Shp.wait,trivial⟩ (λe he=>?_) (λw k ns es xs e z=>by cases e) ?_
 ·cases c
  ·exact .inr rfl
  ·exact .inl rfl
 ·have he:e∈[Wo.Tr.num (cond c 1 7),.num (cond c 2 7)]:=he
  simp only [Na,MT,or_false] at he
  cases c<;>rcases he with rfl | rfl<;>exact gn _ (of_decide_eq_true rfl) (of_decide_eq_true rfl)
 ·rw [ea,p1,zw]
  intro r _
  refine jC (x:=.pl "wait" 4 [] [.num 0]) ⟨λx hx=>?_,of_decide_eq_true rfl,B.setH,nb,lg⟩ rfl (mZ e) (of_decide_eq_true rfl) Shp.wait (λe he=>by cases List.mem_singleton.mp he;exact gn 0 (by decide) (by decide)) (λw k ns es xs e z=>by cases e;cases z;exact .wait) ?_
  ·rcases List.mem_cons.mp hx with rfl | hx
   ·exact Nk _
   ·cases List.mem_singleton.mp hx;exact Nk _
  ·intro r z
   cases z
theorem G5{α:Type}{F:Nat->α}(h1:1<=h)(e:F h=F 0):(List.range h).map F=F 0::(List.range (h-1)).map (λi=>F (i+1))/\(List.range h).map (λi=>F (i+1))=(List.range (h-1)).map (λi=>F (i+1))++[F 0]:=by
 obtain⟨k,rfl⟩:∃k,h=k+1:=⟨h-1,by lia⟩
 rw [NY]
 refine⟨?_,?_⟩
 ·rw [List.range_succ_eq_map,Ng,NK];rfl
 ·rw [NE,MX,Ng,N0,e]
theorem LoI.no(L:LoI h b mo n s)(l:h+b<=n):∀o,(loP c t h b mo).out[s.done]? =some o->mo<o.m:=λo e=>by
 rw [L.dn,Nat.min_eq_right l] at e
 have e:(loO h b mo)[h+b]? =some o:=e
 unfold loO at e
 rw [No (by rw [MY];lia),MY,Nat.add_sub_cancel_left,No (by rw [MY];lia),MY,Nat.sub_self] at e
 by_cases z:mo<1000
 ·rw [Th z] at e;cases e;exact z
 ·rw [Tf z] at e;cases e
theorem LoI.head(L:LoI h b mo n s)(h1:1<=h)(l:h+b<=n):∃r,s.ag=(mo,1+((n-(h+b):Nat):Int)%(h:Int))::r/\r++[(mo,1+((n-(h+b):Nat):Int)%(h:Int))]=(List.range h).map (λ(i:Nat)=>(mo,1+((n+1-(h+b)+i:Nat):Int)%(h:Int))):=by
 obtain⟨e1,e2⟩:=G5 (F:=λ(i:Nat)=>(mo,1+((n-(h+b)+i:Nat):Int)%(h:Int))) h1 (by
  rw [Int.natCast_add,Int.add_emod_right,OC])
 refine⟨_,by rw [L.ag,Nat.min_eq_right (by lia:h<=n),e1];rfl,?_⟩
 rw [show(λ(i:Nat)=>(mo,1+((n+1-(h+b)+i:Nat):Int)%(h:Int)))=λ(i:Nat)=>(mo,1+((n-(h+b)+(i+1):Nat):Int)%(h:Int)) from funext λi=>by rw [show n+1-(h+b)+i=n-(h+b)+(i+1) by lia]]
 rw [e2,OC]
theorem LoI.hand(L:LoI h b mo n s)(h1:1<=h)(h5:h<=5)(l:h+b<=n)(g:Int)(g1:1<=g)(g2:g<=h):∃row,bI g s.hd=some ⟨"main",row⟩/\(row=0\/row=4):=by
 have:g∈s.hd.map (·.1):=by
  rw [L.hn]
  exact List.mem_map.mpr ⟨(g-1).toNat,List.mem_range.mpr (by lia),by lia⟩
 obtain⟨⟨g',nm,row⟩,hp,rfl⟩:=List.mem_map.mp this
 obtain⟨e1,e2⟩:=L.rw _ hp
 cases (e1)
 exact⟨row,gN (L.hn' h5).1.nd hp,e2⟩
theorem Bq(l:List (Int×Hd)):_K.setH g y (_K.setH g x l)=_K.setH g y l:=by
 induction l with
 | nil=>rfl
 | cons a r ih=>
  by_cases z:a.1=g
  ·rw [show _K.setH g x (a::r)=(a.1,x)::r from Th z,show _K.setH g y (a::r)=(a.1,y)::r from Th z];exact Th z
  ·rw [show _K.setH g x (a::r)=a::_K.setH g x r from Tf z,show _K.setH g y (a::r)=a::_K.setH g y r from Tf z,<-ih];exact Tf z
theorem DR(hp:p∈_K.setH g x l):p.2=x\/p∈l:=by
 induction l with
 | nil=>cases hp
 | cons a r ih=>
  unfold _K.setH at hp
  split at hp
  ·rcases List.mem_cons.mp hp with rfl | hp
   ·exact .inl rfl
   ·exact .inr (MV _ hp)
  ·rcases List.mem_cons.mp hp with rfl | hp
   ·exact .inr MU
   ·exact(ih hp).imp id (MV _)
theorem LoI.wait(L:LoI h b mo n s)(h0:0<=mo)(hm:mo<=1000)(h1:1<=h)(h5:h<=5)(l:h+b<=n)(ln:n<500):∃g r,s.ag=(mo,g)::r/\GoP (loP c t h b mo) 4 3 g (((s.clk mo).up.sAg r).sStm 0)/\LoI h b mo (n+1) ((((s.clk mo).up.sAg r).sStm 0).goF (loP c t h b mo) g):=by
 obtain⟨r,e1,e2⟩:=L.head h1 l
 have hp:0<(h:Int):=by lia
 have m1:=N9 ((n-(h+b):Nat):Int) (show(h:Int)≠0 by lia)
 have m2:=NF ((n-(h+b):Nat):Int) hp
 obtain⟨g,eg⟩:∃g,g=1+((n-(h+b):Nat):Int)%(h:Int):=⟨_,rfl⟩
 obtain⟨row,er,hr⟩:=L.hand h1 h5 l g (by lia) (by lia)
 rw [<-eg] at e1 e2
 have B:=L.yb h5
 rw [L.clk h0]
 obtain⟨y,ey⟩:∃y,y=(((s.sNow mo).up.sAg r).sStm 0):=⟨_,rfl⟩
 have lr:r.length<=600:=by
  have:=B.ag
  rw [e1,M8] at this;lia
 have By:YB y:=by rw [ey];exact⟨B.hn,lr,B.bg,B.nb⟩
 have ey1:bI g y.hd=some ⟨"main",row⟩:=by rw [ey];exact er
 have ebd:eC "main" (loP c t h b mo).bds=some (loS c):=by kernel_rfl
 have ll:=vG (mo:=mo) (n:=n) h5 (b:=b)
 refine⟨g,r,e1,?_,?_⟩
 ·rw [<-ey]
  refine⟨_,loS c,ey1,ebd,⟨⟨?_,Shp.wait,trivial⟩,trivial⟩,of_decide_eq_true rfl,IG ey1 hr (by rw [ey];rfl) By ?_ ?_⟩
  ·cases c
   ·exact .inr rfl
   ·exact .inl rfl
  ·rw [ey];show Wo.Bd mo;unfold Wo.Bd;lia
  ·rw [ey];show s.lg.length+500<_;rw [L.lg]
   unfold loL
   simp only [MW,MQ,Nh];lia
 ·have go:y.goF (loP c t h b mo) g=(loB y g).wait g 0:=by
   unfold YS.goF
   rw [ey1]
   dsimp only
   rw [ebd]
   exact IF ey1 hr (by rw [ey];rfl)
  rw [<-ey,go]
  have a1:min n h=h:=by lia
  have a2:min n (h+b)=h+b:=by lia
  have a3:min (n+1) h=h:=by lia
  have a4:min (n+1) (h+b)=h+b:=by lia
  have rm:∀p∈r,p.1<=mo:=λp hp=>by
   have:p∈s.ag:=by rw [e1];exact MV _ hp
   rw [L.ag] at this
   obtain⟨i,_,rfl⟩:=List.mem_map.mp this
   exact Int.le_refl _
  have eh:(loB y g).hd=_K.setH g ⟨"main",4⟩ s.hd:=by rw [ey];exact Bq _
  refine⟨?_,?_,?_,.inr (by rw [ey];rfl),?_,?_,?_,?_,?_,?_⟩
  ·rw [ey];show s.hap+1=_;rw [L.hap];rfl
  ·rw [ey];show s.done=_;rw [L.dn,a2,a4]
  ·rw [ey];show s.beg=_;rw [L.bg,a1,a3]
  ·rw [ey];show s.sl=_;rw [L.sl,a2,a4]
  ·rw [ey];show Ag.insO r (mo+0) g=_
   rw [Int.add_zero,tO rm,e2,a3]
  ·show(loB y g).hd.map (·.1)=_
   rw [eh,mY,L.hn,a1,a3]
  ·show ∀p∈(loB y g).hd,_
   rw [eh]
   intro p hp
   rcases DR hp with z | z
   ·rw [z];exact⟨rfl,.inr rfl⟩
   ·exact L.rw p z
  ·have e3:((loB y g).wait g 0).lg=s.lg++[rw4 mo g [.str "waits",.int 0]]:=by rw [ey];rfl
   rw [e3,L.lg,eg]
   unfold loL
   rw [a1,a2,a3,a4,show n+1-(h+b)=(n-(h+b))+1 by lia,NE (n:=n-(h+b)),MX (l₁:=List.range (n-(h+b))),Nj,Nj,Nj];rfl
  ·rw [ey];exact L.st
theorem G6(L0:LoI h b mo 0 s0)(h0:0<=mo)(hm:mo<=1000)(h1:1<=h)(h5:h<=5)(hb:b<=3):RunI (loP c t h b mo) 4 3 s0 501 (LoJ h b mo):=by
 have ol:(loP c t h b mo).out.length>=h+b:=by
  show(loO h b mo).length>=_
  unfold loO
  rw [MW,MW,MY,MY];lia
 refine⟨.inl ⟨by decide,L0⟩,λn s l i=>?_,λs i=>?_,λn s i=>?_⟩
 ·rcases i with ⟨ln,L⟩ | ⟨z,_⟩
  ·have B:=L.yb h5
   have ll:=vG (mo:=mo) h5 hb ln
   have hp:n<500->¬(s.clk mo).hap=500:=λz=>by rw [L.clk h0];show ¬s.hap=500;rw [L.hap];lia
   have fi:∀k,s.first=some k->mo<=k:=λk e=>by
    unfold YS.first at e
    rw [L.ag] at e
    cases z:(List.range (min n h)) with
    | nil=>rw [z] at e;cases e
    | cons=>rw [z] at e;cases e;exact Int.le_refl _
   have no:=L.no (c:=c) (t:=t)
   have lg:s.lg.length+500<16000000:=by rw [L.lg];lia
   have eo:n<h+b->(loP c t h b mo).out[s.done]? =some (if n<h then .start mo "main" else .bring mo 1):=λz=>by
    show(loO h b mo)[s.done]? =_
    rw [L.dn,Nat.min_eq_left (Nat.le_of_lt z)]
    unfold loO
    by_cases y:n<h
    ·rw [Th y,Nl (by rw [MY];exact y),Ny,Th y]
    ·rw [Tf y,No (by rw [MY];lia),MY,Nl (by rw [MY];lia),Ny,Th (by lia)]
   by_cases c1:n<h
   ·have eo:=eo (by lia)
    rw [Th c1] at eo
    obtain⟨n1,n2⟩:=oQ L.st eo fi (hp (by lia))
    refine⟨jQ L.st eo fi (by show eC _ _=_;kernel_rfl) B lg,by rw [n1];simp,.inl ⟨by lia,?_⟩⟩
    rw [n2];exact L.start h0 h5 c1
   ·by_cases c2:n<h+b
    ·have eo:=eo c2
     rw [Tf c1] at eo
     obtain⟨n1,n2⟩:=oQ L.st eo fi (hp (by lia))
     refine⟨jQ L.st eo fi ⟨_,L.sl⟩ B lg,by rw [n1];simp,.inl ⟨by lia,?_⟩⟩
     rw [n2];exact L.bring h0 hb (by lia) c2
    ·have no:=no (by lia)
     have dn:s.done<=(loP c t h b mo).out.length:=by rw [L.dn];lia
     by_cases c3:n<500
     ·obtain⟨g,r,ea,gp,L'⟩:=L.wait h0 hm h1 h5 (by lia) c3
      obtain⟨n1,n2⟩:=zv L.st ea no (hp c3)
      refine⟨nu L.st ea dn no B λ_=>gp,by rw [n1];simp,.inl ⟨by lia,?_⟩⟩
      rw [n2];exact L'
     ·obtain⟨r,ea,_⟩:=L.head h1 (by lia)
      have e5:n=500:=by lia
      have h5':(s.clk mo).hap=500:=by rw [L.clk h0];show s.hap=500;rw [L.hap,e5];rfl
      obtain⟨n1,n2⟩:=GR L.st ea no h5'
      refine⟨nu L.st ea dn no B λz=>absurd h5' z,by rw [n1];simp,.inr ⟨by lia,s,by rw [<-e5];exact L,?_⟩⟩
      rw [n2,L.clk h0]
      rcases L.now with ⟨z,_⟩ | e
      ·lia
      ·rw [<-e];rfl
  ·lia
 ·rcases i with ⟨z,_⟩ | ⟨_,s',L,rfl⟩
  ·lia
  ·refine⟨?_,λz=>by cases z⟩
   show s'.done<=_
   rw [L.dn];lia
 ·rcases i with ⟨z,_⟩ | ⟨z,_⟩<;>lia
theorem zx(h5:h<=5)(h0:0<=mo)(hm:mo<=1000)(i:LoJ h b mo 501 s):iq s/\s.st=some [.str "long"]/\s.lg=loL h b mo 500/\Wo.Bd s.now/\s.done=min 500 (h+b)/\s.hd.map (·.1)=(List.range (min 500 h)).map (λ(i:Nat)=>(i:Int)+1)/\s.sl=some (((min 500 (h+b)-h:Nat):Int),999)/\(∀p∈s.hd,p.2.nm= "main"/\(p.2.row=0\/p.2.row=4))/\∀p∈s.ag,p.1=mo/\0<=p.2/\p.2<=6:=by
 rcases i with ⟨z,_⟩ | ⟨_,s',L,rfl⟩
 ·lia
 ·obtain⟨x,y,_⟩:=L.hn' h5
  have la:=congrArg List.length L.ag
  have lh:=congrArg List.length L.hn
  rw [MQ,Nh] at la
  rw [MQ,MQ,Nh] at lh
  refine⟨⟨x,y,by show s'.hd.length<64;lia,by show s'.ag.length<64;lia⟩,rfl,L.lg,?_,L.dn,L.hn,L.sl,L.rw,λp hp=>?_⟩
  ·show Wo.Bd s'.now
   unfold Wo.Bd
   rcases L.now with ⟨z,_⟩ | e
   ·cases z
   ·rw [e];lia
  ·have hp:p∈s'.ag:=hp
   rw [L.ag] at hp
   obtain⟨i,hi,rfl⟩:=List.mem_map.mp hp
   have:=List.mem_range.mp hi
   have:=NF ((500-(h+b)+i:Nat):Int) (show(0:Int)<h by lia)
   exact⟨rfl,by lia,by lia⟩
end
def Ly(n:Nat)(d:OQ):Prop:=d.canLay0=true/\d.depth<=n
theorem zy(h:∀d∈l,Ly n d):OQ.canLayAll0 l=true/\OQ.depthAll l<=n:=by
 induction l with
 | nil=>exact⟨rfl,Nk _⟩
 | cons x r ih=>
  obtain⟨i1,i2⟩:=ih λd hd=>h d (MV _ hd)
  obtain⟨h1,h2⟩:=h x MU
  refine⟨by simp only [OQ.canLayAll0,h1,i1,Bool.and_true],?_⟩
  simp only [OQ.depthAll];lia
theorem dP{n:Nat}(h:(d.canLay0&&Nat.ble d.depth n)=true):Ly n d:=by
 rw [M0] at h
 exact⟨h.1,MP h.2⟩
theorem G7(h:∀d∈l,Ly n d):Ly (n+1) (.tuple l):=by
 obtain⟨h1,h2⟩:=zy h
 exact⟨by rw [OQ.canLay0];exact h1,by simp only [OQ.depth];lia⟩
theorem kS(h:∀d∈l,Ly n d):Ly (n+1) (.list l):=by
 obtain⟨h1,h2⟩:=zy h
 exact⟨by rw [OQ.canLay0];exact h1,by simp only [OQ.depth];lia⟩
theorem qY(h:Ly n d)(l:n<=64):SeqAt.shaped d=true:=by
 unfold SeqAt.shaped
 rw [h.1];exact decide_eq_true (Nat.le_trans h.2 l)
theorem vI(h:∀d∈s.hd.map hdD,Ly 8 d):SeqAt.shaped (.tuple (.int s.now::fw P s))=true:=by
 refine qY (n:=10) (G7 λd hd=>?_) (by decide)
 have tl:∀o:Option Int,Ly 9 (.list (o.toList.map tlD)):=λo=>kS λd hd=>by
  obtain⟨x,_,rfl⟩:=List.mem_map.mp hd;exact dP (by kernel_rfl)
 unfold fw at hd
 simp only [Na,MT,or_false] at hd
 rcases hd with rfl | rfl | rfl | rfl | rfl | rfl
 ·exact dP (by kernel_rfl)
 ·exact kS h
 ·exact tl _
 ·exact tl _
 ·exact dP (by kernel_rfl)
 ·refine kS λd hd=>?_
  obtain⟨x,_,rfl⟩:=List.mem_map.mp hd
  exact dP (by kernel_rfl)
theorem iT:Ly 8 (hdD (n,⟨"main",r⟩)):=dP (by kernel_rfl)
structure Hm where
 x:Str
 ns:List Str
 bd:List OQ
 sm:List Sm
def Hm.n(h:Hm):Hn:=⟨h.x,h.ns,h.sm⟩
def Hm.d(h:Hm):OQ:=.tuple [.str h.x,.list (h.ns.map .str),.list h.bd]
structure Hm.Ok(h:Hm):Prop where
 l:h.ns.length<=9
 sz:Sz 7 (.list h.bd)
 fz:frz (.list h.bd)= .tuple (bdD h.sm)
noncomputable def prD(t:Option Int)(s:Option (Int×Int))(hs:List Hm):OQ:=.tuple [.list (t.toList.map λn=>.tuple [.str "jig",.int n]),.list (s.toList.map λp=>.tuple [.str "bin",.int p.1,.int p.2]),.list [],.list (hs.map Hm.d)]
section
variable{C:CA}{K:N5}{H:Hp}
theorem Br{l:List Str}(h:RpL K H vs (l.map .str)):vs=l.map .str:=by
 induction l generalizing vs with
 | nil=>cases h;rfl
 | cons x r ih=>
  cases h with | cons a b=>
  cases a
  rw [ih b];rfl
theorem G8{hs:List Hm}(r:RpL K H vs (hs.map Hm.d))(ok:∀h∈hs,h.Ok):HnL K H vs (hs.map Hm.n):=by
 induction hs generalizing vs with
 | nil=>cases r;exact .nil
 | cons h hs ih=>
  cases r with | cons a r=>
  refine .cons ?_ (ih r λx hx=>ok x (MV _ hx))
  have o:=ok h MU
  cases a with | tup e l=>
  cases l with | cons a1 l=>cases l with | cons a2 l=>cases l with | cons a3 l=>
  cases l
  cases a1
  cases id a3 with | lst e3 l3=>
  cases a2 with | lst e2 l2=>
  cases Br l2
  exact⟨_,_,_,h.bd,rfl,e,e2,o.l,a3,o.sz,o.fz⟩
theorem IH(e1:H a=some (.lst xs))(l1:RpL K H xs (t.toList.map λn=>.tuple [.str "jig",.int n])):∃t':Option (Addr×Int),PtO H a t'/\t'.map (·.2)=t:=by
 cases t with
 | none=>cases l1;exact⟨none,e1,rfl⟩
 | some n=>
  cases l1 with | cons b l1=>
  cases l1
  cases b with | tup e l=>
  cases l with | cons b1 l=>cases l with | cons b2 l=>
  cases l;cases b1;cases b2
  exact⟨some (_,n),⟨e1,e⟩,rfl⟩
theorem II(e2:H a=some (.lst xs))(l2:RpL K H xs (s.toList.map λp=>.tuple [.str "bin",.int p.1,.int p.2])):∃s':Option (Addr×Int×Int),PsO H a s'/\s'.map (·.2)=s:=by
 cases s with
 | none=>cases l2;exact⟨none,e2,rfl⟩
 | some n=>
  cases l2 with | cons b l2=>
  cases l2
  cases b with | tup e l=>
  cases l with | cons b1 l=>cases l with | cons b2 l=>cases l with | cons b3 l=>
  cases l;cases b1;cases b2;cases b3
  exact⟨some (_,n.1,n.2),⟨e2,e⟩,rfl⟩
theorem kT{hs:List Hm}(r:Rp K H v (prD t s hs))(ok:∀h∈hs,h.Ok)(l:hs.length<=9)(nd:(hs.map (·.x)).Nodup):∃pp t' s',v= .ref pp/\PrgH K H pp t' s' (hs.map Hm.n)/\t'.map (·.2)=t/\s'.map (·.2)=s:=by
 cases r with | tup e0 l0=>
 cases l0 with | cons a1 l0=>cases l0 with | cons a2 l0=>cases l0 with | cons a3 l0=>cases l0 with | cons a4 l0=>
 cases l0
 cases a1 with | lst e1 l1=>
 cases a2 with | lst e2 l2=>
 cases a3 with | lst e3 l3=>
 cases a4 with | lst e4 l4=>
 cases l3
 obtain⟨t',h1,h1'⟩:=IH e1 l1
 obtain⟨s',h2,h2'⟩:=II e2 l2
 refine⟨_,t',s',rfl,⟨_,_,_,_,_,e0,h1,h2,e3,e4,G8 l4 ok,by rw [MQ];exact l,by rw [NK];exact nd⟩,h1',h2'⟩
theorem iy{hs:List Hn}(prg:PrgH K H pp t s hs)(ou:Rp K H (.ref po) (.list od))(sz:Sz 7 (.list od))(fz:frz (.list od)= .tuple (out.map Ot.D))(R:RunI (dO hs t out) 4 3 (ys0 s) k I)(l:k<mo)
 (q:∀r c y tg H',Same H H'->H' r=some (.lst [.ref c.y,.int (k:Nat)])->tg r=0->Yd C K (dO hs t out) H' c y tg->I k y->(∀x,tg x≠0->H x=none)->Q (.ref r) H'):jx C K 4 3 [.ref pp,.ref po,.bl hp,.int (mo:Nat)] H Q E:=by
 refine⟨⟨pp,po,hp,mo,t,s,hs,out,od,I⟩,rfl,⟨prg,ou,sz,fz,R.z,λn s _ i=>R.st (mo:=0) s i⟩,λv H' z=>?_⟩
 obtain⟨g,r,c,y,tg,n,rfl,er,tz,Y,i,o,nw⟩:=z
 obtain⟨rfl,i⟩:=R.last i o l
 exact q r c y tg H' g er tz Y i nw
theorem dZ(Y:Yd C K P H c s tg)(dn:s.done<=P.out.length)(vw:iq s)(es:s.st=some st)(fs:Fz K H v (.tuple st))(lg:Rp K H (.ref la) (.list s.lg))(s1:SeqAt.shaped (.tuple st)=true)(s2:∀d∈s.lg,Ly 8 d)(s3:∀d∈s.hd.map hdD,Ly 8 d)(q:∀H',Same H H'->Q (.bl true) H'):fS C K [.ref c.y,v,.ref la] H Q E:=
 ⟨(⟨P,c,s,tg⟩,v,la,st),rfl,⟨Y,dn,es,fs,lg,vw,s1,qY (kS s2) (by decide),vI s3⟩,λ_ H' z=>by rw [z.1];exact q H' z.2⟩
end
def spT:Sp:=spG (A:=Int) (λc=>[.int c]) (λ_ _=>True) (λ_ H v H'=>v= .bl true/\Same H H')
theorem cu(r:Rp K H v (.list ds)):∃l xs,v= .ref l/\H l=some (.lst xs)/\RpL K H xs ds:=by
 cases r with | lst e l=>exact⟨_,_,rfl,e,l⟩
def stQ(e:Tr)(i n:Nat):List OQ:=(((stP e).map (·.1)).drop i).take n
noncomputable def byM(d:OQ)(x:Sm):List Hm:=[⟨"main",[],[.tuple [.str "say",.int 4,.str "hey",nuD 7],d],byS x⟩,⟨"aid",["a","c"],[],[]⟩]
theorem G9(sb:StB st d x):∀h∈byM d x,h.Ok:=λh hh=>by
 simp only [byM,Na,MT,or_false] at hh
 rcases hh with rfl | rfl
 ·refine⟨Nk _,.list (MP rfl) (mc (bZ rfl) (mc sb.sz mn)),?_⟩
  simp only [frz,bC,sb.fz];rfl
 ·exact⟨MP rfl,bZ rfl,by simp only [frz,bC,bdD]⟩
noncomputable def byD(mo:Int):List OQ:=[.tuple [.int mo,.str "start",.str "main",.list []],.tuple [.int mo,.str "bring",.str "bin",.int 1]]
theorem Hb:frz (.list (byD mo))= .tuple ((byO mo).map Ot.D):=by simp only [byD,byO,frz,bC,Ng,N0,Ot.D]
theorem HnL.same{hs:List Hn}(h:HnL K H vs hs)(g:Same H H'):HnL K H' vs hs:=by
 induction h with
 | nil=>exact .nil
 | cons a _ ih=>
  obtain⟨ph,pn,pb,bd,e,a1,a2,a3,a4,a5,a6⟩:=a
  exact .cons ⟨ph,pn,pb,bd,e,g _ _ a1,g _ _ a2,a3,Rp.mono g a4,a5,a6⟩ ih
theorem PrgH.same{hs:List Hn}(h:PrgH K H pp t s hs)(g:Same H H'):PrgH K H' pp t s hs:=by
 obtain⟨p0,p1,p2,p3,vs,k1,k2,k3,k4,k5,k6,k7,k8⟩:=h
 exact⟨p0,p1,p2,p3,vs,g _ _ k1,k2.same g,k3.same g,g _ _ k4,g _ _ k5,k6.same g,k7,k8⟩
theorem B7(mo:Int)(st:List OQ):iq (byZ mo st):=⟨tN,.cons (λ_ h=>by cases h) .nil,of_decide_eq_true rfl,of_decide_eq_true rfl⟩
theorem IJ(mo:Int):∀d∈byL mo,Ly 8 d:=mc (dP (by kernel_rfl)) (mc (dP (by kernel_rfl)) (mc (dP (by kernel_rfl)) mn))
section
variable{C:CA}{K:N5}{P:OR}{w:OV}{mg:Str->Option OL}{base:Heap}
theorem jR{P:Pr}(e:σ[i]? =some (some (.ref c.y)))(Y:Yd C K P H c s tg)(vw:iq s)(q:∀v H',Same H H'->Rp K H' v (.tuple (.int s.now::fw P s))->Q v H'):nS C.y "view" (ir C K) (dF i) fF σ H Q:=⟨_,e,_,_,_,rfl,Y.obj,rfl,⟨P,c,s,tg⟩,rfl,⟨Y,vw⟩,λv H' z=>q v H' z.1 z.2⟩
theorem IK(D:DefAt K mg "_law_by_expression" fo ["cell"])(JT:OkD P w K mg base 1 "_law_stir" ["cell","k"] iw)(LJ:OkD P w K mg base 2 "_law_bad" ["cell"] (B6 K))(Kd:OkD P w K mg base 27 "_law_goes" ["program","outer","heap","most"] (jx C K 4 3))(Kb:OkD P w K mg base 27 "_law_stands" ["yard","stop","log"] (fS C K))(JS:OkM P w K mg base 3 C.y "view" ["self"] (ir C K)):OkD P w K mg base 30 "_law_by_expression" ["cell"] spT:=by
 refine D.okG aK (λ_=>rfl) λa f cdv A outer s0 H Q E hr p q=>?_
 have hu64:=hr.units
 refine⟨_,(aa (cr (aH LJ hr rfl (aB (pv 0))) (bF 2 rfl (aE (aX 1 aK) (aE (aX 2 aK) bq)))) (aa (aP 3 aK (ad (aA ae ab))) (aa (aP 4 aK (aq (aU (ad (bc ae ab (pv 1))) (ad (aU ae ab ae (pv 1))) (ad (aU ae ab ae (pv 1))) (ad (aU ae ab ae (pv 1)))))) (aa (aP 4 aK (aw cz (pv 4) (aq (bc (ad (aU ae ab ae (pv 1))) (ad (aU ae ab ae (pv 1))) (ad (aU ae ab ae (pv 1))))))) (aa (aP 4 aK (aw cz (pv 4) (aq (aA (ad (aU ae ab ae (aq (aA (pv 3) (pv 1))))) (ad (cT ae (cT ab (cT ae (aU (pv 1) (pv 3) (aq aL) (aq aL)))))))))) (aa (aP 4 aK (aw cz (pv 4) (aq (aA (ad (cT ae (cT ab (aU ae (pv 3) (pv 1) (aq aL))))) (ad (aU ae ab ae (aq (aA (pv 1) (pv 3))))))))) (aa (aP 5 aK (aq (aB (ad (aU ae ab ae (ad (aA ae ab))))))) (aa (aP 6 aK (aq (aA (ad (bc ae (aq aL) (aw cz (pv 5) (aq (aB (ar (pv 4) (aw br (aH JT hr rfl (aA (pv 0) ab)) ab))))))) (ad (bc ae (aq (aA ae ae)) (aq aL)))))) (aa (aP 7 aK (ad (aU (aq (aB (ad (aA ae ab)))) (aq (aB (ad (bc ae ab ab)))) (aq aL) (pv 6)))) (aa (aP 8 aK (aw br (aH JT hr rfl (aA (pv 0) ab)) ab)) (aa (aP 9 aK (aq (aA (ad (aU (pv 8) ae ae (aq aL))) (ad (aU (pv 8) ae ae ab))))) (aa (cr (aH Kd hr rfl (aU (pv 7) (pv 9) (cv bi (aw br (pv 0) ab) ab) ab)) (jg 2 rfl (aE (aX 10 aK) (aE (aX 11 aK) bq)))) (aa (aP 12 aK (aq (aA (ad (aU (pv 8) ab ae ae)) (ad (cT (pv 8) (aU ab ae ae ab)))))) (aa (aO (cy (pv 12) (ad (cT (pv 8) (aU ab ae ae ab))))) (aa (aJ (PW.pt (kW (aM nK (pv 11) ab) (j5 (dv (bX (aH Kb hr rfl (bc (pv 10) (pv 2) (pv 12)))))))) (ac (az ci)) aG) (ac (az (cv (gT hu64) (aW JS hr (pv 10)) (ad (cT (pv 8) (cT (aq (aB (ad (aU ab ae ab (aq aL))))) (aU (aq (aB (ad (bc ab (aq aL) (aq aL))))) (aq (aB (ad (bc ab (aq aL) (aq aL))))) (aq aL) (aq aL))))))))))))))))))))))),?_⟩
 symm
 refine⟨a,rfl,trivial,λv H1 z=>?_⟩
 obtain⟨S1,n,d,n1,n2,hd,r1⟩:=z
 rw [DP] at hd
 obtain⟨⟨e,st⟩,hp,rfl⟩:=List.mem_map.mp hd
 have B:=DQ n1 n2 _ hp
 obtain⟨p1,xs,rfl,e1,l1⟩:=bm r1
 cases l1 with | cons re l1=>cases l1 with | cons rs l1=>
 cases l1
 dsimp only at B re rs
 clear r1 hd hp
 symm
 dsimp +zetaDelta only [bW,cS,cG,dQ]
 intro p2 H2 _ g2 e2
 have rg:Rp K (id H2) (.ref p2) (nuD 1):=.tup e2 (.cons (.str _) (.cons (.int _) .nil))
 replace re:Rp K (id H2) _ (trD e):=Rp.mono g2 (xb re)
 replace rs:=a8 (Kt.of g2) rs
 replace S1:=S1.trans g2
 clear g2 e2 e1
 refine DE.use (K:=K) (R:=id) (d:=.list (stQ e 0 4)) (by repeat infer_instance) λv4 H3 g3 r4=>?_
 replace rg:=Rp.mono g3 rg
 replace re:=Rp.mono g3 re
 refine DE.use (K:=K) (R:=id) (d:=.list (stQ e 0 4++stQ e 4 3)) (by repeat infer_instance) λv4 H4 g4 r4=>?_
 replace rg:=Rp.mono g4 rg
 replace re:=Rp.mono g4 re
 refine DE.use (K:=K) (R:=id) (d:=.list (stQ e 0 4++stQ e 4 3++stQ e 7 2)) (by repeat infer_instance) λv4 H5 g5 r4=>?_
 replace rg:=Rp.mono g5 rg
 replace re:=Rp.mono g5 re
 refine DE.use (K:=K) (R:=id) (d:=.list (stQ e 0 4++stQ e 4 3++stQ e 7 2++stQ e 9 2)) (by repeat infer_instance) λv4 H6 g6 r4=>?_
 clear rg re
 refine DE.use (K:=K) (R:=id) (d:=.list [.tuple [.str "say",.int 4,.str "hey",nuD 7]]) (by repeat infer_instance) λv5 H7 g7 r5=>?_
 replace r4:Rp K H7 v4 (.list ((stP e).map (·.1))):=Rp.mono g7 r4
 replace S1:=((((S1.trans g3).trans g4).trans g5).trans g6).trans g7
 replace rs:=a8 (Kt.of ((((g3.trans g4).trans g5).trans g6).trans g7)) rs
 clear g3 g4 g5 g6 g7
 obtain⟨l4,x4,rfl,e4,q4⟩:=cu r4
 obtain⟨l5,x5,rfl,e5,q5⟩:=cu r5
 clear r4 r5
 symm
 intro a1 H8 _ g8 h1
 have e4':=g8 _ _ e4
 have e5':=g8 _ _ e5
 clear e4 e5
 symm
 refine⟨a,5,rfl,by decide,by decide,λm _ _=>?_⟩
 symm
 obtain⟨k,ek,lk⟩:∃k:Nat,m%11=(k:Int)/\k<x4.length:=⟨(m%11).toNat,by lia,by rw [bw q4];show _<11;lia⟩
 obtain⟨d,hd,rd⟩:=oM q4 (MR lk)
 obtain⟨⟨d,x⟩,hp,rfl⟩:=List.mem_map.mp hd
 have sb:=GW B _ hp
 dsimp only at sb rd
 replace rd:=Rp.mono g8 rd
 refine⟨x4[k],by rw [ek];exact cH (MR lk),?_⟩
 generalize x4[k]=u at rd⊢
 clear hp hd q4 e4' ek lk
 symm
 intro b1 H9 _ g9 h2
 have e5:=g9 _ _ e5'
 clear e5'
 symm
 refine⟨by (rw [bw q5];exact MP rfl),λb2 H10 _ g10 h3=>?_⟩
 replace q5:=gQ (RpL.mono ((g8.trans g9).trans g10) q5) (.cons (Rp.mono (g9.trans g10) rd) .nil)
 replace h1:=g10 _ _ (g9 _ _ h1)
 clear h2 e5 rd
 symm
 intro b3 H11 _ g11 h4
 have rm:Rp K H11 (.ref b3) (Hm.d ⟨"main",[],[.tuple [.str "say",.int 4,.str "hey",nuD 7],d],byS x⟩):=.tup h4 (.cons (.str _) (.cons (.lst (g11 _ _ h1) .nil) (.cons (.lst (g11 _ _ h3) (RpL.mono g11 q5)) .nil)))
 clear h4 h1 h3 q5
 refine DA.use (K:=K) (R:=id) (ds:=[Hm.d ⟨"aid",["a","c"],[],[]⟩]) (by repeat infer_instance) λvs H12 g12 r12=>?_
 replace rm:=RpL.cons (Rp.mono g12 rm) r12
 clear r12
 refine⟨jA rm (MP rfl),λl6 H13 _ g13 e13=>?_⟩
 have r6:Rp K (id H13) (.ref l6) (.list ((byM d x).map Hm.d)):=.lst e13 (RpL.mono g13 rm)
 clear e13 rm
 dsimp only
 refine DE.use (K:=K) (R:=id) (d:=prD (some 2) (some (3,5)) (byM d x)) (by repeat infer_instance) λv7 H14 g14 r7=>?_
 clear r6
 obtain⟨pp,t',s',rfl,prg,et,es⟩:=kT r7 (G9 sb) (MP rfl) (show(["main","aid"]:List Str).Nodup by decide)
 replace S1:=(((((((S1.trans g8).trans g9).trans g10).trans g11).trans g12).trans g13).trans g14)
 replace rs:=a8 (Kt.of ((((((g8.trans g9).trans g10).trans g11).trans g12).trans g13).trans g14)) rs
 clear r7 g8 g9 g10 g11 g12 g13 g14
 symm
 refine⟨a,6,rfl,by decide,by decide,λm2 _ _=>?_⟩
 obtain⟨mo,emo,mo0,mo1⟩:∃mo:Int,m2%1001=mo/\0<=mo/\mo<=1000:=⟨_,rfl,by lia,by lia⟩
 refine⟨m2,rfl,1001,rfl,(by decide:(0:Int)<1001),?_⟩
 dsimp only
 rw [emo]
 clear emo
 refine DE.use (K:=K) (R:=id) (d:=.list (byD mo)) (by repeat infer_instance) λv9 H15 g15 r9=>?_
 obtain⟨l9,x9,rfl,e9,_⟩:=cu r9
 replace prg:=prg.same g15
 symm
 refine iy prg r9 (bZ rfl) Hb (GZ sb mo0 mo1 es) (by decide) λr c y tg H16 g16 er tz Y i nw=>?_
 have ey:y=byZ mo st:=by
  rcases i with ⟨z,_⟩ | ⟨z,_⟩ | ⟨z,_⟩ | ⟨_,z⟩
  ·cases z
  ·cases z
  ·cases z
  ·exact z
 subst ey
 replace S1:=(S1.trans g15).trans g16
 replace rs:=a8 (Kt.of (g15.trans g16)) rs
 clear i prg r9 e9 g15 g16
 refine⟨r,rfl,_,er,rfl,?_⟩
 dsimp +zetaDelta only [vO,zF,bW,cS,cG,dQ]
 refine⟨_,_,rfl,_,_,rfl,rfl,?_⟩
 simp only [M5,M6]
 refine DA.use (K:=K) (ds:=(byL mo).take 2) (by repeat infer_instance) λvs H17 g17 r17=>⟨jA r17 (MP rfl),λlo H18 nlo g18 e18=>?_⟩
 have tlo:tg lo=0:=Y.tg.off ((g17.free nlo))
 replace r17:=a0 (Kt.of g18) r17
 replace Y:=Y.same (g17.trans g18)
 replace rs:=a8 (Kt.of (g17.trans g18)) rs
 have nlo:H lo=none:=S1.free (g17.free nlo)
 replace S1:=S1.trans (g17.trans g18)
 clear g17 g18 er
 dsimp only
 refine ix (d:=rw4 mo 1 [.str "says",.str "hey",.int 7]) rfl e18 r17 (MP rfl) (by repeat infer_instance) λys H19 e19 r19 o19 k19=>?_
 replace Y:=Y.fr1 o19 tlo e18
 replace rs:=a8 k19 rs
 have S1:Same H H19:=λc u h=>o19 c u (λz=>by rw [z,nlo] at h;cases h) (S1 _ _ h)
 clear r17 e18 o19 k19
 symm
 apply bz (by decide)
 symm
 refine dZ Y (Nat.le_refl 2) (B7 mo st) rfl rs (jy e19 r19) B.st (IJ mo) (λd hd=>by cases List.mem_singleton.mp hd;exact iT) λH20 g20=>?_
 refine⟨true,rfl,?_⟩
 dsimp only
 apply bz (by decide)
 refine jR rfl (Y.same g20) (B7 mo st) λv H21 g21 r21=>?_
 refine DE.use (K:=K) (R:=id) (d:=.tuple (.int mo::fw (dO (byH x) t' (byO mo)) (byZ mo st))) (by (unfold fw;rw [show(dO (byH x) t' (byO mo)).tl=some 2 from et];repeat infer_instance)) λv2 H22 g22 r22=>?_
 refine fR (Rp.mono g22 r21) r22 (vI λd hd=>by cases List.mem_singleton.mp hd;exact iT) ?_
 have q':=q _ _ ⟨rfl,((S1.trans g20).trans g21).trans g22⟩
 symm
end
mutual
def noL:OQ->Bool
 | .list _=>false
 | .tuple l=>noA l
 | _=>true
def noA:List OQ->Bool
 | []=>true
 | d::r=>noL d&&noA r
end
mutual
theorem lG{K:N5}{H:Hp}:∀{v:V} {d:OQ},noL d=true->Rp K H v d->Fz K H v d
 | _,_,_,.non=>.non
 | _,_,_,.bl _=>.bl _
 | _,_,_,.int _=>.int _
 | _,_,_,.str _=>.str _
 | _,_,n,.lst _ _=>by unfold noL at n;cases n
 | _,_,n,.tup e l=>.tup (dj e) (oR (by unfold noL at n;exact n) l)
theorem oR{K:N5}{H:Hp}:∀{vs:List V} {ds:List OQ},noA ds=true->RpL K H vs ds->FzL K H vs ds
 | _,_,_,.nil=>.nil
 | _,_,n,.cons a l=>by
  unfold noA at n
  rw [M0] at n
  exact .cons (lG n.1 a) (oR n.2 l)
end
theorem vJ(h:∀i,noL (F i)=true)(l:List Nat):noA (l.map F)=true:=by
 induction l with
 | nil=>rfl
 | cons a r ih=>rw [Ng];unfold noA;rw [h,ih];rfl
theorem Hc(hv:σ[i]? =some (some (.ref l)))(el:H l=some (.lst xs))(n:xs.length<1000)(h:DE K R H σ te d)(q:∀v H1 H2,Same H H1->Rp K (R H1) v d->Mu H1 l (.lst (xs++[v])) H2->Q .non H2):qP (dF i) te σ H Q:=
 ⟨.ref l,hv,l,xs,rfl,el,DE.use h λv H1 g1 r1=>⟨xs,g1 _ _ el,by unfold ON;lia,λH2 m=>q v H1 H2 g1 r1 m⟩⟩
noncomputable def tP(k:Nat):OQ:=.tuple [.str "say",.int (2+(k:Int)),.str "hey",nuD k]
noncomputable def tQ(b k:Nat):OQ:=.tuple [.str "say",.int (3+(b:Int)+(k:Int)),.str "ho",.tuple [.str "now"]]
def tR(c:Bool):List OQ:=[.str (cond c "<" "="),trD (cond c (.num 1) .own),trD (cond c (.num 2) (.num 1))]
def nB(b m:Nat)(c:Bool):OQ:=.tuple ([.str "while",.int (2+(b:Int))]++tR c++[.list ((List.range m).map (tQ b))])
def enM(b m:Nat)(c:Bool):List Hm:=[⟨"main",[],(List.range b).map tP++[nB b m c],enS b m c⟩]
noncomputable def enO:List OQ:=[.tuple [.int 9,.str "start",.str "main",.list []],.tuple [.int 10,.str "start",.str "main",.list []]]
noncomputable def enY(k:Nat):OQ:=rw4 9 1 [.str "says",.str "hey",.int k]
def EnI(K:N5)(a:Int)(m b:Nat)(v3 v4 v5 v6:V)(l7:Addr)(H6:Hp)(n:Nat)(σ:_L.St)(H:Hp):Prop:=∃(ys:List V) (L:List OQ) (row:Int) (k:Option V) (fu:Nat),σ= [some (.int a),some (.int m),some (.int b),some v3,some v4,some v5,some v6,some (.ref l7),some (.int n),some (.int row),k,none,none,none]/\Same H6 H/\H l7=some (.lst ys)/\FzL K H ys L/\L.length+n<=100/\n<=fu/\enW b m fu L n row=enR b m
noncomputable def enH:OQ:=rw4 9 1 [.str "says",.str "ho",.int 9]
noncomputable def enK(b i:Nat):Int:=if i=0 then 2+(b:Int) else 3+(b:Int)+((i-1:Nat):Int)
def EnJ(K:N5)(a:Int)(m b:Nat)(v3 v4 v5 v6:V)(l7:Addr)(H6:Hp)(n:Nat)(L:List OQ)(i:Nat)(σ:_L.St)(H:Hp):Prop:=∃(ys:List V) (k:Option V),σ= [some (.int a),some (.int m),some (.int b),some v3,some v4,some v5,some v6,some (.ref l7),some (.int n),some (.int (enK b i)),k,none,none,none]/\Same H6 H/\H l7=some (.lst ys)/\FzL K H ys (L++Nd i enH)
theorem pO:frz (.tuple [.str "say",.int k,.str w,trD e])=smD (.pl "say" k [w] [e]):=by
 simp only [frz,bC,gz,smD,plD]
 rw [Tf (by decide)];rfl
theorem tS(h:∀i,frz (F i)=smD (G i))(n:Nat):bC ((List.range n).map F)=bdD ((List.range n).map G):=by
 rw [du,gO,NK,NK]
 exact NV λi _=>h i
theorem He(b m:Nat)(c:Bool)(hb:b<=9)(hm:m<=10):∀h∈enM b m c,h.Ok:=λh hh=>by
 cases List.mem_singleton.mp hh
 have s1:∀i,Sz 6 (tP i):=λi=>bZ rfl
 have s2:∀i,Sz 4 (tQ b i):=λi=>bZ rfl
 have s3:Sz 6 (nB b m c):=.tuple (MP rfl) (mc (.str _) (mc (.int _) (mc (.str _) (mc (qX (by cases c<;>exact Nk _)) (mc (qX (by cases c<;>exact Nk _)) (mc (.list (by rw [MQ,Nh];lia) λz hz=>by
  obtain⟨i,_,rfl⟩:=List.mem_map.mp hz
  exact s2 i) mn))))))
 refine⟨Nk _,.list (by rw [MW,MQ,Nh];show b+1<=1000;lia) λz hz=>?_,?_⟩
 ·rcases List.mem_append.mp hz with hz | hz
  ·obtain⟨i,_,rfl⟩:=List.mem_map.mp hz
   exact s1 i
  ·cases List.mem_singleton.mp hz;exact s3
 ·have e1:bC ((List.range b).map tP)=bdD ((List.range b).map λ(k:Nat)=>.pl "say" (2+(k:Int)) ["hey"] [.num k]):=tS (λi=>pO (e:=.num i)) b
  have e2:bC ((List.range m).map (tQ b))=bdD ((List.range m).map λ(k:Nat)=>.pl "say" (3+(b:Int)+(k:Int)) ["ho"] [.now]):=tS (λi=>pO (e:=.now)) m
  show OQ.tuple (bC _)= .tuple (bdD (enS b m c))
  unfold enS
  rw [du,MX,<-du,e1,gO,gO,MX]
  refine congrArg OQ.tuple (congrArg (_++ ·) ?_)
  show [frz (nB b m c)]= [smD _]
  have e3:frz (nB b m c)= .tuple [.str "while",.int (2+(b:Int)),.str (cond c "<" "="),frz (trD (cond c (.num 1) .own)),frz (trD (cond c (.num 2) (.num 1))),.tuple (bC ((List.range m).map (tQ b)))]:=by
   simp only [nB,tR,NN,NO,frz,bC]
  rw [e3,gz,gz,e2]
  simp only [smD]
theorem Hf:frz (.list enO)= .tuple ([Ot.start 9 "main",.start 10 "main"].map Ot.D):=by simp only [enO,frz,bC,Ng,N0,Ot.D]
theorem Hg(h:∀d∈L,Ly 8 d):∀d∈(enW b m f L n r).1,Ly 8 d:=by
 induction f generalizing L n r with
 | zero=>exact h
 | succ f ih=>
  unfold enW
  split
  ·exact h
  ·refine ih λd hd=>?_
   rcases List.mem_append.mp hd with hd | hd
   ·exact h d hd
   ·rw [List.eq_of_mem_replicate hd];exact dP (by kernel_rfl)
theorem IL(b m:Nat):∀d∈rw4 9 1 [.str "begins",.str "main"]::(enR b m).1,Ly 8 d:=λd hd=>by
 rcases List.mem_cons.mp hd with rfl | hd
 ·exact dP (by kernel_rfl)
 ·refine Hg (λd hd=>?_) d hd
  obtain⟨i,_,rfl⟩:=List.mem_map.mp hd
  exact dP (by kernel_rfl)
theorem pP(r:Rp K H v (.tuple (n::d::ds)))(q:∀u,Rp K H u d->Q u H):o0 v (.int 1) H Q:=by
 cases r with | tup e l=>cases l with | cons _ l=>cases l with | cons a l=>
 exact⟨_,_,_,_,rfl,rfl,.inl e,cH rfl,q _ a⟩
theorem tT{R:Hp->Hp}{i:Int}(s:Same (R H) H)(r:Rp K (R H) v (.list ds))(h0:0<=i)(h1:i<ds.length)(q:∀u d,d∈ds->Rp K (R H) u d->Q u H):o0 v (.int i) H Q:=by
 obtain⟨l,xs,rfl,e,l⟩:=cu r
 obtain⟨k,rfl⟩:∃k:Nat,i=k:=⟨i.toNat,by lia⟩
 have lk:k<xs.length:=by rw [bw l];lia
 obtain⟨d,hd,rd⟩:=oM l (MR lk)
 exact⟨_,_,_,_,rfl,rfl,.inr (s _ _ e),cH (MR lk),q _ d hd rd⟩
section
variable{C:CA}{K:N5}{P:OR}{w:OV}{mg:Str->Option OL}{base:Heap}
theorem IM(D:DefAt K mg "_law_endless" js ["cell"])(JT:OkD P w K mg base 1 "_law_stir" ["cell","k"] iw)(Kd:OkD P w K mg base 27 "_law_goes" ["program","outer","heap","most"] (jx C K 4 3))(Kb:OkD P w K mg base 27 "_law_stands" ["yard","stop","log"] (fS C K))(JS:OkM P w K mg base 3 C.y "view" ["self"] (ir C K))(Kk:mg "range" =none)(LO:mg "min" =none):OkD P w K mg base 30 "_law_endless" ["cell"] spT:=by
 refine D.okG sc__law_endless (λ_=>rfl) λa f cdv A outer s0 H Q E hr p q=>?_
 have hu64:=hr.units
 refine⟨_,(aa (aP 1 sc__law_endless (aw br (aH JT hr rfl (aA (pv 0) ab)) ab)) (aa (nI (i:=2) sc__law_endless.nd rfl (Or.inr rfl) (aw br (aH JT hr rfl (aA (pv 0) ab)) ab)) (aa (dL (i:=3) sc__law_endless.nd rfl (Or.inl rfl) (ce 1 (N:=["k"]) (cap:=[]) rfl rfl rfl rfl (by decide) rfl rfl rfl) rfl (bT rfl Kk (aB (pv 2))) (λ_ _ _ _=>(dw (i:=0) (show List.Nodup (α:=Str) ["k"] by decide) rfl (Or.inl (OS rfl)) (Or.inr (OS rfl)))) (λ_ _ _ _=>bv) (λ_ _ _ _=>(ad (aU ae (aw aY ab (pv 0)) ae (ad (aA ae (pv 0))))))) (aa (dL (i:=4) sc__law_endless.nd rfl (Or.inl rfl) (ce 1 (N:=["k","before"]) (cap:=[2]) rfl rfl rfl rfl (by decide) rfl rfl rfl) rfl (bT rfl Kk (aB (pv 1))) (λ_ _ _ _=>(dw (i:=0) (show List.Nodup (α:=Str) ["k","before"] by decide) rfl (Or.inl (OS rfl)) (Or.inr (OS rfl)))) (λ_ _ _ _=>bv) (λ_ _ _ _=>(ad (aU ae (aw aY (aw aY ab (pv 1)) (pv 0)) ae (ad (aB ae)))))) (aa (aP 5 sc__law_endless (ar (aq (aA (ad (bc ae (ad (aA ae ab)) (ad (aA ae ab)))) (ad (bc ae (ad (aB ae)) (ad (aA ae ab)))))) (aw br (aH JT hr rfl (aA (pv 0) ab)) ab))) (aa (aO (cy (pv 3) (aw fG (aw fG (ad (aA ae (aw aY ab (pv 2)))) (pv 5)) (ad (aB (pv 4)))))) (aa (aP 6 sc__law_endless (ad (aU (aq aL) (aq aL) (aq aL) (aq (aB (ad (bc ae (aq aL) (pv 3)))))))) (aa (dL (i:=7) sc__law_endless.nd rfl (Or.inl rfl) (ce 1 (N:=["k"]) (cap:=[]) rfl rfl rfl rfl (by decide) rfl rfl rfl) rfl (bT rfl Kk (aB (pv 2))) (λ_ _ _ _=>(dw (i:=0) (show List.Nodup (α:=Str) ["k"] by decide) rfl (Or.inl (OS rfl)) (Or.inr (OS rfl)))) (λ_ _ _ _=>bv) (λ_ _ _ _=>(ad (cT ab (aU ab ae ae (pv 0)))))) (aa (aP 8 sc__law_endless (aw cC ab (pv 2))) (aa (aP 9 sc__law_endless ab) (aa (cZ O1.never (aM gH (pv 8) ab) (aa (aP 9 sc__law_endless (aw aY ab (pv 2))) (aa (aP 8 sc__law_endless (aw cC (pv 8) ab)) (aa (cB O1.never rfl (bT rfl Kk (aB (fM (ke rfl) LO (aA (pv 8) (pv 1))))) (aX 10 sc__law_endless) (aa (aO (cy (pv 7) (ad (cT ab (aU ab ae ae ab))))) (ac (aP 9 sc__law_endless (aw aY (aw aY ab (pv 2)) (pv 10)))))) (ac (aP 8 sc__law_endless (aw cC (pv 8) (fM (ke rfl) LO (aA (pv 8) (pv 1)))))))))) (aa (aP 11 sc__law_endless (aq (aA (ad (aU ab ae ae (aq aL))) (ad (aU ab ae ae (aq aL)))))) (aa (cr (aH Kd hr rfl (aU (pv 6) (pv 11) (cv bi (aw br (pv 0) ab) ab) ab)) (jg 2 rfl (aE (aX 12 sc__law_endless) (aE (aX 13 sc__law_endless) bq)))) (aa (aJ (PW.pt (kW (aM nK (pv 13) ab) (j5 (dv (bX (aH Kb hr rfl (bc (pv 12) (ad (aA ae ab)) (aw cz (aq (aB (ad (aU ab ab ae ae)))) (pv 7))))))))) (ac (az ci)) aG) (ac (az (cv (gT hu64) (ar (aW JS hr (pv 12)) ab) (aq (aB (ad (aU ab ae (pv 9) (aq aL)))))))))))))))))))))),?_⟩
 symm
 refine⟨a,3,rfl,by decide,by decide,λm1 _ _=>?_⟩
 obtain⟨m,em,hm⟩:∃m:Nat,m1%10=(m:Int)/\m<10:=⟨(m1%10).toNat,by lia,by lia⟩
 symm
 refine⟨a,4,rfl,by decide,by decide,λm2 _ _=>?_⟩
 obtain⟨b,eb,hb⟩:∃b:Nat,m2%5=(b:Int)/\b<5:=⟨(m2%5).toNat,by lia,by lia⟩
 refine⟨m2,rfl,5,rfl,(by decide:(0:Int)<5),?_⟩
 dsimp +zetaDelta only [bW,cS,cG,dQ]
 rw [eb]
 clear em eb
 simp only [M5,M6]
 refine DE.use (K:=K) (R:=nw H) (eN rl_nw (F:=tP) (by repeat infer_instance) (by lia) λi _ G=>by repeat infer_instance) λv3 H1 g1 r3=>?_
 obtain⟨l3,x3,rfl,e3,q3⟩:=cu r3
 obtain⟨n3,e3⟩:=eX e3
 have q3:=oR (vJ (λi=>rfl) _) (RpL.mono iH q3)
 have k3:∀x xs,H1 x=some (.tup xs)->x≠l3:=λx xs h z=>by rw [z,e3] at h;cases h
 clear r3
 refine DE.use (K:=K) (R:=dA l3) (eN (gP e3) (F:=tQ b) (by repeat infer_instance) (by lia) λi _ G=>by repeat infer_instance) λv4 H2 g2 r4=>?_
 replace e3:=g2 _ _ e3
 dsimp only [tOp]
 refine DE.use (K:=K) (R:=dA l3) (d:=.list [.tuple (tR true),.tuple (tR false)]) (by repeat infer_instance) λv5 H3 g3 r5=>?_
 replace e3:=g3 _ _ e3
 refine⟨_,rfl,a,8,rfl,by decide,by decide,λm3 _ _=>⟨m3,2,rfl,rfl,(by decide:(0:Int)<2),tT ji r5 (by lia) (by show m3%2<2;lia) λv5 d hd r5=>?_⟩⟩
 obtain⟨c,rfl⟩:∃c,d= .tuple (tR c):=by
  simp only [Na,MT,or_false] at hd
  rcases hd with rfl | rfl
  ·exact⟨true,rfl⟩
  ·exact⟨false,rfl⟩
 replace r4:=Rp.mono (kr g3) r4
 refine Hc (K:=K) (R:=dA l3) (d:=nB b m c) rfl e3 (by rw [bw q3,MQ,Nh];lia) (by repeat infer_instance) λv H4 H5 g4 r mu=>?_
 have S5:Same H H5:=λx u h=>mu.old (((g1.trans g2).trans g3).trans g4 _ _ h) (λz=>by rw [z,n3] at h;cases h)
 have r3:Rp K (id H5) (.ref l3) (.list ((List.range b).map tP++[nB b m c])):=.lst mu.at_ (mX (Rp.mono ((uL mu).trans ji) r) (RpL.mono gM (a0 (λx xs h=>mu.old ((g2.trans g3).trans g4 _ _ h) (k3 x xs h)) q3)))
 clear r4 r5 r mu g1 g2 g3 g4 hd k3
 refine DE.use (K:=K) (R:=id) (d:=prD none none (enM b m c)) (by repeat infer_instance) λv6 H6 g6 r6=>?_
 clear r3
 obtain⟨pp,t',s',rfl,prg,et,es⟩:=kT r6 (He b m c (by lia) (by lia)) (MP rfl) (show(["main"]:List Str).Nodup by decide)
 cases t' with
 | some=>cases et
 | none=>
 cases s' with
 | some=>cases es
 | none=>
 have S6:=S5.trans g6
 clear r6 et es S5 g6
 refine DE.use (K:=K) (R:=nw H6) (eN rl_nw (F:=enY) (by repeat infer_instance) (by lia) λi _ G=>by repeat infer_instance) λv7 H7 g7 r7=>?_
 obtain⟨l7,x7,rfl,e7,q7⟩:=cu r7
 obtain⟨n7,e7⟩:=eX e7
 have q7:=oR (vJ (λi=>rfl) _) (RpL.mono iH q7)
 clear r7
 refine⟨_,rfl,_,_,rfl,rfl,?_⟩
 refine⟨EnI K a m b (.ref l3) v4 v5 (.ref pp) l7 H6,⟨100-b,x7,_,0,none,100,by (dsimp only;rw [show(100:Int)-(b:Int)=((100-b:Nat):Int) by lia]),g7,e7,q7,by rw [MQ,Nh];lia,Nat.sub_le _ _,rfl⟩,λn σ H8 z=>?_⟩
 obtain⟨ys,L,row,kv,fu,rfl,S8,e8,q8,ln,lf,ew⟩:=z
 refine⟨_,rfl,_,_,rfl,rfl,?_⟩
 refine⟨_,rfl,?_⟩
 by_cases c0:n=0
 ·subst c0
  refine bz (by decide) ?_
  have eR:enR b m=(L,row):=by rw [<-ew];cases fu<;>rfl
  clear ew lf
  dsimp only [cS,cG]
  refine DE.use (K:=K) (R:=id) (d:=.list enO) (by repeat infer_instance) λv11 H9 g9 r11=>?_
  obtain⟨l11,x11,rfl,e11,_⟩:=cu r11
  have R:=pN (s:=ys0 none) rfl (by decide) (show kR (enP b m c) 3 _ 2 (ys0 none)=true from GT c hb hm)
  rw [eR] at R
  symm
  refine iy (mo:=9) (prg.same (S8.trans g9)) r11 (bZ rfl) Hf R.1 (by decide) λr cc y tg H10 g10 er tz Y i nw=>?_
  have F:=R.2 y i
  replace q8:=a0 (Kt.of (g9.trans g10)) q8
  replace e8:=(g9.trans g10) _ _ e8
  replace S6:=((S6.trans S8).trans g9).trans g10
  clear R i prg r11 e11 g9 g10 S8
  refine⟨r,rfl,_,er,rfl,_,_,rfl,_,_,rfl,rfl,?_⟩
  simp only [M5,M6]
  symm
  refine bz (by decide) ?_
  have r7:Rp K (id H10) (.ref l7) (.list L):=jy e8 q8
  refine⟨_,rfl,DA.use (K:=K) (R:=id) (ds:=[.tuple [.str "endless",.int 1],.list ([rw4 9 1 [.str "begins",.str "main"]]++L)]) (eM rl_id.toRv (by repeat infer_instance) (eM rl_id.toRv (jB rl_id (by show 1+L.length<=1000;lia) (by repeat infer_instance) (gv rl_id.toRv rfl r7)) oJ)) λvs H11 g11 r11=>?_⟩
  cases r11 with | cons a1 r11=>cases r11 with | cons a2 r11=>
  cases r11
  obtain⟨la,xl,rfl,ela,qla⟩:=cu a2
  have hl:∀d∈y.lg,Ly 8 d:=by rw [F.lg];have:=IL b m;rw [eR] at this;exact this
  have hh:∀d∈y.hd.map hdD,Ly 8 d:=by rw [F.hv];exact λd hd=>by cases List.mem_singleton.mp hd;exact iT
  refine dZ (Y.same g11) F.dn F.vw F.st (lG rfl a1) (by rw [F.lg];exact a2) (by decide) hl hh λH12 g12=>?_
  refine⟨true,rfl,bz (by decide) ?_⟩
  dsimp +zetaDelta only [jE,j7,tOp]
  refine jR rfl (Y.same (g11.trans g12)) F.vw λv H13 g13 r13=>?_
  dsimp only [tC]
  refine pP r13 λu ru=>?_
  refine DE.use (K:=K) (R:=id) (d:=.list [hdD (1,⟨"main",row⟩)]) (by repeat infer_instance) λv2 H14 g14 r14=>?_
  rw [F.hv] at ru hh
  apply fR (Rp.mono g14 ru) r14 (qY (kS hh) (by decide))
  exact q _ _ ⟨rfl,(((S6.trans g11).trans g12).trans g13).trans g14⟩
 ·refine di (decide_eq_true (show(0:Int)<(n:Int) by lia)) ⟨λσ' H'=>∃n',n'<n/\EnI K a m b (.ref l3) v4 v5 (.ref pp) l7 H6 n' σ' H',λσ' H' z=>z,?_⟩
  obtain⟨fu,rfl⟩:∃fu',fu=fu'+1:=⟨fu-1,by lia⟩
  have ew:enW b m fu (L++Nd (min (n-1) m) enH) (n-1-min (n-1) m) (enK b (min (n-1) m))=enR b m:=by
   rw [<-ew];exact(Tf c0).symm
  refine⟨_,rfl,2,b,rfl,rfl,?_⟩
  dsimp only
  refine⟨_,rfl,n,1,rfl,rfl,?_⟩
  dsimp only
  rw [show(n:Int)-1=((n-1:Nat):Int) by lia]
  simp only [M5,M6]
  refine⟨_,rfl,_,rfl,_,_,rfl,_,rfl,?_,?_,?_⟩
  ·split<;>lia
  ·split<;>lia
  rw [show(if ((m:Nat):Int)<((n-1:Nat):Int) then (m:Int) else ((n-1:Nat):Int))=((min (n-1) m:Nat):Int) by split<;>lia,NB]
  refine iC (EnJ K a m b (.ref l3) v4 v5 (.ref pp) l7 H6 (n-1) L) ⟨ys,kv,rfl,S8,e8,by rw [List.replicate_zero,Nv];exact q8⟩ (λi σ H9 hi z=>?_) λσ H9 z=>?_
  ·obtain⟨ys,kv,rfl,S9,e9,q9⟩:=z
   rw [Int.zero_add]
   dsimp only [bW,cS,dQ,cG]
   simp only [M5,M6]
   refine ix (d:=enH) rfl e9 q9 (by rw [MW,MY];lia) (by repeat infer_instance) λys H10 e10 r10 o10 k10=>?_
   refine⟨_,rfl,3,b,rfl,rfl,_,rfl,_,i,rfl,rfl,?_⟩
   refine⟨ys,some (.int i),by (rw [show enK b (i+1)=3+(b:Int)+(i:Int) by unfold enK;rw [Tf (Nat.succ_ne_zero i),NY]]),λx u h=>o10 x u (λz=>by rw [z,n7] at h;cases h) (S9 _ _ h),e10,?_⟩
   rw [List.replicate_succ',<-Nj];exact r10
  ·obtain⟨ys,kv,rfl,S9,e9,q9⟩:=z
   refine⟨_,rfl,_,rfl,_,rfl,_,_,rfl,_,_,rfl,rfl,?_⟩
   dsimp only [bW]
   simp only [M5,M6]
   rw [show(if ((m:Nat):Int)<((n-1:Nat):Int) then (m:Int) else ((n-1:Nat):Int))=((min (n-1) m:Nat):Int) by split<;>lia,show((n-1:Nat):Int)-((min (n-1) m:Nat):Int)=((n-1-min (n-1) m:Nat):Int) by lia]
   exact⟨n-1-min (n-1) m,by lia,ys,_,_,kv,fu,rfl,S9,e9,q9,by rw [MW,MY];lia,by lia,ew⟩
end
noncomputable def maF(k:Nat):OQ:=.tuple [.int k,.str "start",.str "main",.list []]
noncomputable def maM:List Hm:=[⟨"main",[],[.tuple [.str "say",.int 2,.str "hey",.tuple [.str "own"]]],[.pl "say" 2 ["hey"] [.own]]⟩]
noncomputable def mbD:List OQ:=[.tuple [.str "say",.int 2,.str "hey",.tuple [.str "own"]],.tuple [.str "start",.int 3,.str "main",.list []],.tuple [.str "wait",.int 4,nuD 3]]
noncomputable def mbM:List Hm:=[⟨"main",[],mbD,[.pl "say" 2 ["hey"] [.own],.pl "start" 3 ["main"] [],.pl "wait" 4 [] [.num 3]]⟩]
theorem Hh:∀h∈maM,h.Ok:=λh hh=>by
 cases List.mem_singleton.mp hh
 refine⟨Nk _,bZ rfl,?_⟩
 simp only [frz];exact congrArg (λx=>OQ.tuple [x]) (pO (e:=.own))
theorem Hi:∀h∈mbM,h.Ok:=λh hh=>by
 cases List.mem_singleton.mp hh
 refine⟨Nk _,bZ rfl,?_⟩
 rfl
theorem IN(n:Nat):frz (.list ((List.range n).map maF))= .tuple (((List.range n).map λ(k:Nat)=>Ot.start k "main").map Ot.D):=by
 show OQ.tuple (bC _)=_
 rw [du,NK,NK]
 refine congrArg OQ.tuple (NV λi _=>?_)
 simp only [Function.comp,maF,frz,bC,Ot.D]
theorem IP(h:n<=1000):Sz 7 (.list ((List.range n).map maF)):=.list (by rw [MQ,Nh];exact h) λz hz=>by
 obtain⟨i,_,rfl⟩:=List.mem_map.mp hz
 exact bZ rfl
theorem IQ(n:Nat):∀d∈maL n,Ly 8 d:=λd hd=>by
 obtain⟨k,_,hd⟩:=List.mem_flatMap.mp hd
 simp only [Na,MT,or_false] at hd
 rcases hd with rfl | rfl | rfl<;>exact dP (by kernel_rfl)
theorem IR(n:Nat):∀d∈mbL n,Ly 8 d:=λd hd=>by
 rcases List.mem_cons.mp hd with rfl | hd
 ·exact dP (by kernel_rfl)
 ·obtain⟨k,_,hd⟩:=List.mem_flatMap.mp hd
  rcases List.mem_cons.mp hd with rfl | hd
  ·exact dP (by kernel_rfl)
  ·split at hd
   ·simp only [Na,MT,or_false] at hd
    rcases hd with rfl | rfl<;>exact dP (by kernel_rfl)
   ·cases hd
theorem tU(n:Nat):maL (n+1)=maL n++[rw4 n (n+1) [.str "begins",.str "main"],rw4 n (n+1) [.str "says",.str "hey",.int (n+1)]]++[rw4 n (n+1) [.str "ends"]]:=by
 unfold maL
 rw [NE,List.flatMap_append,Nj];rfl
theorem DS(n:Nat):(maL n).length=3*n:=by
 induction n with
 | zero=>rfl
 | succ n ih=>rw [tU,MW,MW,ih];show 3*n+2+1=_;lia
theorem nC(n:Nat):mbL (n+1)=mbL n++[rw4 5 (n+1) [.str "says",.str "hey",.int (n+1)]]++if n<59 then [rw4 5 (n+2) [.str "begins",.str "main"],rw4 5 (n+1) [.str "waits",.int 3]] else []:=by
 unfold mbL
 rw [NE,List.flatMap_append,Nj]
 simp only [List.flatMap_cons,List.flatMap_nil,Nv];rfl
theorem DT(n:Nat):(mbL n).length<=1+3*n:=by
 induction n with
 | zero=>exact Nat.le_refl _
 | succ n ih=>
  rw [nC,MW,MW]
  split
  ·show _+1+2<=_;lia
  ·show _+1+0<=_;lia
theorem vK(hv:σ[i]? =some (some (.ref l)))(el:H l=some (.lst xs))(r:FzL K H xs L)(h:DA K tp H σ ta ds)(n:L.length+ds.length<=1000)(q:∀p ys H',Same H H'->H p=none->H' p=some (.lst ys)->FzL K H' ys (L++ds)->Q (.ref p) H'):tOp qR (dF i) (jI ta) σ H Q:=by
 refine⟨_,hv,DA.use h λvs H1 g1 r1=>⟨jA r1 (by lia),λb H2 _ g2 e2=>⟨_,_,_,_,rfl,rfl,g2 _ _ (g1 _ _ el),e2,?_,λp H3 np g3 e3=>q p _ H3 ((g1.trans g2).trans g3) ((g1.trans g2).free np) e3 (gQ (a0 (Kt.of ((g1.trans g2).trans g3)) r) (a0 (Kt.of (g2.trans g3)) r1))⟩⟩⟩
 rw [bw r,bw r1]
 exact Nat.le_trans n (by unfold ON;decide)
def MaI(K:N5)(a:Int)(l1 pp y:Addr)(m:Nat)(o:Option V)(H3:Hp)(F:Nat->List OQ)(i:Nat)(σ:_L.St)(H:Hp):Prop:=∃(l:Addr) (ys:List V) (k:Option V),σ= [some (.int a),some (.ref l1),some (.ref pp),some (.ref y),some (.int m),some (.ref l),k,o]/\Same H3 H/\H3 l=none/\H l=some (.lst ys)/\FzL K H ys (F i)
def MbI(K:N5)(a:Int)(pp y:Addr)(v7:V)(H3:Hp)(i:Nat)(σ:_L.St)(H:Hp):Prop:=∃(l:Addr) (ys:List V) (k:Option V),σ= [some (.int a),none,some (.ref pp),some (.ref y),some (.int (61:Nat)),some (.ref l),k,some v7]/\Same H3 H/\H3 l=none/\H l=some (.lst ys)/\FzL K H ys (mbL i)
theorem Bs(r:RpL K H xs (ds++[d])):∃us u,xs=us++[u]/\Rp K H u d:=by
 induction ds generalizing xs with
 | nil=>cases r with | cons a r=>cases r;exact⟨[],_,rfl,a⟩
 | cons e ds ih=>
  cases r with | cons a r=>
  obtain⟨us,u,rfl,h⟩:=ih r
  exact⟨_::us,u,rfl,h⟩
theorem DU(r:Rp K H v (.list (ds++[d])))(q:∀u,Rp K H u d->Q u H):o0 v (.int (-1)) H Q:=by
 obtain⟨l,xs,rfl,e,rl⟩:=cu r
 obtain⟨us,u,rfl,h⟩:=Bs rl
 refine⟨_,_,_,u,rfl,rfl,.inr e,?_,q _ h⟩
 unfold atI
 rw [MW]
 show(ixN (us.length+1) (-1)).bind _=_
 rw [sY]
 simp
section
variable{C:CA}{K:N5}{P:OR}{w:OV}{mg:Str->Option OL}{base:Heap}
theorem IS(D:DefAt K mg "_law_many" md ["cell"])(JT:OkD P w K mg base 1 "_law_stir" ["cell","k"] iw)(Kd:OkD P w K mg base 27 "_law_goes" ["program","outer","heap","most"] (jx C K 4 3))(Kb:OkD P w K mg base 27 "_law_stands" ["yard","stop","log"] (fS C K))(JS:OkM P w K mg base 3 C.y "view" ["self"] (ir C K))(Kk:mg "range" =none):OkD P w K mg base 30 "_law_many" ["cell"] spT:=by
 refine D.okG sc__law_many (λ_=>rfl) λa f cdv A outer s0 H Q E hr p q=>?_
 have hu64:=hr.units
 refine⟨_,(aa (aJ (aM jF (aw br (pv 0) ab) ab) (aa (dL (i:=1) sc__law_many.nd rfl (Or.inl rfl) (ce 1 (N:=["k"]) (cap:=[]) rfl rfl rfl rfl (by decide) rfl rfl rfl) rfl (bT rfl Kk (aB (aw aY ab (aw br (aH JT hr rfl (aA (pv 0) ab)) ab)))) (λ_ _ _ _=>(dw (i:=0) (show List.Nodup (α:=Str) ["k"] by decide) rfl (Or.inl (OS rfl)) (Or.inr (OS rfl)))) (λ_ _ _ _=>bv) (λ_ _ _ _=>(ad (aU (pv 0) ae ae (aq aL))))) (aa (aP 2 sc__law_many (ad (aU (aq aL) (aq aL) (aq aL) (aq (aB (ad (bc ae (aq aL) (aq (aB (ad (aU ae ab ae (ad (aB ae))))))))))))) (aa (cr (aH Kd hr rfl (aU (pv 2) (pv 1) (cv bi (aw br (pv 0) ab) ab) ab)) (jg 2 rfl (aE (aX 3 sc__law_many) (aE (aX 4 sc__law_many) bq)))) (aa (aP 5 sc__law_many (aq aL)) (aa (cB O1.never rfl (bT rfl Kk (aB ab)) (aX 6 sc__law_many) (aa (aP 5 sc__law_many (aw cz (pv 5) (aq (aA (ad (aU (pv 6) (aw aY (pv 6) ab) ae ae)) (ad (cT (pv 6) (aU (aw aY (pv 6) ab) ae ae (aw aY (pv 6) ab)))))))) (ac (aO (cy (pv 5) (ad (bc (pv 6) (aw aY (pv 6) ab) ae))))))) (ac (az (j6 (cv bi (pv 4) ab) (j6 (aH Kb hr rfl (bc (pv 3) (ad (aB ae)) (pv 5))) (nE (cv (gT hu64) (ar (aW JS hr (pv 3)) ab) (aq aL)))))))))))) aG) (aa (aP 7 sc__law_many (aq (bc (ad (aU ae ab ae (ad (aB ae)))) (ad (aU ae ab ae (aq aL))) (ad (bc ae ab (ad (aA ae ab))))))) (aa (aP 2 sc__law_many (ad (aU (aq aL) (aq aL) (aq aL) (aq (aB (ad (bc ae (aq aL) (pv 7)))))))) (aa (cr (aH Kd hr rfl (aU (pv 2) (aq (aB (ad (aU ab ae ae (aq aL))))) (cv bi (aw br (pv 0) ab) ab) ab)) (jg 2 rfl (aE (aX 3 sc__law_many) (aE (aX 4 sc__law_many) bq)))) (aa (aP 5 sc__law_many (aq (aB (ad (aU ab ab ae ae))))) (aa (cB O1.never rfl (xq rfl Kk (aA ab ab)) (aX 6 sc__law_many) (aa (aO (cy (pv 5) (ad (cT ab (aU (pv 6) ae ae (pv 6)))))) (ac (aJ (aM jF (pv 6) ab) (ac (aP 5 sc__law_many (aw cz (pv 5) (aq (aA (ad (aU ab (aw aY (pv 6) ab) ae ae)) (ad (aU ab (pv 6) ae ab))))))) aG)))) (aa (aJ (PW.pt (kW (aM nK (pv 4) ab) (j5 (dv (bX (aH Kb hr rfl (bc (pv 3) (ad (aB ae)) (pv 5)))))))) (ac (az ci)) aG) (ac (az (cv (gT hu64) (ar (ar (aW JS hr (pv 3)) ab) (kX jd ab)) (ad (aU ab ae ab (aq aL))))))))))))),?_⟩
 symm
 refine dI (λ_=>?_) λ_=>?_
 ·dsimp +zetaDelta only [bW,cS,cG,dQ]
  simp only [_L.start,Ng,N0,M8,NI,Nat.reduceAdd,Nat.reduceSub,Nd,NN,NO]
  refine bA ⟨_,rfl,a,3,rfl,by decide,by decide,λm1 _ _=>⟨m1,40,rfl,rfl,(by decide:(0:Int)<40),61,m1%40,rfl,rfl,_,rfl,by lia,by lia,?_⟩⟩
  obtain⟨x,ex,hx⟩:∃x:Nat,(61+m1%40).toNat=61+x/\x<40:=⟨(m1%40).toNat,by lia,by lia⟩
  rw [ex]
  refine tE (K:=K) (F:=maF) rfl (by lia) (λi _ G=>by repeat infer_instance) λl1 H1 g1 r1=>?_
  replace r1:Rp K (id H1) (.ref l1) _:=Rp.mono iH r1
  simp only [M5,M6]
  refine DE.use (K:=K) (R:=id) (d:=prD none none maM) (by repeat infer_instance) λv2 H2 g2 r2=>?_
  obtain⟨pp,t',s',rfl,prg,et,es⟩:=kT r2 Hh (MP rfl) (show(["main"]:List Str).Nodup by decide)
  cases t' with
  | some=>cases et
  | none=>
  cases s' with
  | some=>cases es
  | none=>
  have R:=pN (s:=ys0 none) rfl (by decide) (GU ((List.range x).map λ(k:Nat)=>Ot.start ((61+k:Nat):Int) "main"))
  have eo:(List.range 61).map (λ(k:Nat)=>Ot.start k "main")++(List.range x).map (λ(k:Nat)=>Ot.start ((61+k:Nat):Int) "main")=(List.range (61+x)).map λ(k:Nat)=>Ot.start k "main":=by
   rw [List.range_add,MX,NK];rfl
  unfold maP at R
  rw [eo] at R
  obtain⟨x1,e1,_⟩:∃x1,H2 l1=some (.lst x1)/\True:=by
   obtain⟨_,x1,e,e1,_⟩:=cu (Rp.mono g2 r1)
   cases e;exact⟨x1,e1,trivial⟩
  symm
  refine iy (mo:=200) prg (Rp.mono g2 r1) (IP (by lia)) (IN _) R.1 (by decide) λr c y tg H3 g3 er tz Y i nw=>?_
  have F:=R.2 y i
  have S3:=(g1.trans g2).trans g3
  clear R i prg r1 r2 e1 eo g1 g2 g3 et es ex
  refine⟨r,rfl,_,er,rfl,_,_,rfl,_,_,rfl,rfl,?_⟩
  clear er
  simp only [M5,M6]
  dsimp only [cS,cG,j7]
  refine⟨Nk _,λl5 H4 n5 g4 e5=>?_⟩
  refine⟨60,rfl,by decide,by decide,iC (MaI K a l1 pp c.y 121 none H3 maL) ⟨l5,[],none,rfl,g4,n5,e5,.nil⟩ (λi σ H5 hi z=>?_) λσ H5 z=>?_⟩
  ·obtain⟨l,ys,k,rfl,S5,nl,el,ql⟩:=z
   rw [Int.zero_add]
   dsimp only [bW,cS,cG,dQ]
   have ll:=DS i
   have hi:i<60:=hi
   refine vK rfl el ql (ds:=[rw4 i (i+1) [.str "begins",.str "main"],rw4 i (i+1) [.str "says",.str "hey",.int (i+1)]]) (by repeat infer_instance) (by rw [ll];show _+2<=_;lia) λp zs H6 g6 np ep qp=>?_
   refine ix (d:=rw4 i (i+1) [.str "ends"]) rfl ep qp (by rw [MW,ll];show _+2<_;lia) (by repeat infer_instance) λus H7 e7 q7 o7 k7=>?_
   have n3:=S5.free np
   exact⟨p,us,_,rfl,λx u h=>o7 x u (λz=>by rw [z,n3] at h;cases h) (g6 _ _ (S5 _ _ h)),n3,e7,by rw [tU];exact q7⟩
  ·obtain⟨l,ys,k,rfl,S5,nl,el,ql⟩:=z
   replace Y:=Y.same S5
   replace S3:=S3.trans S5
   have r5:Rp K (id H5) (.ref l) (.list (maL 60)):=jy el ql
   refine⟨_,rfl,rfl,_,rfl,di (decide_eq_true rfl) ?_⟩
   refine⟨_,rfl,DA.use (K:=K) (R:=id) (ds:=[.tuple [.str "many"],.list (maL 60)]) (by repeat infer_instance) λvs H6 g6 r6=>?_⟩
   cases r6 with | cons a1 r6=>cases r6 with | cons a2 r6=>
   cases r6
   obtain⟨la,xl,rfl,ela,qla⟩:=cu a2
   have hh:∀d∈y.hd.map hdD,Ly 8 d:=by rw [F.hv];exact λd hd=>by cases hd
   refine dZ (Y.same g6) F.dn F.vw F.st (lG rfl a1) (by rw [F.lg];exact a2) (by decide) (by rw [F.lg];exact IQ 60) hh λH7 g7=>⟨_,rfl,di rfl ?_⟩
   dsimp only [tOp]
   refine jR rfl (Y.same (g6.trans g7)) F.vw λv H8 g8 r8=>?_
   dsimp only [tC]
   refine pP r8 λu ru=>?_
   refine DE.use (K:=K) (R:=id) (d:=.list []) (by repeat infer_instance) λv2 H9 g9 r9=>?_
   rw [F.hv] at ru
   apply fR (Rp.mono g9 ru) r9 (by decide)
   exact q _ _ ⟨rfl,(((S3.trans g6).trans g7).trans g8).trans g9⟩
 ·dsimp +zetaDelta only [bW,cS,cG,dQ,jE,j7]
  simp only [_L.start,Ng,N0,M8,NI,Nat.reduceAdd,Nat.reduceSub,Nd,NN,NO]
  refine DE.use (K:=K) (R:=id) (d:=.list mbD) (by repeat infer_instance) λv7 H1 g1 r7=>?_
  simp only [M5,M6]
  refine DE.use (K:=K) (R:=id) (d:=prD none none mbM) (by repeat infer_instance) λv2 H2 g2 r2=>?_
  obtain⟨pp,t',s',rfl,prg,et,es⟩:=kT r2 Hi (MP rfl) (show(["main"]:List Str).Nodup by decide)
  cases t' with
  | some=>cases et
  | none=>
  cases s' with
  | some=>cases es
  | none=>
  have R:=pN (s:=ys0 none) rfl (by decide) GV
  refine⟨_,rfl,?_⟩
  show jI _ _ _ _
  refine DE.use (K:=K) (R:=id) (d:=.list [.tuple [.int 5,.str "start",.str "main",.list []]]) (by repeat infer_instance) λv1 H3 g3 r1=>?_
  obtain⟨l1,x1,rfl,e1,_⟩:=cu r1
  refine⟨_,rfl,_,_,rfl,rfl,(by decide:(0:Int)<2),rfl,?_⟩
  refine iy (E:=E0) (mo:=200) (prg.same g3) r1 (bZ rfl) (by simp only [frz,bC];exact(rfl:_=OQ.tuple ([Ot.start 5 "main"].map Ot.D))) R.1 (by decide) λr c y tg H4 g4 er tz Y i nw=>?_
  have F:=R.2 y i
  have S4:=((g1.trans g2).trans g3).trans g4
  clear R i prg r1 r2 r7 e1 g1 g2 g3 g4 et es
  refine⟨r,_,rfl,er,rfl,_,_,rfl,_,_,rfl,rfl,?_⟩
  clear er
  simp only [M5,M6]
  dsimp only [cS,cG]
  refine DA.use (K:=K) (R:=tp) (ds:=mbL 0) (by repeat infer_instance) λvs H5 g5 r5=>⟨jA r5 (MP rfl),λl5 H6 n5 g6 e5=>?_⟩
  refine⟨1,61,rfl,by decide,iC (MbI K a pp c.y v7 H4) ⟨l5,_,none,rfl,g5.trans g6,g5.free n5,e5,a0 (Kt.of g6) r5⟩ (λi σ H7 hi z=>?_) λσ H7 z=>?_⟩
  ·obtain⟨l,ys,k,rfl,S7,nl,el,ql⟩:=z
   have hi:i<60:=hi
   have ll:=DT i
   dsimp only [bW,cS,cG,dQ,oW]
   rw [show(1:Int)+(i:Int)=(i:Int)+1 from Int.add_comm _ _]
   simp only [M5,M6]
   refine ix (d:=rw4 5 (i+1) [.str "says",.str "hey",.int (i+1)]) rfl el ql (by lia) (by repeat infer_instance) λus H8 e8 q8 o8 k8=>?_
   have S8:Same H4 H8:=λx u h=>o8 x u (λz=>by rw [z,nl] at h;cases h) (S7 _ _ h)
   refine⟨_,rfl,_,_,rfl,rfl,_,rfl,?_⟩
   by_cases cc:i<59
   ·apply di (decide_eq_true (by lia))
    refine vK rfl e8 q8 (ds:=[rw4 5 (i+1+1) [.str "begins",.str "main"],rw4 5 (i+1) [.str "waits",.int 3]]) (by repeat infer_instance) (by rw [MW];show _+1+2<=_;lia) λp zs H9 g9 np ep qp=>?_
    refine⟨p,zs,_,rfl,S8.trans g9,S8.free np,ep,?_⟩
    rw [nC,Th cc,show(i:Int)+2=(i:Int)+1+1 from (Int.add_assoc _ 1 1).symm];exact qp
   ·refine bz (λz=>cc (by have:=of_decide_eq_true z;lia)) ?_
    refine⟨l,us,_,rfl,S8,nl,e8,?_⟩
    rw [nC,Tf cc,Nv];exact q8
  ·obtain⟨l,ys,k,rfl,S7,nl,el,ql⟩:=z
   replace Y:=Y.same S7
   replace S4:=S4.trans S7
   have r5:Rp K (id H7) (.ref l) (.list (mbL 60)):=jy el ql
   refine⟨_,rfl,rfl,_,rfl,bz (by decide) ?_⟩
   refine⟨_,rfl,DA.use (K:=K) (R:=id) (ds:=[.tuple [.str "many"],.list (mbL 60)]) (by repeat infer_instance) λvs H8 g8 r8=>?_⟩
   cases r8 with | cons a1 r8=>cases r8 with | cons a2 r8=>
   cases r8
   obtain⟨la,xl,rfl,ela,qla⟩:=cu a2
   have hh:∀d∈y.hd.map hdD,Ly 8 d:=by
    rw [F.hv]
    intro d hd
    rcases List.mem_append.mp hd with hd | hd
    ·obtain⟨i,_,rfl⟩:=List.mem_map.mp hd;exact iT
    ·cases List.mem_singleton.mp hd;exact iT
   refine dZ (Y.same g8) F.dn F.vw F.st (lG rfl a1) (by rw [F.lg];exact a2) (by decide) (by rw [F.lg];exact IR 60) hh λH9 g9=>⟨_,rfl,bz (by decide) ?_⟩
   dsimp only [jE,j7,tOp]
   refine jR rfl (Y.same (g8.trans g9)) F.vw λv H10 g10 r10=>?_
   dsimp only [tC]
   refine pP r10 λu ru=>?_
   rw [F.hv] at ru
   refine⟨1,rfl,DU ru λu ru=>?_⟩
   refine DE.use (K:=K) (R:=id) (d:=hdD (60,⟨"main",3⟩)) (by repeat infer_instance) λv2 H11 g11 r11=>?_
   apply fR (Rp.mono g11 ru) r11 (qY iT (by decide))
   exact q _ _ ⟨rfl,(((S4.trans g8).trans g9).trans g10).trans g11⟩
end
def pQ(mo:Int):OQ:=.tuple [.int mo,.str "start",.str "main",.list []]
noncomputable def tV(mo:Int):OQ:=.tuple [.int mo,.str "bring",.str "bin",.int 1]
noncomputable def tW(c:Bool):List OQ:=[.str (cond c "<" "="),nuD (cond c 1 7),nuD (cond c 2 7)]
noncomputable def Bt(c:Bool):List OQ:=[.tuple ([.str "while",.int 3]++tW c++[.list [.tuple [.str "wait",.int 4,nuD 0]]])]
def loH(c:Bool):List Hm:=[⟨"main",[],Bt c,loS c⟩]
noncomputable def loD(h b:Nat)(mo:Int):List OQ:=((List.range h).map λ_=>pQ mo)++((List.range b).map λ_=>tV mo)++(Nd (if mo<1000 then 1 else 0) [pQ 1000]).flatten
theorem Hj(c:Bool):∀h∈loH c,h.Ok:=λh hh=>by
 cases List.mem_singleton.mp hh
 refine⟨Nk _,bZ rfl,?_⟩
 simp only [Bt,tW,loS,loM,loW,frz,bC,bdD,smD,plD,nuD,NN,NO]
 rfl
theorem vL{α β:Type}(n:Nat)(x:β)(f:α->β)(y:α)(e:f y=x):((List.range n).map λ_=>x)=(Nd n y).map f:=by
 rw [List.map_replicate,e]
 exact List.eq_replicate_iff.mpr ⟨by simp,λb hb=>by obtain⟨_,_,rfl⟩:=List.mem_map.mp hb;rfl⟩
theorem B8(h b:Nat)(mo:Int):frz (.list (loD h b mo))= .tuple ((loO h b mo).map Ot.D):=by
 have s1:∀m,frz (pQ m)=Ot.D (.start m "main"):=λm=>by simp only [pQ,frz,bC,Ot.D]
 have s2:frz (tV mo)=Ot.D (.bring mo 1):=by simp only [tV,frz,bC,Ot.D]
 show OQ.tuple (bC _)=_
 unfold loD loO
 rw [du,MX,MX,MX,MX,Nj,NK,NK]
 apply congrArg OQ.tuple
 congr 1
 ·rw [<-vL h (frz (pQ mo)) Ot.D (.start mo "main") (s1 mo).symm];rfl
 ·congr 1
  ·rw [<-vL b (frz (tV mo)) Ot.D (.bring mo 1) s2.symm];rfl
  ·by_cases z:mo<1000
   ·rw [Th z,Th z];simp only [Nd,NH,List.flatten_nil,Nv,Ng,N0,s1]
   ·rw [Tf z,Tf z];rfl
theorem B9(h5:h<=5)(hb:b<=3):Sz 7 (.list (loD h b mo)):=by
 refine .list ?_ λz hz=>?_
 ·unfold loD
  simp only [MW,MQ,Nh]
  split
  ·show h+b+1<=_;lia
  ·show h+b+0<=_;lia
 ·unfold loD at hz
  rcases List.mem_append.mp hz with hz | hz
  ·rcases List.mem_append.mp hz with hz | hz
   ·obtain⟨_,_,rfl⟩:=List.mem_map.mp hz;exact bZ rfl
   ·obtain⟨_,_,rfl⟩:=List.mem_map.mp hz;exact bZ rfl
  ·obtain⟨l,hl,hz⟩:=List.mem_flatten.mp hz
   rw [List.eq_of_mem_replicate hl] at hz
   cases List.mem_singleton.mp hz;exact bZ rfl
theorem Ca:∀d∈loL h b mo n,Ly 8 d:=λd hd=>by
 unfold loL at hd
 rcases List.mem_append.mp hd with hd | hd
 ·rcases List.mem_append.mp hd with hd | hd<;>obtain⟨_,_,rfl⟩:=List.mem_map.mp hd<;>exact dP (by kernel_rfl)
 ·obtain⟨_,_,rfl⟩:=List.mem_map.mp hd
  exact dP (by kernel_rfl)
section
variable{K:N5}{H0:Hp}{σ:_L.St}{R:Hp->Hp}
theorem DW(h:RpL K H vs ds)(n:Nat):RpL K H (Nd n vs).flatten (Nd n ds).flatten:=by
 induction n with
 | zero=>exact .nil
 | succ n ih=>rw [Nz,Nz,NH,NH];exact gQ h ih
theorem Hk(r:Rl R H0){k:Nat}(hk:k<=1)(n:ds.length<=1000)(h:DE K R H0 σ ta (.list ds))(h':DE K R H0 σ tb (.int k)):DE K R H0 σ (tOp wt ta tb) (.list (Nd k ds).flatten):=λH Q g q=>h H _ g λv H1 g1 r1=>h' H1 _ (g.trans g1) λw H2 g2 r2=>by
 cases r2
 cases Rp.mono (r.m g2) r1 with | lst e1 l1=>
 refine⟨_,_,_,rfl,rfl,r.s _ _ e1,by lia,by lia,?_,λp H3 np g3 e3=>q _ _ ((g1.trans g2).trans g3) (.lst (r.n ((g.trans g1).trans g2) np e3) (RpL.mono (r.m g3) (DW l1 _)))⟩
 rw [NB,bw l1]
 refine Nat.le_trans (Nat.mul_le_mul n hk) (by unfold ON;decide)
end
theorem vM(h b:Nat)(mo k:Int):LoI h b mo 0 ⟨0,0,0,0,k,[],some (0,999),[],[],none⟩:=by
 refine⟨rfl,(Oc _).symm,(Oc _).symm,.inl ⟨rfl,rfl⟩,?_,?_,?_,(λp hp=>by cases hp),?_,rfl⟩
 ·rw [Oc,Oy];rfl
 ·rw [Oc];rfl
 ·rw [Oc];rfl
 ·unfold loL;rw [Oc,Oc,Oy,Oy];rfl
theorem Hl(h5:h<=5)(hb:b<=3):loL h b mo 500=((List.range h).map λ(k:Nat)=>rw4 mo ((k:Int)+1) [.str "begins",.str "main"])++((List.range b).map λ_=>rw4 mo 0 [.str "brings",.str "bin",.int 1])++((List.range (500-(h+b))).map λ(k:Nat)=>rw4 mo (1+(k:Int)%(h:Int)) [.str "waits",.int 0]):=by
 unfold loL
 rw [show min 500 h=h by lia,show min 500 (h+b)-h=b by lia]
def off(tg:Addr->Nat)(H:Hp):Hp:=λa=>if tg a=0 then H a else none
theorem oT(t:tg a=0)(e:H a=some o):off tg H a=some o:=by unfold off;rw [Th t];exact e
theorem lH(e:off tg H a=some o):tg a=0/\H a=some o:=by
 unfold off at e
 by_cases z:tg a=0
 ·rw [Th z] at e;exact⟨z,e⟩
 ·rw [Tf z] at e;cases e
theorem jS(g:Same H H'):Same (off tg H) (off tg H'):=λa o e=>oT (lH e).1 (g _ _ (lH e).2)
theorem oU(g:Gr H tg H' tg'):Same (off tg H) (off tg' H'):=λa o e=>by
 obtain⟨z,e⟩:=lH e
 exact oT (zj g z e) (g.1 _ _ z e)
theorem zB:Same (off tg H) H:=λ_ _ e=>(lH e).2
theorem kU(s:Same G H0):Rl (nw G) H0:=⟨⟨uK λ_ _ h=>h,iH,λg n h=>cq (s.free (g.free n)) h⟩,λg n h=>cq (s.free (g.free n)) h⟩
def LoW(C:CA)(K:N5)(h b:Nat)(mo:Int)(c:Bool)(a:Int)(v4 v5:V)(pp l7 y:Addr)(v10:V)(H0:Hp)(n:Nat)(σ:_L.St)(H:Hp):Prop:=∃(k:Nat) (cc:Ce) (tg:Addr->Nat) (s:YS),k+n=501/\cc.y=y/\σ= [some (.int a),some (.int h),some (.int b),some (.int mo),some v4,some v5,some (.ref pp),some (.ref l7),some (.ref y),some (.int (501:Nat)),some v10]/\Yd C K (loP c none h b mo) H cc s tg/\LoJ h b mo k s/\Rp K (off tg H) v10 (.list (loL h b mo 500))/\Same H0 (off tg H)
theorem DX(e:σ[i]? =some (some (.int n))):DE K R H0 σ (tCB wx (cP (tOp (rI0 λi j=>.bl (decide (i<j))) (dF i) (tC (.int 1000))) fF)) (.int ((if n<1000 then 1 else 0:Nat):Int)):=λH Q g q=>⟨_,e,_,_,rfl,rfl,_,rfl,by
 have:=q (.int ((if n<1000 then 1 else 0:Nat):Int)) H (λ_ _ h=>h) (.int _)
 by_cases z:n<1000
 ·rw [Th z] at this
  rw [decide_eq_true z];exact this
 ·rw [Tf z] at this
  rw [decide_eq_false z];exact this⟩
theorem hid{te:TE}{i:Nat}{u:TS}{D:fB}{σ:_L.St}{H:Hp}(h:∀T:TS,T=u->te σ H λv H'=>T D (σ.set i (some v)) H'):cS (cG te (bW i)) u D σ H:=h u rfl
theorem JA{te:TE}{g:TG}{u:TS}{D:fB}{σ:_L.St}{H:Hp}(h:∀T:TS,T=u->te σ H λv H'=>g v σ H' (T D)):cS (cG te g) u D σ H:=h u rfl
theorem Bu{s:TS}{u:TS}{D:fB}{σ:_L.St}{H:Hp}(h:∀T:TS,T=u->s {D with nx:=T D} σ H):cS s u D σ H:=h u rfl
section
variable{C:CA}{K:N5}{P:OR}{w:OV}{mg:Str->Option OL}{base:Heap}
theorem IT(D:DefAt K mg "_law_long" mf ["cell"])(JT:OkD P w K mg base 1 "_law_stir" ["cell","k"] iw)(Kd:OkD P w K mg base 27 "_law_goes" ["program","outer","heap","most"] (jx C K 4 3))(Kb:OkD P w K mg base 27 "_law_stands" ["yard","stop","log"] (fS C K))(K5:OkM P w K mg base 2 C.y "stand" ["self","kept"] (vz C K))(Ld:OkM P w K mg base 7 C.y "kept" ["self"] (zk C K))(KR:OkC P w K mg base 11 "PlainYard" C.y ["self","program","outer","agenda"] (Bi C K))(KI:OkC P w K mg base 1 "ListAgenda" C.l ["self"] (Ag.spLI C.l))(JL:OkM P w K mg base 3 C.y "next_moment" ["self"] (spR C K (λg=>g.s.done<=g.P.out.length) λg=>eE (g.s.next g.P)))(Kg:OkM P w K mg base 18 C.y "step" ["self"] (tm C K 4 3))(Kk:mg "range" =none)(Mn:mg "int" =none):OkD P w K mg base 30 "_law_long" ["cell"] spT:=by
 refine D.okG sc__law_long (λ_=>rfl) λa f cdv A outer s0 H Q E hr p q=>?_
 have hu64:=hr.units
 refine⟨_,(aa (nI (i:=1) sc__law_long.nd rfl (Or.inr rfl) (aw aY ab (aw br (aH JT hr rfl (aA (pv 0) ab)) ab))) (aa (aP 2 sc__law_long (aw br (aH JT hr rfl (aA (pv 0) ab)) ab)) (aa (nI (i:=3) sc__law_long.nd rfl (Or.inr rfl) (aw br (aH JT hr rfl (aA (pv 0) ab)) ab)) (aa (aP 4 sc__law_long (ar (aq (aA (ad (bc ae (ad (aA ae ab)) (ad (aA ae ab)))) (ad (bc ae (ad (aA ae ab)) (ad (aA ae ab)))))) (aw br (aH JT hr rfl (aA (pv 0) ab)) ab))) (aa (aP 5 sc__law_long (aq (aB (aw fG (aw fG (ad (aA ae ab)) (pv 4)) (ad (aB (aq (aB (ad (bc ae ab (ad (aA ae ab)))))))))))) (aa (aP 6 sc__law_long (ad (aU (aq aL) (aq (aB (ad (bc ae ab ab)))) (aq aL) (aq (aB (ad (bc ae (aq aL) (pv 5)))))))) (aa (dL (i:=7) sc__law_long.nd rfl (Or.inl rfl) (ce 1 (N:=["k","moment"]) (cap:=[3]) rfl rfl rfl rfl (by decide) rfl rfl rfl) rfl (bT rfl Kk (aB (pv 1))) (λ_ _ _ _=>(dw (i:=0) (show List.Nodup (α:=Str) ["k","moment"] by decide) rfl (Or.inl (OS rfl)) (Or.inr (OS rfl)))) (λ_ _ _ _=>bv) (λ_ _ _ _=>(ad (aU (pv 1) ae ae (aq aL))))) (aa (aP 7 sc__law_long (aw cz (pv 7) (cE 1 ["k","moment"] [3] (bT rfl Kk (aB (pv 2))) (λn _ _ _ _=>(cO 0 n)) (λ_ _ _ _=>bv) (λ_ _ _ _=>(ad (aU (pv 1) ae ae ab)))))) (aa (aP 7 sc__law_long (aw cz (pv 7) (aw CK (aq (aB (ad (aU ab ae ae (aq aL))))) (bK yj Mn (aB (cv jF (pv 3) ab)))))) (aa (cr (aH Kd hr rfl (aU (pv 6) (pv 7) (cv bi (aw br (pv 0) ab) ab) ab)) (jg 2 rfl (aE (aX 8 sc__law_long) (aE (aX 9 sc__law_long) bq)))) (aa (dL (i:=10) sc__law_long.nd rfl (Or.inl rfl) (ce 1 (N:=["k","moment"]) (cap:=[3]) rfl rfl rfl rfl (by decide) rfl rfl rfl) rfl (bT rfl Kk (aB (pv 1))) (λ_ _ _ _=>(dw (i:=0) (show List.Nodup (α:=Str) ["k","moment"] by decide) rfl (Or.inl (OS rfl)) (Or.inr (OS rfl)))) (λ_ _ _ _=>bv) (λ_ _ _ _=>(ad (aU (pv 1) (aw aY (pv 0) ab) ae ae)))) (aa (aP 10 sc__law_long (aw cz (pv 10) (cE 1 ["k","moment"] [3] (bT rfl Kk (aB (pv 2))) (λn _ _ _ _=>(cO 0 n)) (λ_ _ _ _=>bv) (λ_ _ _ _=>(ad (cT (pv 1) (aU ab ae ae ab))))))) (aa (aP 10 sc__law_long (aw cz (pv 10) (cE 1 ["k","hands","moment"] [1,3] (bT rfl Kk (aB (aw cC (aw cC ab (pv 1)) (pv 2)))) (λn _ _ _ _=>(cO 0 n)) (λ_ _ _ _=>bv) (λ_ _ _ _=>(ad (aU (pv 2) (aw aY ab (aw br (pv 0) (pv 1))) ae ab)))))) (aa (aJ (PW.pt (kW (aM nK (pv 9) ab) (j5 (dv (bX (aH Kb hr rfl (bc (pv 8) (ad (aB ae)) (pv 10)))))))) (ac (az ci)) aG) (aa (aO (bj K5 hr (pv 8) (aB (aW Ld hr (fJ KR hr rfl (bc (pv 6) (pv 7) (kx KI hr rfl))))))) (aa (cZ O1.never (aM fD (aW JL hr (pv 8)) bp) (ac (aO (aW Kg hr (pv 8))))) (ac (az (aH Kb hr rfl (bc (pv 8) (ad (aB ae)) (pv 10))))))))))))))))))))),?_⟩
 refine hid λT e=>?_
 refine⟨_,rfl,a,3,rfl,by decide,by decide,λm1 _ _=>⟨m1,5,rfl,rfl,(by decide:(0:Int)<5),1,m1%5,rfl,rfl,?_⟩⟩
 obtain⟨h,eh,h1,h5⟩:∃h:Nat,1+m1%5=(h:Int)/\1<=h/\h<=5:=⟨(1+m1%5).toNat,by lia,by lia,by lia⟩
 dsimp only
 rw [eh]
 subst e
 refine hid λT e=>?_
 refine⟨_,rfl,a,9,rfl,by decide,by decide,λm2 _ _=>⟨m2,4,rfl,rfl,(by decide:(0:Int)<4),?_⟩⟩
 obtain⟨b,eb,hb⟩:∃b:Nat,m2%4=(b:Int)/\b<=3:=⟨(m2%4).toNat,by lia,by lia⟩
 dsimp only
 rw [eb]
 subst e
 refine hid λT e=>?_
 refine⟨_,rfl,a,4,rfl,by decide,by decide,λm3 _ _=>⟨m3,1001,rfl,rfl,(by decide:(0:Int)<1001),?_⟩⟩
 obtain⟨mo,em,m0,mk⟩:∃mo:Int,m3%1001=mo/\0<=mo/\mo<=1000:=⟨_,rfl,by lia,by lia⟩
 dsimp only
 rw [em]
 clear eh eb em
 simp only [_L.start,Ng,N0,M8,NI,Nat.reduceAdd,Nat.reduceSub,Nd,NN,NO,M5,M6]
 subst e
 refine hid λT e=>?_
 show jI _ _ _ _
 refine DE.use (K:=K) (R:=id) (d:=.list [.tuple (tW true),.tuple (tW false)]) (by repeat infer_instance) λv4 H1 g1 r4=>?_
 refine⟨_,rfl,a,8,rfl,by decide,by decide,λm4 _ _=>⟨m4,2,rfl,rfl,(by decide:(0:Int)<2),tT (R:=id) (λ_ _ h=>h) r4 (by lia) (by show m4%2<2;lia) λv4 d hd r4=>?_⟩⟩
 obtain⟨c,rfl⟩:∃c,d= .tuple (tW c):=by
  simp only [Na,MT,or_false] at hd
  rcases hd with rfl | rfl
  ·exact⟨true,rfl⟩
  ·exact⟨false,rfl⟩
 clear hd
 simp only [M5,M6]
 subst e
 refine hid λT e=>?_
 refine DE.use (K:=K) (R:=id) (d:=.list (Bt c)) (by repeat infer_instance) λv5 H2 g2 r5=>?_
 simp only [M5,M6]
 subst e
 refine hid λT e=>?_
 refine DE.use (K:=K) (R:=id) (d:=prD none (some (0,999)) (loH c)) (by repeat infer_instance) λv6 H3 g3 r6=>?_
 obtain⟨pp,t',s',rfl,prg,et,es⟩:=kT r6 (Hj c) (MP rfl) (show(["main"]:List Str).Nodup by decide)
 cases t' with
 | some=>cases et
 | none=>
 clear r4 r5 r6 et
 simp only [M5,M6]
 subst e
 refine hid λT e=>?_
 refine DE.use (K:=K) (R:=id) (eN (n:=h) rl_id (F:=λ_=>pQ mo) (by repeat infer_instance) (by lia) λi _ G=>by repeat infer_instance) λv7 H4 g4 r7=>?_
 simp only [M5,M6]
 subst e
 refine hid λT e=>?_
 refine DE.use (K:=K) (R:=id) (jB rl_id (by simp only [MQ,Nh];lia) (gv rl_id.toRv rfl r7) (eN (n:=b) rl_id (F:=λ_=>tV mo) (by repeat infer_instance) (by lia) λi _ G=>by repeat infer_instance)) λv7 H5 g5 r7=>?_
 simp only [M5,M6]
 subst e
 refine hid λT e=>?_
 refine DE.use (K:=K) (R:=id) (d:=.list (loD h b mo)) (jB rl_id (by simp only [MW,MQ,Nh];split<;>simp<;>lia) (gv rl_id.toRv rfl r7) (Hk rl_id (by split<;>lia) (MP rfl) (by repeat infer_instance) (DX rfl))) λv7 H6 g6 r7=>?_
 obtain⟨l7,x7,rfl,e7,_⟩:=cu r7
 replace prg:=prg.same ((g4.trans g5).trans g6)
 have S6:=((((g1.trans g2).trans g3).trans g4).trans g5).trans g6
 clear g1 g2 g3 g4 g5 g6
 have e0:ys0 s'=⟨0,0,0,0,0,[],some (0,999),[],[],none⟩:=by unfold ys0;rw [es]
 have L0:LoI h b mo 0 (ys0 s'):=by rw [e0];exact vM h b mo _
 have R:=G6 (c:=c) (t:=none) L0 m0 mk h1 h5 hb
 simp only [M5,M6]
 subst e
 refine JA λT e=>?_
 refine⟨_,rfl,_,rfl,_,rfl,_,_,rfl,rfl,(by decide:(0:Int)<2),rfl,?_⟩
 refine iy (E:=E0) (mo:=900) prg r7 (B9 h5 hb) (B8 h b mo) R (by decide) λr cc y tg H7 g7 er tz Y i nwy=>?_
 refine⟨r,_,rfl,er,rfl,_,_,rfl,_,_,rfl,rfl,?_⟩
 clear er
 simp only [M5,M6]
 subst e
 refine hid λT e=>?_
 obtain⟨f1,f2,f3,f4,f5,f6,f7,f8,f9⟩:=zx h5 m0 mk i
 refine DE.use (K:=K) (R:=nw H7) (eN (n:=h) rl_nw (F:=λ(k:Nat)=>rw4 mo ((k:Int)+1) [.str "begins",.str "main"]) (by repeat infer_instance) (by lia) λi _ G=>by repeat infer_instance) λv10 H8 g8 r10=>?_
 simp only [M5,M6]
 subst e
 refine hid λT e=>?_
 refine DE.use (K:=K) (R:=nw H7) (jB (kU g8) (by simp only [MQ,Nh];lia) (gv (kU g8).toRv rfl r10) (eN (n:=b) (kU g8) (F:=λ_=>rw4 mo 0 [.str "brings",.str "bin",.int 1]) (eM (kU g8).toRv (vB rfl) oJ) (by lia) λi _ G=>by repeat infer_instance)) λv10 H9 g9 r10=>?_
 simp only [M5,M6]
 subst e
 refine hid λT e=>?_
 refine DE.use (K:=K) (R:=nw H7) (d:=.list (loL h b mo 500)) ?_ λv10 H10 g10 r10=>?_
 ·rw [Hl h5 hb]
  have rl:=kU (g8.trans g9)
  refine jB rl (by simp only [MW,MQ,Nh];lia) (gv rl.toRv rfl r10) (eN (n:=500-(h+b)) rl (F:=λ(k:Nat)=>rw4 mo (1+(k:Int)%(h:Int)) [.str "waits",.int 0]) (eM rl.toRv ?_ oJ) (by lia) λi _ G=>?_)
  ·rw [show((500-(h+b):Nat):Int)=500-(h:Int)-(b:Int) by lia]
   repeat infer_instance
  ·repeat infer_instance
 simp only [M5,M6]
 subst e
 refine Bu λT e=>?_
 have ol:Rp K (off tg H10) v10 (.list (loL h b mo 500)):=Rp.mono (λx u e=>by
  obtain⟨e1,e2⟩:=eX e
  exact oT (Y.tg.off e1) e2) r10
 have oS:Same H (off tg H10):=λx u e=>oT (by
  rcases Np (tg x) with z | z
  ·exact z
  ·have:=nwy x (Nw z)
   rw [S6 _ _ e] at this;cases this) ((((g7.trans g8).trans g9).trans g10) _ _ (S6 _ _ e))
 replace r10:Rp K (id H10) v10 _:=Rp.mono iH r10
 have dn:=(R.en y i).1
 have hh:∀z∈y.hd,Ly 8 (hdD z):=λz hz=>by
  obtain⟨g,nm,row⟩:=z
  cases (show nm= "main" from (f8 _ hz).1)
  exact iT
 replace hh:∀d∈y.hd.map hdD,Ly 8 d:=λd hd=>by
  obtain⟨z,hz,rfl⟩:=List.mem_map.mp hd
  exact hh z hz
 replace Y:=Y.same ((g8.trans g9).trans g10)
 replace r7:Rp K (id H10) (.ref l7) (.list (loD h b mo)):=Rp.mono (((g7.trans g8).trans g9).trans g10) r7
 replace prg:=prg.same (((g7.trans g8).trans g9).trans g10)
 clear g7 g8 g9 g10 e7
 refine⟨_,rfl,rfl,_,rfl,bz (by decide) ?_⟩
 refine⟨_,rfl,DA.use (K:=K) (R:=id) (ds:=[.tuple [.str "long"],.list (loL h b mo 500)]) (by repeat infer_instance) λvs H11 g11 r11=>?_⟩
 cases r11 with | cons a1 r11=>cases r11 with | cons a2 r11=>
 cases r11
 obtain⟨la,xl,rfl,ela,qla⟩:=cu a2
 refine dZ (Y.same g11) dn f1 f2 (lG rfl a1) (by rw [f3];exact a2) (by decide) (by rw [f3];exact Ca) hh λH12 g12=>⟨_,rfl,bz (by decide) ?_⟩
 replace Y:=Y.same (g11.trans g12)
 replace r7:Rp K (id H12) (.ref l7) (.list (loD h b mo)):=Rp.mono (g11.trans g12) r7
 replace prg:=prg.same (g11.trans g12)
 replace ol:=Rp.mono (jS (g11.trans g12)) ol
 replace oS:=oS.trans (jS (g11.trans g12))
 replace r10:Rp K (id H12) v10 _:=Rp.mono (g11.trans g12) r10
 clear g11 g12 a1 a2 ela qla
 dsimp only [jE]
 subst e
 refine Bu λT e=>?_
 refine⟨_,rfl,_,_,_,rfl,Y.obj,rfl,?_⟩
 refine⟨_,rfl,_,rfl,λag dxa H13 na nda g13 ha hda=>⟨ag,dxa,rfl,ha,λal H14 nl k14 la=>⟨rfl,?_⟩⟩⟩
 have S14:Same H12 H14:=λx u e=>k14 x u (λz=>by rw [z,na] at e;cases e) (g13 _ _ e)
 intro y2 dx2 H15 ny nd2 g15 hy hd2
 obtain⟨tg0,bn,t1,t2⟩:=tw S14 (Ag.LA.ao la) na (g13.free nl) ny g15 hy
 refine⟨⟨y2,dx2,pp,l7,ag,al,true,H12,none,s',(loH c).map Hm.n,loO h b mo,loD h b mo,tg0⟩,rfl,⟨bn,hy,t1,t2,prg,r7,B9 h5 hb,B8 h b mo⟩,λv H16 w16=>?_⟩
 obtain⟨rfl,S16,c2,tg2,rfl,Y2,_⟩:=w16
 dsimp only at S16 Y2
 refine⟨rfl,_,_,_,rfl,Y2.obj,rfl,⟨_,c2,_,tg2⟩,rfl,⟨Y2,rfl,rfl⟩,λv H17 w17=>?_⟩
 obtain⟨g17,z17⟩:=w17
 obtain⟨ka,xk,rfl,ek,_⟩:=bm z17
 replace Y:=Y.same (S16.trans g17)
 replace ol:=Rp.mono (jS (S16.trans g17)) ol
 replace oS:=oS.trans (jS (S16.trans g17))
 have z17:Fz K H17 (.ref ka) (.tuple [.tuple [],.tuple [],.tuple [ftl 0],.tuple [],.tuple [],.int (0:Nat),.int ((loO h b mo).length:Nat)]):=by
  have e:(w9 (dO ((loH c).map Hm.n) none (loO h b mo)) (ys0 s'))= [.tuple [],.tuple [],.tuple [ftl 0],.tuple [],.tuple [],.int (0:Nat),.int ((loO h b mo).length:Nat)]:=by
   rw [e0]
   unfold w9
   rw [show((dO ((loH c).map Hm.n) none (loO h b mo)).out.length:Int)-((0:Nat):Int)=((loO h b mo).length:Nat) from Int.sub_zero _];rfl
  rw [<-e];exact z17
 refine⟨⟨(ka,0,_,999,0,((loO h b mo).length:Nat)),⟨loP c none h b mo,cc,y,tg⟩⟩,rfl,⟨Y,z17,rfl,f7,Int.natCast_nonneg _,Int.le_refl _⟩,λv H18 w18=>?_⟩
 obtain⟨rfl,c3,tg3,e3,Y3,g3,_⟩:=w18
 dsimp only at Y3 e3 g3
 replace ol:=Rp.mono (oU g3) ol
 replace oS:=oS.trans (oU g3)
 have J3:LoJ h b mo 0 (y.again (loP c none h b mo) 0 999 0 ((loO h b mo).length:Nat)):=.inl ⟨Nk _,by
  have:=vM h b mo y.stm
  unfold YS.again
  rw [show((loP c none h b mo).out.length-((loO h b mo).length:Nat):Int)=0 from Int.sub_self _];exact this⟩
 rw [<-e3]
 dsimp only
 subst e
 refine Bu λT e=>?_
 refine⟨LoW C K h b mo c a v4 v5 pp l7 c3.y v10 H,⟨501,0,c3,tg3,_,rfl,rfl,rfl,Y3,J3,ol,oS⟩,λn σ H19 z=>?_⟩
 clear Y3 J3 ol oS Y e3 g3
 obtain⟨k,c4,tg4,y4,ek,ey,rfl,Y4,J4,ol,oS⟩:=z
 rw [<-ey]
 have bk:=R.bd k y4 J4
 have dn4:y4.done<=(loP c none h b mo).out.length:=by
  rcases NW bk with z | z
  ·exact(R.go k y4 z J4).1.1
  ·rw [z] at J4;exact(R.en y4 J4).1
 refine⟨_,rfl,_,_,_,rfl,Y4.obj,rfl,⟨loP c none h b mo,c4,y4,tg4⟩,rfl,⟨Y4,dn4⟩,λv H20 w20=>?_⟩
 obtain⟨rfl,rfl⟩:=w20
 refine⟨rfl,_,rfl,?_⟩
 dsimp only
 rcases NW bk with z | z
 ·obtain⟨so,nn,J5⟩:=R.go k y4 z J4
  obtain⟨m,em⟩:=Option.ne_none_iff_exists'.mp nn
  refine di (by simp [em,eE]) ⟨LoW C K h b mo c a v4 v5 pp l7 c4.y v10 H (n-1),λσ' H' w=>⟨n-1,by lia,w⟩,?_⟩
  refine⟨_,rfl,_,_,_,rfl,Y4.obj,rfl,⟨loP c none h b mo,c4,y4,tg4⟩,rfl,⟨Y4,so⟩,λv H21 w21=>?_⟩
  obtain⟨rfl,c5,tg5,e5,Y5,g5⟩:=w21
  exact⟨k+1,c5,tg5,_,by lia,e5,rfl,Y5,J5,Rp.mono (oU g5) ol,oS.trans (oU g5)⟩
 ·rw [z] at J4
  obtain⟨f1,f2,f3,f4,f5,f6,f7,f8,f9⟩:=zx h5 m0 mk J4
  have nn:y4.next (loP c none h b mo)=none:=vE (by rw [f2];intro z;cases z)
  refine bz (by simp [nn,eE]) ?_
  subst e
  have hh:∀d∈y4.hd.map hdD,Ly 8 d:=λd hd=>by
   obtain⟨⟨g,nm,row⟩,hz,rfl⟩:=List.mem_map.mp hd
   cases (show nm= "main" from (f8 _ hz).1)
   exact iT
  have r10:Rp K (id H20) v10 (.list (loL h b mo 500)):=Rp.mono zB ol
  refine⟨_,rfl,DA.use (K:=K) (R:=id) (ds:=[.tuple [.str "long"],.list (loL h b mo 500)]) (by repeat infer_instance) λvs H22 g22 r22=>?_⟩
  cases r22 with | cons a1 r22=>cases r22 with | cons a2 r22=>
  cases r22
  obtain⟨la,xl,rfl,ela,qla⟩:=cu a2
  exact dZ (Y4.same g22) dn4 f1 f2 (lG rfl a1) (by rw [f3];exact a2) (by decide) (by rw [f3];exact Ca) hh λH23 g23=>q _ _ ⟨rfl,((oS.trans zB).trans g22).trans g23⟩
end
theorem tX(ns:List Int)(lo hi:Option Int):∃ms:List Int,eA (ns.map V.int) lo hi=ms.map V.int/\ms.length<=ns.length:=by
 have e:eA (ns.map V.int) lo hi=((ns.drop (_T.sIx (ns.map V.int).length 0 lo)).take (_T.sIx (ns.map V.int).length (ns.map V.int).length hi-_T.sIx (ns.map V.int).length 0 lo)).map V.int:=by unfold eA;rw [<-Ov,<-Ou]
 refine⟨_,e,?_⟩
 rw [NT,N7];lia
theorem Bv(g:Same H H')(h:SqL K H a xs):SqL K H' a xs:=by
 rcases h with (h | ⟨o,h⟩) | h
 ·exact .inl (.inl (g _ _ h))
 ·exact .inl (.inr ⟨o,g _ _ h⟩)
 ·exact .inr h
theorem oV(hc:∀R:Bool->Hp->Prop,(∀b H',Same H H'->R b H')->tc σ H R)(e:σ[1]? =some (some (.int n)))(q:∀H',Same H H'->D.nx σ H'):oW (zD tc (zE (tB (wl spT (cP (dF 1) fF))))) tr jE D σ H:=hc _ λb H1 g1=>by
 cases b with
 | false=>exact q H1 g1
 | true=>exact⟨_,e,n,rfl,trivial,λv H2 z=>⟨true,z.1,q H2 (g1.trans z.2)⟩⟩
def LwI(a:Addr)(H4:Hp)(_:Nat)(σ:_L.St)(H:Hp):Prop:=∃v1 v2:Option V,σ= [some (.ref a),v1,v2]/\Same H4 H
section
variable{P:OR}{w:OV}{K:N5}{mg:Str->Option OL}{base:Heap}
theorem Ho(F:Fun K "law" "law" wM fa fd)(JT:OkD P w K mg base 1 "_law_stir" ["cell","k"] iw)(KO:OkD P w K mg base 30 "_law_by_expression" ["cell"] spT)(Lg:OkD P w K mg base 30 "_law_endless" ["cell"] spT)(LB:OkD P w K mg base 30 "_law_many" ["cell"] spT)(LC:OkD P w K mg base 30 "_law_long" ["cell"] spT)(Mo:mg "sum" =none):eu P w K mg base CX0 31 fa fd ["script"] (wm K):=by
 refine F.ok sF (λvs H Q E h=>?_) (λcdv A outer s H vs Q E hr h=>?_)
 ·obtain⟨a,ns,rfl,_⟩:=h;rfl
 obtain⟨a,ns,rfl,hS,h63,q⟩:=h
 have hu:=cn hr
 refine⟨_,(aa (cB O1.never rfl (bM (aw cz (aq (aB (fM (Ac rfl) Mo (aB (jH EW (pv 0) kY (kZ ab)))))) (jH EW (pv 0) kY (kZ ab)))) (aX 1 sF) (aa (aP 2 sF (aw br (aH JT hr rfl (aA (pv 1) ab)) ab)) (aa (aJ (PW.pt (dG (aM jF (pv 2) ab) (cR (dv (bX (aH KO hr rfl (aB (pv 1)))))))) (ac (az ci)) aG) (aa (aJ (PW.pt (dG (gK kn (pv 2) (ad (aA ab ab)) (by with_unfolding_all rfl)) (cR (dv (bX (aH Lg hr rfl (aB (pv 1)))))))) (ac (az ci)) aG) (aa (aJ (PW.pt (dG (aM bi (pv 2) ab) (cR (dv (bX (aH LB hr rfl (aB (pv 1)))))))) (ac (az ci)) aG) (ac (aJ (PW.pt (dG (aM bi (pv 2) ab) (cR (dv (bX (aH LC hr rfl (aB (pv 1)))))))) (ac (az ci)) aG))))))) (ac (az ci))),?_⟩
 apply cI
 simp only [cF]
 symm
 obtain⟨ms,em,lm⟩:=tX ns none (some 63)
 obtain⟨ks,ek,lk⟩:=tX ns none (some 5)
 refine⟨a,_,rfl,hS,λp1 H1 _ g1 e1=>?_⟩
 rw [em] at e1
 refine⟨p1,rfl,ms,rfl,e1,?_⟩
 refine⟨MP rfl,λp2 H2 _ g2 e2=>?_⟩
 refine⟨_,rfl,5,rfl,a,_,rfl,Bv (g1.trans g2) hS,λp3 H3 _ g3 e3=>?_⟩
 rw [ek] at e3
 refine⟨p2,p3,_,_,rfl,rfl,g3 _ _ e2,e3,by (rw [MQ];show 1+ks.length<=_;unfold ON;lia),λp4 H4 _ g4 e4=>?_⟩
 have e4:=e4
 refine⟨p4,rfl,⟨_,SqL.of e4⟩,?_⟩
 have S4:=((g1.trans g2).trans g3).trans g4
 clear g1 g2 g3 g4 e1 e2 e3 em ek
 refine mh (xs:=(ms.sum::ks).map V.int) (LwI a H4) ⟨none,none,rfl,λ_ _ h=>h⟩ (λi σ H5 _ z=>?_) ?_ ?_
 ·obtain⟨v1,v2,_,g⟩:=z
  exact SqL.of (g _ _ e4)
 ·rintro i x σ H5 hx ⟨v1,v2,rfl,g5⟩
  obtain⟨n,rfl⟩:∃n,x=V.int n:=by
   rw [M4] at hx
   obtain⟨n,_,e⟩:=Option.map_eq_some_iff.mp hx
   exact⟨n,e.symm⟩
  clear hx
  dsimp only [bW,cS,cG]
  refine⟨_,rfl,n,2,rfl,by decide,by decide,λm _ _=>⟨m,8,rfl,rfl,(by decide:(0:Int)<8),?_⟩⟩
  dsimp only
  simp only [M5,M6]
  refine oV (λR hR=>⟨_,rfl,_,_,rfl,rfl,_,rfl,hR _ _ λ_ _ h=>h⟩) rfl λH6 g6=>?_
  dsimp only
  refine oV (λR hR=>⟨_,rfl,MP rfl,λp H' _ g e=>⟨p,_,rfl,.inl e,rfl,rfl,_,rfl,hR _ _ g⟩⟩) rfl λH7 g7=>?_
  dsimp only
  refine oV (λR hR=>⟨_,rfl,rfl,_,rfl,hR _ _ λ_ _ h=>h⟩) rfl λH8 g8=>?_
  dsimp only
  refine oV (λR hR=>⟨_,rfl,rfl,_,rfl,hR _ _ λ_ _ h=>h⟩) rfl λH9 g9=>?_
  exact⟨_,_,rfl,(((g5.trans g6).trans g7).trans g8).trans g9⟩
 ·rintro σ H5 ⟨v1,v2,rfl,g5⟩
  exact q H5
end
end _K
namespace _K
open PySem _L PySem.W
noncomputable abbrev Cc(K:N5):CA:=⟨_D.adr K "ListAgenda",_D.adr K "HeapAgenda",_D.adr K "Goods",_D.adr K "Tool",_D.adr K "Store",_D.adr K "PlainYard",_D.adr K "Hand"⟩
noncomputable def hadL:List (Str×Str):=[("take","takes"),("put","puts"),("get","gets")]
def Bw(K:N5)(C:Addr):Bool:=match Qm K (.ref C) with
 | some (.type t)=>t== "type"
 | _=>false
theorem DY{K:N5}{C:Addr}(h:Bw K C=true):Qm K (.ref C)=some (.type "type"):=by
 unfold Bw at h
 split at h
 ·rename_i t e;rw [e,beq_iff_eq.mp h]
 ·cases h
def Bx(K:N5):Bool:=match nsIn K QJ "thirdparty.any" with
 | some none=>true
 | _=>false
theorem DZ{K:N5}(h:Bx K=true):nsIn K QJ "thirdparty.any" =some none:=by
 unfold Bx at h
 split at h
 ·assumption
 ·cases h
def xh(K:N5)(a b:Addr):Bool:=match OP K (.ref a) (.ref b) with
 | some true=>true
 | _=>false
theorem Bz{K:N5}{a b:Addr}(h:xh K a b=true):OP K (.ref a) (.ref b)=some true:=by
 unfold xh at h
 split at h
 ·assumption
 ·cases h
theorem D5{K:N5}{mg:Str->Option OL}{x q:Str}{st:Stmt}{ps:List Str}{C:Addr}(h:mg x=some (.ref C))(ty:Qm K (.ref C)=some (.type "type"))(op:nsIn K QJ "thirdparty.any" =some none)(M:MethAt K C "__init__" q st ps):InitAt K mg x st q ps:=by
 obtain⟨f,fd,h1,h2,h3⟩:=M.ex
 exact⟨C,f,fd,h,ty,op,h1,h2,h3⟩
end _K
namespace _K
open PySem _L
noncomputable def sees:List Nat:=[5,6,7,8,12,14,15,16,17,18,29,30,31,32,35,36,37,38,41,42,43,44,46,47,48,49,50,51,52,53,54]
noncomputable def mets:List (Str×Str×Nat):=[("Tool","Tool.__init__",2),("Store","Store.__init__",3),("Goods","Goods.__init__",4),("Hand","Hand.__init__",24),("ListAgenda","ListAgenda.__init__",27),("HeapAgenda","HeapAgenda.__init__",28),("PlainYard","PlainYard.__init__",40)]
abbrev mq(a b c:Str)(i j:Nat):Str×Str×Str×Nat×Nat:=(a,b,c,i,j)
noncomputable def mths:List (Str×Str×Str×Nat×Nat):=[mq "Goods" "bring" "Goods.bring" 4 5,mq "Goods" "leave" "Goods.leave" 4 6,mq "Goods" "tools" "Goods.tools" 4 7,mq "Goods" "stores" "Goods.stores" 4 8,mq "Goods" "stand" "Goods.stand" 4 9,mq "ListAgenda" "put" "ListAgenda.put" 27 1,mq "HeapAgenda" "put" "HeapAgenda.put" 28 1,mq "ListAgenda" "first" "ListAgenda.first" 27 2,mq "HeapAgenda" "first" "HeapAgenda.first" 28 2,mq "ListAgenda" "take" "ListAgenda.take" 27 3,mq "HeapAgenda" "take" "HeapAgenda.take" 28 3,mq "ListAgenda" "in_order" "ListAgenda.in_order" 27 4,mq "HeapAgenda" "in_order" "HeapAgenda.in_order" 28 4,mq "ListAgenda" "stand" "ListAgenda.stand" 27 5,mq "HeapAgenda" "stand" "HeapAgenda.stand" 28 5,mq "PlainYard" "next_moment" "Yard.next_moment" 25 1,mq "PlainYard" "outer_is_next" "Yard.outer_is_next" 25 2,mq "PlainYard" "step" "Yard.step" 25 3,mq "PlainYard" "do_outer" "Yard.do_outer" 25 4,mq "PlainYard" "log" "Yard.log" 25 7,mq "PlainYard" "end" "Yard.end" 25 9,mq "PlainYard" "view" "Yard.view" 25 10,mq "PlainYard" "kept" "Yard.kept" 25 11,mq "PlainYard" "stand" "Yard.stand" 25 12,mq "PlainYard" "lay" "Yard.lay" 25 13,mq "PlainYard" "wake" "Yard.wake" 25 14,mq "PlainYard" "begin" "Yard.begin" 25 15,mq "PlainYard" "end_hand" "Yard.end_hand" 25 16,mq "PlainYard" "enter_statement" "Yard.enter_statement" 25 18,mq "PlainYard" "stop_by" "Yard.stop_by" 25 19,mq "PlainYard" "deed" "Yard.deed" 25 20,mq "PlainYard" "wait" "Yard.wait" 25 21,mq "PlainYard" "go_on" "PlainYard.go_on" 40 1,mq "PlainYard" "do" "PlainYard.do" 40 2,mq "PlainYard" "reckon" "PlainYard.reckon" 40 3,mq "Yard" "__init__" "Yard.__init__" 25 0]
noncomputable def see(p:OR)(K:N5):=(sees.map λi=>_D.jk K (p.main.body.getD i (.Pass ⟨0,0,0,0⟩)),_D.All [_D.d6 K "len",
 _D.d6 K "int",
 _D.d6 K "min",
 _D.d6 K "max",
 _D.d6 K "range",
 _D.d6 K "list",
 _D.d6 K "dict",
 _D.d6 K "sorted",
 _D.d6 K "sum",
 _D.d6 K "tuple",
 _D.d6 K "isinstance",
 _D.d6 K "enumerate",
 _D.d6 K "zip",
 _D.d6 K "abs",
 _D.isInt K "MOST_WORTH" (1000000),
 _D.isInt K "MOST_STATEMENTS" (100),
 _D.isInt K "MOST_HANDS" (60),
 _D.isInt K "MOST_HAPPENINGS" (500),
 _D.fc K "Tool",
 _D.dX K (_D.adr K "Tool") ["free","held","queue"],
 _D.fc K "Store",
 _D.dX K (_D.adr K "Store") ["level","most","getters","putters"],
 _D.fc K "Goods",
 _D.dX K (_D.adr K "Goods") ["by_tool","by_store"],
 _D.fc K "Hand",
 _D.dX K (_D.adr K "Hand") ["number","name","row","known"],
 _D.fc K "ListAgenda",
 _D.dX K (_D.adr K "ListAgenda") ["things"],
 _D.fc K "HeapAgenda",
 _D.dX K (_D.adr K "HeapAgenda") ["heap","turn"],
 _D.fc K "PlainYard",
 _D.dX K (_D.adr K "PlainYard") ["names","drawn","places","outer","outer_done","agenda","goods","hands","begun","now","happenings","statements","laid","stopped","bodies"],
 _D.fc K "Yard",
 Bw K (_D.adr K "Yard"),
 Bx K,
 xh K (_D.adr K "PlainYard") (_D.adr K "Yard"),
 _D.fc K "HAD",
 !(_D.adr K "HAD" ==Pi)],
 mets.map λx=>_D.lw K (_D.adr K x.1) "__init__" x.2.1,
 mths.map λx=>_D.pA K (_D.adr K x.1) x.2.1 x.2.2.1,
 _D.pj K (_D.adr K "HAD"))
noncomputable def saw(p:OR)(w:OV):=(sees.map λi=>_D.eZ (_D.cA (p.main.body.getD i (.Pass ⟨0,0,0,0⟩))) (_D.cA (p.main.body.getD i (.Pass ⟨0,0,0,0⟩))) (p.main.body.getD i (.Pass ⟨0,0,0,0⟩)),true,
 (mets.map λx=>_D.eZ "__init__" x.2.1 (aQ (p.main.body.getD x.2.2 (.Pass ⟨0,0,0,0⟩)) 0):List _D.gZ),
 (mths.map λx=>_D.eZ x.2.1 x.2.2.1 (aQ (p.main.body.getD x.2.2.2.1 (.Pass ⟨0,0,0,0⟩)) x.2.2.2.2):List _D.gZ),
 (some (OL.type "dict",none, #[],hadL.map λp=>(qZ w (.inr p.1),some p.1,some p.2)):Option (OL×Option Addr×Array (Option OL)×List (Int×Option Str×Option Str))))
local macro_rules
| `(tactic| walk_at "b1") => `(tactic| exact fun _ _ _ _ _ _ us hl => _L.len1 us hl (fun _ => rfl))
| `(tactic| walk_at "b2") => `(tactic| exact fun _ _ _ _ _ _ us hl => _L.len2 us hl (fun _ _ => rfl))
| `(tactic| walk_at "b3") => `(tactic| exact fun _ _ _ _ _ _ us hl => _L.len3 us hl (fun _ _ _ => rfl))
| `(tactic| walk_at "b4") => `(tactic| exact fun _ _ _ _ _ _ us hl => _L.len4 us hl (fun _ _ _ _ => rfl))
| `(tactic| walk_at "b5") => `(tactic| exact fun _ _ _ _ _ _ us hl => _L.len5 us hl (fun _ _ _ _ _ => rfl))
theorem Hq{l:SA}{w:OV}{K:N5}{h:Heap}{mg:Str->Option OL}{fa:Addr}(S:see PySem.Challenge.pw_rerunyard_k33_stops_known K=saw PySem.Challenge.pw_rerunyard_k33_stops_known w)(X:K.In h)(G:h.Ns OX mg)(hfa:mg "law" =some (.ref fa)):
 ∃fd:Rq,(∀(s:OO) (v:OL),Ry s fd ⟨[v],[]⟩ [("script",v)])/\∀base:Heap,K.In base->base.Ns OX mg->eu l.prog w K mg base CX0 31 fa fd ["script"] (wm K):=by
 have E:=congrArg Prod.fst S
 have B:=congrArg (λx=>x.2.1) S
 have C:=congrArg (λx=>x.2.2.1) S
 have D:=congrArg (λx=>x.2.2.2.1) S
 have C43:=congrArg (λx=>x.2.2.2.2) S
 obtain⟨C0,C⟩:=_D.aF C
 obtain⟨C1,C⟩:=_D.aF C
 obtain⟨C2,C⟩:=_D.aF C
 obtain⟨C3,C⟩:=_D.aF C
 obtain⟨C4,C⟩:=_D.aF C
 obtain⟨C5,C⟩:=_D.aF C
 obtain⟨C6,C⟩:=_D.aF C
 obtain⟨C7,D⟩:=_D.aF D
 obtain⟨C8,D⟩:=_D.aF D
 obtain⟨C9,D⟩:=_D.aF D
 obtain⟨C10,D⟩:=_D.aF D
 obtain⟨C11,D⟩:=_D.aF D
 obtain⟨C12,D⟩:=_D.aF D
 obtain⟨C13,D⟩:=_D.aF D
 obtain⟨C14,D⟩:=_D.aF D
 obtain⟨C15,D⟩:=_D.aF D
 obtain⟨C16,D⟩:=_D.aF D
 obtain⟨C17,D⟩:=_D.aF D
 obtain⟨C18,D⟩:=_D.aF D
 obtain⟨C19,D⟩:=_D.aF D
 obtain⟨C20,D⟩:=_D.aF D
 obtain⟨C21,D⟩:=_D.aF D
 obtain⟨C22,D⟩:=_D.aF D
 obtain⟨C23,D⟩:=_D.aF D
 obtain⟨C24,D⟩:=_D.aF D
 obtain⟨C25,D⟩:=_D.aF D
 obtain⟨C26,D⟩:=_D.aF D
 obtain⟨C27,D⟩:=_D.aF D
 obtain⟨C28,D⟩:=_D.aF D
 obtain⟨C29,D⟩:=_D.aF D
 obtain⟨C30,D⟩:=_D.aF D
 obtain⟨C31,D⟩:=_D.aF D
 obtain⟨C32,D⟩:=_D.aF D
 obtain⟨C33,D⟩:=_D.aF D
 obtain⟨C34,D⟩:=_D.aF D
 obtain⟨C35,D⟩:=_D.aF D
 obtain⟨C36,D⟩:=_D.aF D
 obtain⟨C37,D⟩:=_D.aF D
 obtain⟨C38,D⟩:=_D.aF D
 obtain⟨C39,D⟩:=_D.aF D
 obtain⟨C40,D⟩:=_D.aF D
 obtain⟨C41,D⟩:=_D.aF D
 obtain⟨C42,D⟩:=_D.aF D
 clear S
 obtain⟨e1,E⟩:=_D.aF E
 obtain⟨e2,E⟩:=_D.aF E
 obtain⟨e3,E⟩:=_D.aF E
 obtain⟨e4,E⟩:=_D.aF E
 obtain⟨e5,E⟩:=_D.aF E
 obtain⟨e6,E⟩:=_D.aF E
 obtain⟨e7,E⟩:=_D.aF E
 obtain⟨e8,E⟩:=_D.aF E
 obtain⟨e9,E⟩:=_D.aF E
 obtain⟨e10,E⟩:=_D.aF E
 obtain⟨e11,E⟩:=_D.aF E
 obtain⟨e12,E⟩:=_D.aF E
 obtain⟨e13,E⟩:=_D.aF E
 obtain⟨e14,E⟩:=_D.aF E
 obtain⟨e15,E⟩:=_D.aF E
 obtain⟨e16,E⟩:=_D.aF E
 obtain⟨e17,E⟩:=_D.aF E
 obtain⟨e18,E⟩:=_D.aF E
 obtain⟨e19,E⟩:=_D.aF E
 obtain⟨e20,E⟩:=_D.aF E
 obtain⟨e21,E⟩:=_D.aF E
 obtain⟨e22,E⟩:=_D.aF E
 obtain⟨e23,E⟩:=_D.aF E
 obtain⟨e24,E⟩:=_D.aF E
 obtain⟨e25,E⟩:=_D.aF E
 obtain⟨e26,E⟩:=_D.aF E
 obtain⟨e27,E⟩:=_D.aF E
 obtain⟨e28,E⟩:=_D.aF E
 obtain⟨e29,E⟩:=_D.aF E
 obtain⟨e30,E⟩:=_D.aF E
 obtain⟨e,E⟩:=_D.aF E
 obtain⟨fd,FL,hbi⟩:=_D.CY (st:=wM) (x:="law") (y:="script") X G e rfl hfa λ_ _ _ _ _ _ s v=>.of_eq rfl
 clear E
 obtain⟨b,B⟩:=_D.all_cons B
 have JZ:=_D.dE X G b
 obtain⟨b,B⟩:=_D.all_cons B
 have Mn:=_D.dE X G b
 obtain⟨b,B⟩:=_D.all_cons B
 have LO:=_D.dE X G b
 obtain⟨b,B⟩:=_D.all_cons B
 have LP:=_D.dE X G b
 obtain⟨b,B⟩:=_D.all_cons B
 have Kk:=_D.dE X G b
 obtain⟨b,B⟩:=_D.all_cons B
 have J9:=_D.dE X G b
 obtain⟨b,B⟩:=_D.all_cons B
 have Kq:=_D.dE X G b
 obtain⟨b,B⟩:=_D.all_cons B
 have KQ:=_D.dE X G b
 obtain⟨b,B⟩:=_D.all_cons B
 have Mo:=_D.dE X G b
 obtain⟨b,B⟩:=_D.all_cons B
 have KH:=_D.dE X G b
 obtain⟨b,B⟩:=_D.all_cons B
 have Kl:=_D.dE X G b
 obtain⟨b,B⟩:=_D.all_cons B
 have Lp:=_D.dE X G b
 obtain⟨b,B⟩:=_D.all_cons B
 have Lv:=_D.dE X G b
 obtain⟨b,B⟩:=_D.all_cons B
 have Mi:=_D.dE X G b
 obtain⟨b,B⟩:=_D.all_cons B
 obtain⟨ME,L8⟩:=_D.og X G b
 obtain⟨b,B⟩:=_D.all_cons B
 obtain⟨Mg,LM⟩:=_D.og X G b
 obtain⟨b,B⟩:=_D.all_cons B
 obtain⟨MF,L9⟩:=_D.og X G b
 obtain⟨b,B⟩:=_D.all_cons B
 obtain⟨Mh,Ln⟩:=_D.og X G b
 obtain⟨b,B⟩:=_D.all_cons B
 have MH:=_D.ff b
 obtain⟨b,B⟩:=_D.all_cons B
 obtain⟨Kj,Mv,Mw,LU⟩:=_D.hG b
 have KC:NoAttr K (_D.adr K "Tool") "free":=LU "free" (by simp)
 have Kh:NoAttr K (_D.adr K "Tool") "held":=LU "held" (by simp)
 have Kr:NoAttr K (_D.adr K "Tool") "queue":=LU "queue" (by simp)
 obtain⟨b,B⟩:=_D.all_cons B
 have Mx:=_D.ff b
 obtain⟨b,B⟩:=_D.all_cons B
 obtain⟨JV,Mp,Mq,LF⟩:=_D.hG b
 have JX:NoAttr K (_D.adr K "Store") "level":=LF "level" (by simp)
 have Ks:NoAttr K (_D.adr K "Store") "most":=LF "most" (by simp)
 have J1:NoAttr K (_D.adr K "Store") "getters":=LF "getters" (by simp)
 have J2:NoAttr K (_D.adr K "Store") "putters":=LF "putters" (by simp)
 obtain⟨b,B⟩:=_D.all_cons B
 have Mz:=_D.ff b
 obtain⟨b,B⟩:=_D.all_cons B
 obtain⟨J0,Mr,Ms,L7⟩:=_D.hG b
 have J6:NoAttr K (_D.adr K "Goods") "by_tool":=L7 "by_tool" (by simp)
 have J7:NoAttr K (_D.adr K "Goods") "by_store":=L7 "by_store" (by simp)
 obtain⟨b,B⟩:=_D.all_cons B
 have MI:=_D.ff b
 obtain⟨b,B⟩:=_D.all_cons B
 obtain⟨JU,MA,MB,LL⟩:=_D.hG b
 have JM:NoAttr K (_D.adr K "Hand") "number":=LL "number" (by simp)
 have KE:NoAttr K (_D.adr K "Hand") "name":=LL "name" (by simp)
 have Km:NoAttr K (_D.adr K "Hand") "row":=LL "row" (by simp)
 have Kf:NoAttr K (_D.adr K "Hand") "known":=LL "known" (by simp)
 obtain⟨b,B⟩:=_D.all_cons B
 have Ma:=_D.ff b
 obtain⟨b,B⟩:=_D.all_cons B
 obtain⟨JN,LV,LW,LY⟩:=_D.hG b
 have JI:NoAttr K (_D.adr K "ListAgenda") "things":=LY "things" (by simp)
 obtain⟨b,B⟩:=_D.all_cons B
 have Mb:=_D.ff b
 obtain⟨b,B⟩:=_D.all_cons B
 obtain⟨JG,LZ,L1,LK⟩:=_D.hG b
 have JH:NoAttr K (_D.adr K "HeapAgenda") "heap":=LK "heap" (by simp)
 have Ke:NoAttr K (_D.adr K "HeapAgenda") "turn":=LK "turn" (by simp)
 obtain⟨b,B⟩:=_D.all_cons B
 have Me:=_D.ff b
 obtain⟨b,B⟩:=_D.all_cons B
 obtain⟨eq,Mc,Md,Kc⟩:=_D.hG b
 have Ku:NoAttr K (_D.adr K "PlainYard") "names":=Kc "names" (by simp)
 have K3:NoAttr K (_D.adr K "PlainYard") "drawn":=Kc "drawn" (by simp)
 have Ka:NoAttr K (_D.adr K "PlainYard") "places":=Kc "places" (by simp)
 have JO:NoAttr K (_D.adr K "PlainYard") "outer":=Kc "outer" (by simp)
 have JE:NoAttr K (_D.adr K "PlainYard") "outer_done":=Kc "outer_done" (by simp)
 have JD:NoAttr K (_D.adr K "PlainYard") "agenda":=Kc "agenda" (by simp)
 have JR:NoAttr K (_D.adr K "PlainYard") "goods":=Kc "goods" (by simp)
 have JK:NoAttr K (_D.adr K "PlainYard") "hands":=Kc "hands" (by simp)
 have JQ:NoAttr K (_D.adr K "PlainYard") "begun":=Kc "begun" (by simp)
 have JF:NoAttr K (_D.adr K "PlainYard") "now":=Kc "now" (by simp)
 have JJ:NoAttr K (_D.adr K "PlainYard") "happenings":=Kc "happenings" (by simp)
 have JP:NoAttr K (_D.adr K "PlainYard") "statements":=Kc "statements" (by simp)
 have J8:NoAttr K (_D.adr K "PlainYard") "laid":=Kc "laid" (by simp)
 have JC:NoAttr K (_D.adr K "PlainYard") "stopped":=Kc "stopped" (by simp)
 have Kp:NoAttr K (_D.adr K "PlainYard") "bodies":=Kc "bodies" (by simp)
 obtain⟨b,B⟩:=_D.all_cons B
 have MJ:=_D.ff b
 have Mt:=Rw X G MJ
 obtain⟨b,B⟩:=_D.all_cons B
 have MC:=DY b
 obtain⟨b,B⟩:=_D.all_cons B
 have MD:=DZ b
 obtain⟨b,B⟩:=_D.all_cons B
 have kYd:=Bz b
 obtain⟨b,B⟩:=_D.all_cons B
 have Mm:=Rw X G (_D.ff b)
 obtain⟨b,B⟩:=_D.all_cons B
 have MK:(_D.adr K "HAD" ==Pi)=false:=by simpa using b
 clear B
 have Ml:KD l.prog w K (_D.adr K "HAD") Gk:=_D.CZ C43 MK (by decide)
 refine⟨fd,hbi,λbase _ _=>?_⟩
 exact by
  have L3:=Da (P:=l.prog) (w:=w) (mg:=mg) (base:=base) (_D.fL X G MH Mv Mw C0 (by walk_at "b2")) Kj KC Kh Kr
  have LQ:=Az (P:=l.prog) (w:=w) (mg:=mg) (base:=base) (_D.fL X G Mx Mp Mq C1 (by walk_at "b3")) JV JX Ks J1 J2
  have LG:=wN (_D.aV X G e1 rfl (by walk_at "b1")) L3 Kq
  have Lw:=uo (_D.aV X G e2 rfl (by walk_at "b1")) LQ Kq
  have LS:=AA (C:=Cc K) (_D.fL X G Mz Mr Ms C2 (by walk_at "b2")) J0 J6 J7 LG Lw
  have Lx:=Db (P:=l.prog) (w:=w) (mg:=mg) (base:=base) (_D.aV X G e3 rfl (by walk_at "b1")) Kj KC Kh Kr KQ J9
  have Lr:=AB (P:=l.prog) (w:=w) (mg:=mg) (base:=base) (_D.aV X G e4 rfl (by walk_at "b1")) JV JX J1 J2 J9
  have Ll:=AC (C:=Cc K) (_D.aT C9 (by walk_at "b1")) J0 J6 Lx
  have Lf:=yE (C:=Cc K) (_D.aT C10 (by walk_at "b1")) J0 J7 Lr
  have K6:=AD (P:=l.prog) (w:=w) (mg:=mg) (base:=base) (_D.aV X G e5 rfl (by walk_at "b1")) JV JX Ks J1 J2
  have Lj:=AE (C:=Cc K) (_D.aT C7 (by walk_at "b3")) J0 J7 JV JX Ks K6 LO LP
  have Li:=AG (P:=l.prog) (w:=w) (mg:=mg) (base:=base) (C:=Cc K) (_D.aT C8 (by walk_at "b2")) J0 J6 Kj Kh J9
  have LD:=Ag.ok_swap (P:=l.prog) (w:=w) (mg:=mg) (base:=base) (_D.aV X G e14 rfl (by walk_at "b3"))
  have KM:=Ag.ok_three (P:=l.prog) (w:=w) (mg:=mg) (base:=base) (_D.aV X G e13 rfl (by walk_at "b2")) JZ
  have L4:=Ag.ok_rise (_D.aV X G e11 rfl (by walk_at "b1")) LD JZ
  have L5:=Ag.ok_sink (_D.aV X G e12 rfl (by walk_at "b1")) LD KM
  have KI:=Ag.ok_LI (P:=l.prog) (w:=w) (mg:=mg) (base:=base) (_D.fL X G Ma LV LW C4 (by walk_at "b1")) JN JI
  have KA:=Ag.ok_LPut (P:=l.prog) (w:=w) (mg:=mg) (base:=base) (_D.aT C12 (by walk_at "b3")) JN JI JZ
  have Kn:=Ag.ok_LFst (P:=l.prog) (w:=w) (mg:=mg) (base:=base) (_D.aT C14 (by walk_at "b1")) JN JI
  have Ky:=Ag.ok_LTake (P:=l.prog) (w:=w) (mg:=mg) (base:=base) (_D.aT C16 (by walk_at "b1")) JN JI
  have KJ:=Ag.ok_LOrd (P:=l.prog) (w:=w) (mg:=mg) (base:=base) (_D.aT C18 (by walk_at "b1")) JN JI J9
  have Ls:=Ag.ok_HI (P:=l.prog) (w:=w) (mg:=mg) (base:=base) (_D.fL X G Mb LZ L1 C5 (by walk_at "b1")) JG JH Ke
  have KB:=Ag.ok_HPut (_D.aT C13 (by walk_at "b3")) JG JH Ke L4
  have Ko:=Ag.ok_HFst (P:=l.prog) (w:=w) (mg:=mg) (base:=base) (_D.aT C15 (by walk_at "b1")) JG JH
  have Kz:=Ag.ok_HTake (_D.aT C17 (by walk_at "b1")) JG JH L5
  have KL:=Ag.ok_HOrd (P:=l.prog) (w:=w) (mg:=mg) (base:=base) (_D.aT C19 (by walk_at "b1")) JG JH KQ
  have Lo:=Wo.ok_reck (P:=l.prog) (w:=w) (mg:=mg) (base:=base) (_D.aV X G e17 rfl (by walk_at "b3"))
  have Lu:=Wo.ok_bounded (P:=l.prog) (w:=w) (mg:=mg) (base:=base) (_D.aV X G e18 rfl (by walk_at "b1")) L8 Mi
  have KU:=Wo.ok_name (P:=l.prog) (w:=w) (mg:=mg) (base:=base) (_D.aV X G e16 rfl (by walk_at "b2"))
  have Lq:=Wo.ok_worth (_D.aV X G e15 rfl (by walk_at "b4")) KU Lo Lu 4
  have JY:=Gf (P:=l.prog) (w:=w) (mg:=mg) (base:=base) (C:=Cc K) (_D.aT C31 (by walk_at "b3")) eq JF J8
  have JW:=wU (C:=Cc K) (_D.aT C23 (by walk_at "b1")) eq JE JO JD Kn Ko JZ
  have JL:=Dv (C:=Cc K) (_D.aT C22 (by walk_at "b1")) eq JC JE JO JD JW Kn Ko
  have K9:=Dw (P:=l.prog) (w:=w) (mg:=mg) (base:=base) (C:=Cc K) (_D.aT C32 (by walk_at "b3")) eq
  have K7:=Dx (C:=Cc K) (_D.aT C38 (by walk_at "b3")) eq JD JF JU JM JY KA KB
  have KF:=AZ (P:=l.prog) (w:=w) (mg:=mg) (base:=base) (C:=Cc K) (_D.aT C35 (by walk_at "b3")) eq JP JC JU JM Km LM
  have KS:=yY (P:=l.prog) (w:=w) (mg:=mg) (base:=base) (C:=Cc K) (_D.aT C36 (by walk_at "b3")) eq JC JU JM
  have L6:=Dy (P:=l.prog) (w:=w) (mg:=mg) (base:=base) (C:=Cc K) (_D.fL X G MI MA MB C3 (by walk_at "b5")) JU JM KE Km Kf
  have Kv:=A0 (C:=Cc K) (_D.aT C33 (by walk_at "b3")) eq JQ JC JK Ku JD JF L6 JY KA KB Kq Lv L9
  have KN:=Dz (C:=Cc K) (_D.aT C34 (by walk_at "b2")) eq JK JR JU JM JY Li
  have Lb:=A3 (C:=Cc K) (_D.aT C37 (by walk_at "b5")) eq JC JU JM Kf K7 JY Kv LP Ml Mm
  have Ki:=A4 (C:=Cc K) (_D.aT C25 (by walk_at "b1")) eq JO JE JR Kv JY K9 Lj
  have La:=Ii (P:=l.prog) (w:=w) (mg:=mg) (base:=base) (_D.aV X G e7 rfl (by walk_at "b1")) J9
  have LH:=Ij (P:=l.prog) (w:=w) (mg:=mg) (base:=base) (_D.aV X G e8 rfl (by walk_at "b1"))
  have Lh:=Ik (P:=l.prog) (w:=w) (mg:=mg) (base:=base) (_D.aV X G e6 rfl (by walk_at "b1"))
  have LR:=A5 (P:=l.prog) (w:=w) (mg:=mg) (base:=base) (_D.aV X G e9 rfl (by walk_at "b3"))
  have KP:=B2 (_D.aV X G e19 rfl (by walk_at "b2")) Lp Lh 3 (by decide)
  have Lc:=Im (P:=l.prog) (w:=w) (mg:=mg) (base:=base) (_D.aV X G e20 rfl (by walk_at "b1")) JZ
  have KZ:=Ip (P:=l.prog) (w:=w) (mg:=mg) (base:=base) (_D.aV X G e21 rfl (by walk_at "b1"))
  have Lk:=Iq (_D.aV X G e22 rfl (by walk_at "b3")) KZ
  have K0:=Ir (C:=Cc K) (n:=4) (_D.aT C41 (by walk_at "b3")) eq JF JU JM Kf Lq KS
  have Le:=Iu (C:=Cc K) (N:=4) (_D.aT C40 (by walk_at "b4")) eq K0 La Lk LR KZ LH Lb
  have Kw:=Iw (C:=Cc K) (N:=4) (M:=3) (_D.aT C39 (by walk_at "b2")) eq Kp JU KE Km KP Lc KN KF Le
  have Kg:=DB (C:=Cc K) (N:=4) (M:=3) (_D.aT C24 (by walk_at "b1")) eq JF JJ JC JP JK JD JL JW Ki Kw Ky Kz Ln
  have KW:=GA (P:=l.prog) (w:=w) (mg:=mg) (base:=base) (C:=Cc K) (_D.aT C27 (by walk_at "b1")) eq JC
  have KY:=GB (P:=l.prog) (w:=w) (mg:=mg) (base:=base) (C:=Cc K) (_D.aT C26 (by walk_at "b1")) eq J8 J9
  have Mf:=wZ (P:=l.prog) (w:=w) (mg:=mg) (base:=base) (_D.aV X G e10 rfl (by walk_at "b1")) Kl J9 KH 4
  have KG:=wZ (P:=l.prog) (w:=w) (mg:=mg) (base:=base) (_D.aV X G e10 rfl (by walk_at "b1")) Kl J9 KH 7
  have JS:=DD (C:=Cc K) (_D.aT C28 (by walk_at "b1")) eq JU JM KE Km Kf JK JF JR Ka JD KQ J9 Ll Lf KJ KL
  have Ld:=DF (C:=Cc K) (_D.aT C29 (by walk_at "b1")) eq JQ JO JE JZ JS Mf
  have Lm:=zm (P:=l.prog) (w:=w) (mg:=mg) (base:=base) (C:=Cc K) (_D.aT C11 (by walk_at "b3")) J0 J6 J7 Kj KC Kh Kr JV JX J1 J2 Lv Kq J9
  have K1:=Ag.ok_LStand (P:=l.prog) (w:=w) (mg:=mg) (base:=base) (_D.aT C20 (by walk_at "b2")) JN JI
  have K2:=Ag.ok_HStand (P:=l.prog) (w:=w) (mg:=mg) (base:=base) (_D.aT C21 (by walk_at "b2")) JG JH
  have K5:=Bh (C:=Cc K) (_D.aT C30 (by walk_at "b2")) eq JK JR Ka JD JQ JO JE JF JJ J8 JC Lm K1 K2 Kq Lv J9 JZ
  have Lz:=IA (C:=Cc K) (D5 Mt MC MD (_D.aT C42 (by walk_at "b4"))) eq Ku K3 Ka JO JE JD JR JK JQ JF JJ JP J8 JC Kq KH KG LS
  have KR:=IB (C:=Cc K) (_D.fL X G Me Mc Md C6 (by walk_at "b4")) eq Kp Kq KG Lz
  have JT:=DG (P:=l.prog) (w:=w) (mg:=mg) (base:=base) (_D.aV X G e23 rfl (by walk_at "b2")) Kk
  have Kd:=DH (C:=Cc K) (N:=4) (M:=3) (_D.aV X G e24 rfl (by walk_at "b4")) KI Ls KR JL Kg
  have LN:=Bj (C:=Cc K) (N:=4) (M:=3) (_D.aT C24 (by walk_at "b1")) eq JF JJ JC JP JK JD JL JW Ki Kw Ky Kz Ln
  have Kb:=zp (C:=Cc K) (N:=4) (M:=3) (_D.aV X G e25 rfl (by walk_at "b3")) KW JL KY JS LN Mt kYd Kl
  have LJ:=GN (_D.aV X G e26 rfl (by walk_at "b1")) JT
  have KO:=IK (C:=Cc K) (_D.aV X G e27 rfl (by walk_at "b1")) JT LJ Kd Kb JS
  have Lg:=IM (C:=Cc K) (_D.aV X G e28 rfl (by walk_at "b1")) JT Kd Kb JS Kk LO
  have LB:=IS (C:=Cc K) (_D.aV X G e29 rfl (by walk_at "b1")) JT Kd Kb JS Kk
  have LC:=IT (C:=Cc K) (_D.aV X G e30 rfl (by walk_at "b1")) JT Kd Kb K5 Ld KR KI JL Kg Kk Mn
  exact Ho FL JT KO Lg LB LC Mo
set_option maxRecDepth 1000000 in
theorem D6(h:PySem.Challenge.rw_rerunyard_k33_stops_known.row.wellSaid=true->PySem.Challenge.rw_rerunyard_k33_stops_known.row.Holds):PySem.Challenge.rw_rerunyard_k33_stops_known.Holds:=PySem.W.holds_law (by rw [Rm];kernel_rfl) h
abbrev xi(p:OR)(w:OV):Prop:=∀os:Rk,_D.wH p w 200 (_D.wK p (SS p [54]) (_D.gY p "law") (λ_=>true) (see p) w) 40 (_D.ss w os) (SX p)=some (true,PySem.W.openGood (SS p [54]) (_D.gY p "law"),saw p w)
theorem IU(w:OV):xi PySem.Challenge.pw_rerunyard_k33_stops_known (w.withFollow "special-get-raises" false):=λos=>by kernel_rfl
theorem IV(w:OV):xi PySem.Challenge.pw_rerunyard_k33_stops_known (w.withFollow "special-get-raises" true):=λos=>by kernel_rfl
theorem JB(w:OV):xi PySem.Challenge.pw_rerunyard_k33_stops_known w:=(PySem.W.byRow2 "special-get-raises" (P:=λw=>xi PySem.Challenge.pw_rerunyard_k33_stops_known w) IU IV) w
end _K
open PySem PySem.W PyProof.Rows
set_option maxRecDepth 100000 in
set_option maxHeartbeats 0 in
theorem PySem.Challenge.cw_rerunyard_k33_stops_known_holds : PySem.Challenge.rw_rerunyard_k33_stops_known.Holds := by
 refine _K.D6 λsaid=>?_
 refine _D.yw (l:=PySem.Challenge.rw_rerunyard_k33_stops_known) (i:=54) (N:=8000) (m:=200) (n:=40) (see:=_K.see PySem.Challenge.pw_rerunyard_k33_stops_known) (saw:=_K.saw PySem.Challenge.pw_rerunyard_k33_stops_known) said rfl (λ_=>rfl) rfl rfl _K.JB (by rfl) (by rfl) (by rfl) (by decide) ⟨rfl,rfl,rfl,rfl,rfl,by decide⟩ ?hw ?hc
 case hw=>w_witness2
 case hc=>exact _D.Aw (l:=PySem.Challenge.rw_rerunyard_k33_stops_known) (n:=63) (k:=31) (x:="script") (CX:=_L.CX0) (sp:=_L.wm) rfl (by decide) rfl ⟨rfl,by decide,by decide⟩ (λw K mg fa h S X G hfa=>_K.Hq S X G hfa) (λ_ _ a ns hl _ hS=>⟨a,ns,rfl,hS,hl,λ_=>rfl⟩) λ_ _ _ _ z=>z
#print axioms PySem.Challenge.cw_rerunyard_k33_stops_known_holds
